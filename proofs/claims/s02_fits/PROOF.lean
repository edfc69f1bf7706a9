import PyProof.Rows.All
import Wide.All
import OpenK.AllK
import Wide.FinOn
import PyProof.EqAt
import PyProof.EqKinds
import PyProof.TupleCall
import Open.SpecLaws
import KE.OsGo
import HandS.ForSpec
import HandS.Comp
import HandS.Iter
import HandS.Walk
import HandS.ExcInit
import HandS.ExcField
import HandS.HotCalls
import HandS.WideBits
import HandS.Text
import PySem.Challenge.RW_patternmeans_s02_fits
set_option Elab.async false
set_option linter.all false
set_option maxRecDepth 100000
set_option maxHeartbeats 4000000
/-! Part B1: Fault(rule, place), an own exception class over Exception with an __init__ of two fields: its fields stored, made, raised. -/
namespace FX
open PySem PySem.W PySem.Calls PyProof.Rows PySem.HandSPX
open Builtin Builtin.ObjectAttr
abbrev exTail : List Value := [.type "Exception", .type "BaseException", .type "object"]
theorem fx_pass (self : Value) (C : Addr) : refuseLoop self "__setattr__" (.ref C :: exTail) = pure () := (refuseLoop_ref ..).trans (F.store_Exception.passes self)
section
variable {prog : Program} {w : World} {A : Around} {R : Result → Shared → Prop} {hp : Heap} {g : Array GenState} {d : Drawn} {t : Nat} {os : OsState} {K : Frag} {name : Str} {tk : Tok} {v : Value} {x C dx : Addr} {fv : Array Value} {cd : ClassData}
/-- the first field: the exception gets its dict -/
theorem fx_first (X : K.In hp) (hx : hp.get? x = some { cls := .ref C, data := .fields fv }) (hc : clsIn K C = some cd) (hm : cd.mro = .ref C :: exTail) (hh : cd.hasDict = true) (ha : findIn K (.ref C) name = some none)
    (hq : ∀ h' tk' dx, (∀ b o, b ≠ x → hp.get? b = some o → h'.get? b = some o) → hp.objs.size ≤ dx → dx ≠ x → h'.get? x = some { cls := .ref C, dict := some dx, data := .fields fv } → h'.Ns1 dx (fun y => if y = name then some v else none) → R (.ok (.ret .none)) ⟨h', g, d, tk', os⟩) :
    codeAny (model prog w) A (.call (.builtin "object.__setattr__") ⟨[.ref x, .str name tk, v], []⟩) R ⟨hp, g, d, t, os⟩ := by
  have J : InstAt hp x { cls := .ref C, data := .fields fv } C none := ⟨hx, rfl, rfl, trivial⟩
  have S := F.store_object
  have nx : x ≠ hp.objs.size := Nat.ne_of_lt (Heap.lt_size hx)
  have isO : Looks (model prog w) hp (isInstance (.ref x) (.type "object")) true := J.type.andThen (looks_mroIn X (by
    unfold mroIn
    rw [hc, Option.bind_some, hm]
    exact if_neg Bool.false_ne_true))
  refine codeAny_call_builtin S.slot.plain S.entry (@check_slot (model prog w) _ _ ⟨hp, g, d, t, os⟩ "object.__setattr__" "object" "__setattr__" (.ref x) [.str name tk, v] [] _ S.kind S.split isO (S.args (.ref x) (.str name tk) v) ?_)
  have lm : Looks (model prog w) hp (mroOf (.ref C)) (.ref C :: exTail) := by
    rw [← hm]
    exact (looks_clsIn X hc).andThen .now
  have lc : Looks (model prog w) hp (classData C) cd := looks_clsIn X hc
  have ln : Looks (model prog w) hp (storeTaker? none) none := .now
  rw [osa_eq, refuse_eq]
  refine wpAny_bind (wpAny_bind (J.type.at (wpAny_bind (lm.at ?_))))
  rw [fx_pass]
  refine wpAny_pure (wpAny_bind (J.type.at (wpAny_bind ((looks_findIn X ha).at (wpAny_bind (ln.at ?_))))))
  show wpAny _ _ (storeInOwnDict (.ref x) (.ref C) (.str name tk) name v false) _ _ _
  obtain ⟨nm, bs, mro, ns, qn, hd, sn, sb, ab, col, del⟩ := cd
  dsimp only at hh
  subst hh
  unfold storeInOwnDict ownDictForStores
  repeat (first | with_reducible refine store_in_new ?_ ?_ | with_reducible refine wpAny_loadPart_at hx ?_ | with_reducible refine lc.at ?_ | wp_step)
  · exact ⟨_, #[], _, (Heap.get?_update_ne _ _ _ _ nx.symm).trans (Heap.get?_push_at rfl rfl), rfl, fun e z => absurd z (by simp), fun _ => rfl⟩
  · intro h' tk' hn' hs
    have hx2 : (hp.push { cls := .type "dict", data := .dict #[] }).get? x = some { cls := .ref C, data := .fields fv } := Heap.get?_push_of_some _ hx
    refine hq h' tk' hp.objs.size (fun b o hb ho => ?_) (Nat.le_refl _) nx.symm ((hs.2 x nx).trans (Heap.get?_update_self _ hx2 rfl)) hn'
    exact (hs.2 b (Nat.ne_of_lt (Heap.lt_size ho))).trans ((Heap.get?_update_ne _ _ _ _ hb).trans (Heap.get?_push_of_some _ ho))
/-- a further one -/
theorem fx_more {m0 : Str → Option Value} {nl : List Str} (X : K.In hp) (hx : hp.get? x = some { cls := .ref C, dict := some dx, data := .fields fv }) (hns : hp.Ns1 dx m0) (hw : Within m0 nl) (hz : nl.length ≤ 1000) (hc : clsIn K C = some cd) (hm : cd.mro = .ref C :: exTail) (hh : cd.hasDict = true)
    (ha : findIn K (.ref C) name = some none)
    (hq : ∀ h' tk', (∀ b o, b ≠ dx → hp.get? b = some o → h'.get? b = some o) → h'.Ns1 dx (fun y => if y = name then some v else m0 y) → R (.ok (.ret .none)) ⟨h', g, d, tk', os⟩) :
    codeAny (model prog w) A (.call (.builtin "object.__setattr__") ⟨[.ref x, .str name tk, v], []⟩) R ⟨hp, g, d, t, os⟩ := by
  obtain ⟨oD, _, _, hoD, _, _⟩ := hns.count hw
  have J : InstAt hp x { cls := .ref C, dict := some dx, data := .fields fv } C (some oD) := ⟨hx, rfl, rfl, hoD⟩
  have S := F.store_object
  have isO : Looks (model prog w) hp (isInstance (.ref x) (.type "object")) true := J.type.andThen (looks_mroIn X (by
    unfold mroIn
    rw [hc, Option.bind_some, hm]
    exact if_neg Bool.false_ne_true))
  refine codeAny_call_builtin S.slot.plain S.entry (@check_slot (model prog w) _ _ ⟨hp, g, d, t, os⟩ "object.__setattr__" "object" "__setattr__" (.ref x) [.str name tk, v] [] _ S.kind S.split isO (S.args (.ref x) (.str name tk) v) ?_)
  have lm : Looks (model prog w) hp (mroOf (.ref C)) (.ref C :: exTail) := by
    rw [← hm]
    exact (looks_clsIn X hc).andThen .now
  have lc : Looks (model prog w) hp (classData C) cd := looks_clsIn X hc
  have ln : Looks (model prog w) hp (storeTaker? none) none := .now
  rw [osa_eq, refuse_eq]
  refine wpAny_bind (wpAny_bind (J.type.at (wpAny_bind (lm.at ?_))))
  rw [fx_pass]
  refine wpAny_pure (wpAny_bind (J.type.at (wpAny_bind ((looks_findIn X ha).at (wpAny_bind (ln.at ?_))))))
  show wpAny _ _ (storeInOwnDict (.ref x) (.ref C) (.str name tk) name v false) _ _ _
  obtain ⟨nm, bs, mro, ns, qn, hd, sn, sb, ab, col, del⟩ := cd
  dsimp only at hh
  subst hh
  unfold storeInOwnDict ownDictForStores
  repeat (first | with_reducible refine PySem.OEX.store_in_old hns hw hz ?_ | with_reducible refine wpAny_loadPart_at hx ?_ | with_reducible refine lc.at ?_ | wp_step)
  intro h' tk' hn' hs
  exact hq h' tk' (fun b o hb ho => (hs.2 b hb).trans ho) hn'
end
end FX
/-! Part B2: the class Fault as the top has written it; Fault(rule, place) made and raised; its fields read where it is handled, also within a def that is called there. -/
namespace FX
open PySem PySem.W PySem.Calls PyProof.Rows PySem.HandSPX
/-! ### the text of __init__ -/
def iA (p1 p2 p3 : Pos) : Arguments := { posonlyargs := [], args := [{ arg := "self", annotation := none, pos := p1 }, { arg := "rule", annotation := none, pos := p2 }, { arg := "place", annotation := none, pos := p3 }], vararg := none, kwonlyargs := [], kw_defaults := [], kwarg := none, defaults := [] }
def iB (q1 q2 q3 q4 r1 r2 r3 r4 : Pos) : List Stmt := [.Assign [.Attribute (.Name "self" q1) "rule" q2] (.Name "rule" q3) q4, .Assign [.Attribute (.Name "self" r1) "place" r2] (.Name "place" r3) r4]
def iS : Scope := { kind := .function, names := [(PySem.Str.ofString "self", .local), (PySem.Str.ofString "rule", .local), (PySem.Str.ofString "place", .local)], isGenerator := false, isCoroutine := false, more := [] }
/-- what the written part says of Fault, at C, and of its __init__, at fI -/
structure FaultTxt (K : Frag) (mg : Str → Option Value) (C fI : Addr) : Prop where
  gC : mg "Fault" = some (.ref C)
  cls : ∃ nm q N bs sn sub ab col dd k0 k1 k2 k3 k5, K.lookup C = some (excClassObj nm q C N bs exTail true sn sub ab col dd k0 k1 k2 k3 k5 "Exception.__new__")
  sa : findIn K (.ref C) "__setattr__" = some (some (.builtin "object.__setattr__"))
  ga : findIn K (.ref C) "__getattribute__" = some (some (.builtin "BaseException.__getattribute__"))
  gg : findIn K (.ref C) "__getattr__" = some none
  nR : findIn K (.ref C) "rule" = some none
  nP : findIn K (.ref C) "place" = some none
  iC : findIn K (.ref C) "__init__" = some (some (.ref fI))
  tC : typeIn K (.ref fI) = some (.type "function")
  kC : keepIn K (.ref C) = true
  exC : subIn K (.ref C) (.type "BaseException") = some true
  tyC : typeIn K (.ref C) = some (.type "type")
  hdC : hasDictIn K C = true
  te : exmOne K (.ref C) (.ref C) = some true
  fn : ∃ (oc : Value) (od : Option Addr) (doc pm : Value) (an : Option Addr) (cdv ct : Value) (osl : Array (Option Value)) (p1 p2 p3 q1 q2 q3 q4 r1 r2 r3 r4 : Pos),
    K.lookup fI = some ⟨oc, od, .func (fnOf "__init__" "Fault.__init__" (iA p1 p2 p3) (iB q1 q2 q3 q4 r1 r2 r3 r4) iS .none .none doc pm an cdv ct), osl⟩ ∧ codeIn K cdv "Fault.__init__" = true
theorem two_size (v u : Value) : [v, u].length ≤ sizeLine := by
  rw [sizeLine_eq]
  exact (by decide : 2 ≤ 16777216)
theorem ldC {M : Model} {s : Shared} {name : Str} {scope : Scope} {L a : Addr} {cd : Value} {m : Str → Option Value} {x : Str} {pos : Pos} {v : Value} {Q : Value → Shared → Prop} {A : Around} {E : Value → Shared → Prop} (hn : s.heap.Ns L m) (hv : m x = some v) (h : Q v s)
    (hk : scope.kind = .function := by rfl) (hl : (envOfC name scope L a cd).kindOf x = some .local := by rfl) (hd : (x == ("__debug__" : Str)) = false := by decide) :
    wpAny M A (eval (.Name x pos) (envOfC name scope L a cd)) Q E s := wpAny_Name (wpAny_loadName_local hk hl hn hv h) hd
/-- the fields behind both stores -/
abbrev fldN (v u : Value) : Str → Option Value := fun y => if y = "place" then some u else if y = "rule" then some v else none
/-- what __init__ leaves of a fresh exception at x -/
structure InitEnd (h h' : Heap) (x C dx t1 : Addr) (v u : Value) : Prop where
  keep : ∀ b o, b ≠ x → h.get? b = some o → h'.get? b = some o
  obj : h'.get? x = some { cls := .ref C, dict := some dx, data := .fields #[.ref t1, .none, .none, .none, .bool false, .none] }
  dbig : h.objs.size ≤ dx
  dne : dx ≠ x
  ns : h'.Ns1 dx (fldN v u)
/-- a made Fault -/
structure OwnMade (h h' : Heap) (e C d : Addr) (v u : Value) : Prop where
  keep : ∀ b o, h.get? b = some o → h'.get? b = some o
  new : h.objs.size ≤ e
  obj : ∃ oe vs, h'.get? e = some oe ∧ oe.cls = .ref C ∧ oe.dict = some d ∧ oe.data = .fields vs ∧ vs[1]? = some .none
  dbig : h.objs.size ≤ d
  dne : d ≠ e
  ns : h'.Ns1 d (fldN v u)
theorem kept_but {K : Frag} {h h' : Heap} {x : Addr} (X : K.In h) (hx : K.lookup x = none) (k : ∀ b o, b ≠ x → h.get? b = some o → h'.get? b = some o) : K.In h' := fun a o e =>
  k a o (fun z => by rw [z, hx] at e; cases e) (X a o e)
section
variable {prog : Program} {w : World} {A : Around} {E : Value → Shared → Prop} {R : Result → Shared → Prop} {s : Shared} {K : Frag} {mg : Str → Option Value} {C fI : Addr}
theorem fault_init (T : FaultTxt K mg C fI) {x t0 : Addr} {v u : Value} (X : K.In s.heap) (hlim : s.heap.NoLimit) (hx : s.heap.get? x = some (excO C t0)) (hnx : K.lookup x = none) (hroom : A.depth < recursionLimit)
    (hq : ∀ h' tk dx, InitEnd s.heap h' x C dx t0 v u → R (.ok (.ret .none)) { s with heap := h', toks := tk }) :
    codeAny (model prog w) A (.call (.ref fI) ⟨[.ref x, v, u], []⟩) R s := by
  obtain ⟨oc, od, doc, pm, an, cdv, ct, osl, p1, p2, p3, q1, q2, q3, q4, r1, r2, r3, r4, ho, hcd⟩ := T.fn
  obtain ⟨nm, q, N, bs, sn, sub, ab, col, dd, k0, k1, k2, k3, k5, hC⟩ := T.cls
  have hcl : clsIn K C = some { name := nm, bases := bs, mro := .ref C :: exTail, ns := N, qualname := q, hasDict := true, slotNames := sn, subclasses := sub, abstract := ab, collection := col, hasDel := false } := by unfold clsIn; rw [hC] <;> rfl
  refine Att.call_fn (binds := [("self", .ref x), ("rule", v), ("place", u)]) X hlim ho hcd hroom (BindsTo.of_eq (by first | rfl | with_unfolding_all rfl)) (by first | rfl | decide | with_unfolding_all rfl) (fun s₁ IC => ?_) rfl rfl rfl
  obtain ⟨h₁, tk₁, rfl⟩ := IC.toInCall.same
  have k : ∀ b o, s.heap.get? b = some o → h₁.get? b = some o := IC.toInCall.keep
  have hn := IC.toInCall.ns
  have X₁ : K.In h₁ := X.keeps k
  have hx₁ := k _ _ hx
  -- the frame's own dict is another object than the exception
  obtain ⟨oN, esN, epN, hoN, hdN, hrN⟩ := id hn
  -- self.rule = rule
  show wpAny _ _ (execs _ _) _ _ _
  refine wpAny_execs_cons (plainObj_wpAny_Assign_Attribute ?_)
  refine ldC (v := v) hn (by first | rfl | with_unfolding_all rfl | kernel_rfl) (ldC (v := .ref x) hn (by first | rfl | with_unfolding_all rfl | kernel_rfl) ?_)
  refine set_plain X₁ (ox := excO C t0) (od := none) ⟨hx₁, rfl, rfl, trivial⟩ T.sa ?_
  refine fx_first X₁ hx₁ hcl rfl rfl T.nR (fun h₃ tk₃ dx k₃ dn dne hx₃ hn₃ => ?_)
  have z : s.heap.objs.size < h₁.objs.size := hn.lt
  have X₃ : K.In h₃ := kept_but X₁ hnx k₃
  have hn2 := hn.at fun o e => k₃ _ _ (Nat.ne_of_gt (Heap.lt_size hx)) e
  obtain ⟨oD, _, _, hoD, _, _⟩ := hn₃.count (Within.cons "rule" v Within.nil)
  -- self.place = place
  show wpAny _ _ (execs _ _) _ _ _
  refine wpAny_execs_cons (plainObj_wpAny_Assign_Attribute ?_)
  refine ldC (v := u) hn2 (by first | rfl | with_unfolding_all rfl | kernel_rfl) (ldC (v := .ref x) hn2 (by first | rfl | with_unfolding_all rfl | kernel_rfl) ?_)
  refine set_plain X₃ (ox := { cls := .ref C, dict := some dx, data := .fields #[.ref t0, .none, .none, .none, .bool false, .none] }) (od := some oD) ⟨hx₃, rfl, rfl, hoD⟩ T.sa ?_
  refine fx_more X₃ hx₃ hn₃ (Within.cons "rule" v Within.nil) (by decide) hcl rfl rfl T.nP (fun h₄ tk₄ k₄ hn₄ => ?_)
  show wpAny _ _ (execs _ _) _ _ _
  refine wpAny_execs_nil (hq h₄ tk₄ dx ⟨fun b o hb e => ?_, k₄ x _ (Ne.symm dne) hx₃, Nat.le_of_lt (Nat.lt_of_lt_of_le z dn), dne, hn₄⟩)
  have hbd : b ≠ dx := Nat.ne_of_lt (Nat.lt_of_lt_of_le (Nat.lt_trans (Heap.lt_size e) z) dn)
  exact k₄ b o hbd (k₃ b o hb (k b o e))
theorem fault_made (T : FaultTxt K mg C fI) {v u : Value} (X : K.In s.heap) (hlim : s.heap.NoLimit) (hroom : A.depth + 1 < recursionLimit)
    (hq : ∀ h' tk e d, OwnMade s.heap h' e C d v u → R (.ok (.ret (.ref e))) { s with heap := h', toks := tk }) :
    codeAny (model prog w) A (.call (.ref C) ⟨[v, u], []⟩) R s := by
  obtain ⟨nm, q, N, bs, sn, sub, ab, col, dd, k0, k1, k2, k3, k5, hC⟩ := T.cls
  obtain ⟨hp, g, dr, tk, os⟩ := s
  have k : ∀ b o, hp.get? b = some o → ((hp.push (kdv_tup [v, u])).push (excO C hp.objs.size)).get? b = some o := fun b o e => Heap.get?_push_of_some _ (Heap.get?_push_of_some _ e)
  have hget : ((hp.push (kdv_tup [v, u])).push (excO C hp.objs.size)).get? (hp.objs.size + 1) = some (excO C hp.objs.size) := by heap_get
  have hnx : K.lookup (hp.objs.size + 1) = none := by
    cases e : K.lookup (hp.objs.size + 1) with
    | none => rfl
    | some o =>
      have z : hp.get? (hp.objs.size + 1) = some o := X _ _ e
      exact absurd (Nat.lt_of_succ_lt (Heap.lt_size z)) (Nat.lt_irrefl _)
  refine call_own F.excBase_Exception (fun X => rfl) (X _ _ hC) (looks_findIn X T.iC) (fun self => bind_fn X self T.tC) (two_size v u) ?_
  refine fault_init (s := ⟨(hp.push (kdv_tup [v, u])).push (excO C hp.objs.size), g, dr, tk, os⟩) T (X.keeps k) (hlim.keeps k) hget hnx ?_ fun h' tk' dx ⟨k', hx, dn, dne, hns⟩ => ?_
  · show A.depth + 1 < recursionLimit
    exact hroom
  · have old : ∀ b o, hp.get? b = some o → h'.get? b = some o := fun b o e => k' b o (Nat.ne_of_lt (Nat.lt_succ_of_lt (Heap.lt_size e))) (k b o e)
    have z : hp.objs.size + 1 + 1 ≤ dx := by
      first
        | (simpa only [Heap.size_push] using dn)
        | exact dn
        | (have q := dn; rw [Heap.size_push, Heap.size_push] at q; exact q)
    exact ⟨rfl, hq h' tk' (hp.objs.size + 1) dx ⟨old, Nat.le_succ _, ⟨_, _, hx, rfl, rfl, rfl, rfl⟩, Nat.le_trans (Nat.le_trans (Nat.le_succ _) (Nat.le_succ _)) z, dne, hns⟩⟩
end
end FX
namespace L2
open PySem PySem.Spec PyProof.Rows
abbrev flt (v u : V) : List (Str × V) := [(("rule" : Str), v), (("place" : Str), u)]
theorem lk_rule {v u : V} : List.lookup ("rule" : Str) (flt v u) = some v := by simp [List.lookup]
theorem lk_place {v u : V} : List.lookup ("place" : Str) (flt v u) = some u := by
  have e : (("place" : Str) == "rule") = false := by decide +kernel
  simp [List.lookup, e]
theorem relO_flt {v u : V} {v' u' : Value} (r : RelV v v') (r2 : RelV u u') (f : Str) : RelO (List.lookup f (flt v u)) (FX.fldN v' u' f) := by
  show RelO _ (if f = "place" then some u' else if f = "rule" then some v' else none)
  by_cases h2 : f = "place"
  · subst h2
    rw [if_pos rfl, lk_place]
    exact r2
  · rw [if_neg h2]
    by_cases h1 : f = "rule"
    · subst h1
      rw [if_pos rfl, lk_rule]
      exact r
    · rw [if_neg h1]
      have q1 : (f == ("rule" : Str)) = false := by simpa using h1
      have q2 : (f == ("place" : Str)) = false := by simpa using h2
      have q : List.lookup f (flt v u) = none := by simp [List.lookup, q1, q2]
      rw [q]
      trivial
section
variable {X : Cx} {C fI : Addr}
/-- Fault(e1, e2) -/
def tMkFlt (C : Addr) (ta : TA) : St → Hp → XK → Prop := fun σ H Q => ta σ H fun vs H1 => ∃ v u, vs = [v, u] ∧ ∀ d, H1 d = none → Q (.ref C) (some d) (upd H1 d (.xd (flt v u)))
theorem pmk_flt {a b : Expr} {ta : TA} {p pos : Pos} {k : Nat} (T : FX.FaultTxt X.K X.mg C fI) (hr : Room k X.A) (ha : PA X [a, b] ta) (hg : Gl X "Fault" := by rfl)
    (he : starEach (a :: [b]) X.env = (false, eval a X.env) :: starEach [b] X.env := by rfl) (hpl : (backTo pos (starEach [b] X.env)).any (·.1) = false := by rfl) :
    PMk X (.Call (.Name "Fault" p) [a, b] [] pos) (tMkFlt C ta) := by
  intro pins s σ H Q I h
  refine wpAny_Call_Name_kw (ld_glob I hg T.gC ?_)
  refine PySem.W.callWith_K (h₀ := X.base) I.ok.mod.kin T.kC (thn (ha.run pos pins s σ H _ I h) fun us s1 hh => ?_) he hpl
  obtain ⟨vs, H1, I1, r1, v, u, ev, q1⟩ := hh
  subst ev
  refine ⟨I1.kIn, ?_⟩
  cases r1 with
  | cons rv rn =>
    rename_i v' us'
    cases rn with
    | cons ru rm =>
      rename_i u' us2
      cases rm
      show wpAny _ _ (call (.ref C) [v', u']) _ _ _
      have hlim := I1.nolimit
      obtain ⟨hp, g, dr, tk, os⟩ := s1
      refine wpAny_call (FX.fault_made T I1.kIn hlim (by have := hr.dp; omega) fun h' tk' e d M => ?_)
      show MkP X pins σ Q (.ref e) ⟨h', g, dr, tk', os⟩
      obtain ⟨oe, fv, hoe, hc, hd, hdat, h1⟩ := M.obj
      have hns := M.ns
      obtain ⟨G', g1, g2⟩ := restrict h' fun b => decide (b ≠ e)
      have gk : ∀ b, b ≠ e → G'.get? b = h'.get? b := fun b hb => g1 b (decide_eq_true hb)
      have ge : G'.get? e = none := g2 e (by simp)
      have old : ∀ b o, hp.get? b = some o → G'.get? b = some o := fun b o q => (gk b (Nat.ne_of_lt (Nat.lt_of_lt_of_le (Heap.lt_size q) M.new))).trans (M.keep b o q)
      have ob : ObjOk X.prog X.w (upd H1 d (.xd (flt v u))) G' d (.xd (flt v u)) :=
        ⟨_, hns.at (fun o q => (gk d M.dne).trans q), fun f => relO_flt rv ru f⟩
      have J : Inv X pins σ (upd H1 d (.xd (flt v u))) ⟨G', g, dr, tk', os⟩ := I1.laid (t' := tk') old M.dbig ob
      refine ⟨e, oe, fv, ⟨G', g, dr, tk', os⟩, _, .ref C, some d, rfl, J, fun b o q => ?_, ge, hoe, ⟨hc, hd⟩, hdat, h1, ?_, rfl, I1.bare, raises_own T.exC T.tyC, q1 d (I1.hok.fresh M.dbig)⟩
      · by_cases hb : b = e
        · have q' : G'.get? b = some o := q
          rw [hb, ge] at q'; cases q'
        · exact (gk b hb).symm.trans q
      · rw [upd_ne (Ne.symm M.dne)]
        exact I1.hok.fresh M.new
/-- raise Fault(e1, e2) -/
def tRaiseFlt (C : Addr) (W : WX) (ta : TA) : TS := fun _ σ H => tMkFlt C ta σ H fun cls d H' => W cls d σ H'
theorem ps_raiseFlt {a b : Expr} {ta : TA} {W : WX} {p pos pos2 : Pos} {k : Nat} (hc : X.calm = true) (T : FX.FaultTxt X.K X.mg C fI) (hr : Room k X.A) (tk : Takes X W) (ha : PA X [a, b] ta) (hg : Gl X "Fault" := by rfl)
    (he : starEach (a :: [b]) X.env = (false, eval a X.env) :: starEach [b] X.env := by rfl) (hpl : (backTo pos (starEach [b] X.env)).any (·.1) = false := by rfl) :
    PS X (.Raise (some (.Call (.Name "Fault" p) [a, b] [] pos)) none pos2) (tRaiseFlt C W ta) := ps_raise hc tk (pmk_flt T hr ha hg he hpl)
end
end L2
/-! Part B3: a def called in the suite that handles a Fault, the Fault its argument: its fields are read there. -/
namespace FX
open PySem PySem.Spec PyProof.Rows L2 L2H
section
variable {X : Cx}
/-- e.n, e the exception that is handled (pinned: at a, its class cls, its dict d) -/
theorem pe_xfP {a C : Addr} {oe : Obj} {cls : Value} {d : Option Addr} {e : Expr} {te : TE} {pos : Pos} {n : Str} (T : XfC X.K C) (hno : PySem.W.findIn X.K (.ref C) n = some none) (hp : (a, oe) ∈ X.pn) (hz : Zc cls d oe) (hf : ∃ vs, oe.data = .fields vs) (he : PE X e te)
    (hb : attributeBase e n X.env (eval e X.env) = eval e X.env := by rfl) : PE X (.Attribute e n pos) (tXf a cls d C n te) := by
  refine ⟨fun pins s σ H Q I h => attr_of hb (thn (he.run pins s σ H _ I h) fun u s1 hh => ?_)⟩
  obtain ⟨x, H1, I1, rx, rfl, rfl, dd, fs, v, rfl, ea, l, q⟩ := hh
  obtain rfl : u = Value.ref a := rx
  have ha := (I1.pin (a, oe) (List.mem_append_left _ hp)).1
  obtain ⟨vs, hd⟩ := hf
  have hx : ObjOk X.prog X.w H1 s1.heap dd (.xd fs) := I1.hok dd _ ea
  obtain ⟨mA, hns, hr⟩ := hx
  obtain ⟨od, ho, hl⟩ := lookIn_ns hns
  obtain ⟨u, hu, ru⟩ := RelO.some_of (v := v) (o := mA n) (l ▸ hr n)
  have J : PySem.W.InstAt s1.heap a oe C (some od) := ⟨ha, hz.1, by unfold PySem.W.notCls; rw [hd] <;> rfl, by rw [hz.2]; exact ho⟩
  exact HandSPX.exc_get I1.kIn J T.ga T.gg T.exC (PySem.W.findObj_own T.hdC hno rfl (by rw [hl, hu])) (handed_of ru) ⟨v, H1, I1.tok _, ru, q⟩
variable {x qual : Str} {st : Stmt} {f : Addr} {fd : FuncData} {N ps : List Str} {k : Nat} {p : Addr × Obj}
/-- a call there, of a def that lets nothing out; p: a pinned object, which stays pinned in its body -/
theorem run_fnP {pins : List (Addr × Obj)} {σ : L2.St} {H : Hp} {s : Shared} {Q : VK} {us : List Value} {vs : List V} (hp : p ∈ X.pn) (D : Fun X.K x qual st f fd) (S : FnScope N ps (defScope st)) (hr : RoomH (k + 1) X.A) (hb : Binds X.K fd ps []) (I : Inv X pins σ H s) (r : Vals vs us) (hl : vs.length = ps.length)
    (body : ∀ (cdv : Value) (A : Around) (outer : List Env) (s : Shared), RoomH k (A.deeper (envOfC qual (defScope st) s.heap.objs.size f cdv)) →
      ∃ t, PSs (cxH CX0 X.prog X.w X.K X.mg X.base N qual (defScope st) f cdv A outer s H E0 p) (defBody st) t ∧ t { nx := fun _ H' => Q .non H', rt := Q } (L2.start N vs) H) :
    wpAny (model X.prog X.w) X.A (call (.ref f) us) (EP X pins σ Q) X.xe s := by
  have hlu : us.length = ps.length := by rw [← r.length]; exact hl
  have b := hb s us I.kIn (by rw [List.append_nil]; exact hlu)
  rw [List.append_nil] at b
  have P1 := I.pin p (List.mem_append_left _ hp)
  have hpin : PinOk X.stack H s p := ⟨P1.1, P1.2.1, fun hm => (List.mem_cons.mp (I.stkSub p.1 hm)).elim P1.2.2.1 P1.2.2.2.1, P1.2.2.2.2⟩
  have e0 := I.env0
  obtain ⟨oc, od, kV, doc, pm, an, cdv, ct, osl, rfl, lk, hcd⟩ := D.ex
  have lim : s.heap.NoLimit := e0.mod.nolimit.keeps fun b o e => (e0.bs b o e).1
  have kinds : ∀ y ∈ ps.zip us, (defScope st).names.lookup y.1 = some .local ∨ ((defScope st).names.lookup y.1 = some .cell ∧ ((cellsFrom (s.heap.objs.size + 1) (defScope st).names []).lookup y.1).isSome = true) := fun ⟨n, v⟩ hy =>
    (S.par n (List.of_mem_zip hy).1).elim .inl fun q => .inr ⟨q, PySem.W.cellsFrom_some _ _ _ (.inl q)⟩
  have go : codeAny (model X.prog X.w) X.A (.call (.ref f) ⟨us, []⟩) (CR CX0 X.stack X.prog X.w H s Q E0) s := by
    refine codeAny_call_function hr.depth (I.kIn _ _ lk) rfl S.co S.gen rfl (PySem.W.codeRec_of I.kIn hcd) (b _ _ _ _ ?_)
    refine wpAny_newFunctionEnv_cells S.kind kinds fun env he s1 y => ?_
    subst he
    refine ⟨lim.keeps y.toInCall.keep, codeAny_func ?_⟩
    obtain ⟨t, ht, hq⟩ := body cdv X.A X.stack s (hr.deeper _)
    have J : Inv (cxH CX0 X.prog X.w X.K X.mg X.base N qual (defScope st) f cdv X.A X.stack s H E0 p) [] (L2.start N vs) H s1 := inv_startH S hpin e0 hl r y
    refine wpAny_mono (ht.run [] s1 (L2.start N vs) H _ J hq) (fun fl s' hs => ?_) fun e s' hs => hs
    cases fl with
    | ret u =>
      obtain ⟨v, σ', H', J', rv, q⟩ := hs
      exact ⟨v, H', J'.os, J'.bare, J'.base, J'.hok, rv, q⟩
    | next =>
      obtain ⟨σ', H', J', q⟩ := hs
      exact ⟨V.non, H', J'.os, J'.bare, J'.base, J'.hok, rfl, q⟩
    | brk => exact hs.elim fun _ z => z.elim fun _ z => z.2.elim
    | cont => exact hs.elim fun _ z => z.elim fun _ z => z.2.elim
  refine wpAny_call (codeAny_mono go fun r s' hq => ?_)
  cases r with
  | error e => exact False.elim hq
  | ok fl =>
    cases fl with
    | ret u => exact I.after hq
    | next => exact False.elim hq
    | brk => exact False.elim hq
    | cont => exact False.elim hq
end
end FX
/-! Part A1: the reader's mirror, its small readers, and that they are the specification's. -/
namespace PF
open WrPatt
abbrev Flt := Nat × Nat
/-- the byte at a place, 256 behind the end -/
def now (p : List Nat) (i : Nat) : Nat := p.getD i 256
def Ok8 (p : List Nat) : Prop := ∀ x ∈ p, x < 256
def tx (p : List Nat) : Bytes := p.map UInt8.ofNat
def at_ (p : List Nat) (i : Nat) : In := ⟨i, (tx p).drop i⟩

def specials : List Nat := [92, 124, 38, 126, 42, 43, 63, 123, 125, 46, 94, 36, 40, 41, 91, 93, 45, 58]
def notPlain : List Nat := [92, 124, 38, 126, 42, 43, 63, 123, 125, 46, 94, 36, 40, 41, 91, 93]
def notPlainSet : List Nat := [93, 45, 94]
def notAtoms : List Nat := [126, 124, 38, 41]
def printed (c : Nat) : Bool := decide (32 ≤ c) && decide (c ≤ 126)
def digit (c : Nat) : Bool := decide (48 ≤ c) && decide (c ≤ 57)
def hexv (c : Nat) : Option Nat := if 48 ≤ c ∧ c ≤ 57 then some (c - 48) else if 65 ≤ c ∧ c ≤ 70 then some (10 + c - 65) else if 97 ≤ c ∧ c ≤ 102 then some (10 + c - 97) else none
def readHex (p : List Nat) (i : Nat) : Except Flt (Nat × Nat) := match hexv (now p i) with
  | some v => .ok (v, i + 1)
  | none => .error (1, i)
def readHex2 (p : List Nat) (i : Nat) : Except Flt (Nat × Nat) := match readHex p i with
  | .error e => .error e
  | .ok (u, j) => match readHex p j with
    | .error e => .error e
    | .ok (l, k) => .ok (16 * u + l, k)
def readEscaped (p : List Nat) (i : Nat) : Except Flt (Nat × Nat) := if now p i = 110 then .ok (10, i + 1) else if now p i = 116 then .ok (9, i + 1) else if now p i = 120 then readHex2 p (i + 1)
  else if specials.contains (now p i) = true then .ok (now p i, i + 1) else .error (1, i)
def readPlain (barred p : List Nat) (i : Nat) : Except Flt (Nat × Nat) := if printed (now p i) = true ∧ barred.contains (now p i) = false then .ok (now p i, i + 1) else .error (1, i)
def readSetByte (p : List Nat) (i : Nat) : Except Flt (Nat × Nat) := if now p i = 92 then readEscaped p (i + 1) else readPlain notPlainSet p i
def readItem (p : List Nat) (i : Nat) : Except Flt ((Nat × Nat) × Nat) := match readSetByte p i with
  | .error e => .error e
  | .ok (a, j) => if now p j = 45 then (match readSetByte p (j + 1) with
      | .error e => .error e
      | .ok (b, k) => if b < a then .error (3, j + 1) else .ok ((a, b), k)) else .ok ((a, a), j)
/-- items up to the ], which is taken, too -/
def readItems (p : List Nat) : Nat → Nat → Except Flt (List (Nat × Nat) × Nat)
  | 0, i => .error (1, i)
  | f + 1, i => if now p i = 93 then .ok ([], i + 1) else match readItem p i with
    | .error e => .error e
    | .ok (x, j) => match readItems p f j with
      | .error e => .error e
      | .ok (l, k) => .ok (x :: l, k)
/-- behind the [ -/
def readSet (p : List Nat) (i : Nat) : Except Flt ((Bool × List (Nat × Nat)) × Nat) := match readItem p (if now p i = 94 then i + 1 else i) with
  | .error e => .error e
  | .ok (x, j) => match readItems p (p.length + 1) j with
    | .error e => .error e
    | .ok (l, k) => .ok ((decide (now p i = 94), x :: l), k)
def readDigits (p : List Nat) (first : Nat) : Nat → Nat → Nat → Except Flt (Nat × Nat)
  | 0, n, i => .ok (n, i)
  | f + 1, n, i => if digit (now p i) = true then (if n = 0 ∧ first < i then .error (1, i) else readDigits p first f (n * 10 + now p i - 48) (i + 1)) else .ok (n, i)
def readNumber (p : List Nat) (least i : Nat) : Except Flt (Nat × Nat) := match readDigits p i (p.length + 1) 0 i with
  | .error e => .error e
  | .ok (n, j) => if j = i then .error (1, i) else if 100 < n ∨ n < least then .error (2, i) else .ok (n, j)
def need (p : List Nat) (c i : Nat) : Except Flt Nat := if now p i = c then .ok (i + 1) else .error (1, i)
/-- behind the { -/
def readNumbers (p : List Nat) (i : Nat) : Except Flt ((Nat × Option Nat) × Nat) := match readNumber p 0 i with
  | .error e => .error e
  | .ok (n, j) => if now p j = 44 then (if now p (j + 1) = 125 then .ok ((n, none), j + 2) else match readNumber p n (j + 1) with
      | .error e => .error e
      | .ok (m, k) => match need p 125 k with
        | .error e => .error e
        | .ok l => .ok ((n, some m), l))
    else match need p 125 j with
      | .error e => .error e
      | .ok l => .ok ((n, some n), l)
def readCount (p : List Nat) (i : Nat) : Except Flt (Option (Nat × Option Nat) × Nat) := if now p i = 42 then .ok (some (0, none), i + 1) else if now p i = 43 then .ok (some (1, none), i + 1) else if now p i = 63 then .ok (some (0, some 1), i + 1)
  else if now p i = 123 then (match readNumbers p (i + 1) with
    | .error e => .error e
    | .ok (c, j) => .ok (some c, j)) else .ok (none, i)

/-! ### what stands at a place -/
theorem now_lt {p : List Nat} {i : Nat} (h : i < p.length) : now p i = p[i] := by
  unfold now; simp [List.getD, List.getElem?_eq_getElem h]
theorem now_ge {p : List Nat} {i : Nat} (h : p.length ≤ i) : now p i = 256 := by
  unfold now; simp [List.getD, List.getElem?_eq_none h]
theorem now_byte {p : List Nat} (hp : Ok8 p) {i : Nat} (h : i < p.length) : now p i < 256 := by
  rw [now_lt h]; exact hp _ (List.getElem_mem h)
theorem lt_of_now {p : List Nat} {i : Nat} (h : now p i ≠ 256) : i < p.length := by
  rcases Nat.lt_or_ge i p.length with q | q
  · exact q
  · exact absurd (now_ge q) h
theorem tx_length (p : List Nat) : (tx p).length = p.length := by unfold tx; simp
theorem at_next (p : List Nat) (i : Nat) : (at_ p i).next = at_ p (i + 1) := by
  unfold at_ In.next; simp [List.drop_drop]
theorem at_nil {p : List Nat} {i : Nat} (h : p.length ≤ i) : (at_ p i).b = [] := by
  unfold at_; exact List.drop_eq_nil_of_le (by rw [tx_length]; exact h)
theorem at_cons {p : List Nat} {i : Nat} (h : i < p.length) : (at_ p i).b = UInt8.ofNat (now p i) :: (at_ p (i + 1)).b := by
  have h' : i < (tx p).length := by rw [tx_length]; exact h
  show (tx p).drop i = _ :: (tx p).drop (i + 1)
  rw [List.drop_eq_getElem_cons h', now_lt h]
  simp [tx]
theorem at_p (p : List Nat) (i : Nat) : (at_ p i).p = i := rfl
theorem at_b_nil {p : List Nat} {i : Nat} : (at_ p i).b = [] ↔ p.length ≤ i := by
  constructor
  · intro h
    rcases Nat.lt_or_ge i p.length with q | q
    · rw [at_cons q] at h; cases h
    · exact q
  · exact at_nil
theorem at_b_len (p : List Nat) (i : Nat) : (at_ p i).b.length = p.length - i := by
  show ((tx p).drop i).length = _
  rw [List.length_drop, tx_length]
theorem ofNat_eq {n m : Nat} (h : n < 256) (h' : m < 256) : (UInt8.ofNat n = UInt8.ofNat m) ↔ n = m := by
  constructor
  · intro e
    have := congrArg UInt8.toNat e
    simp only [UInt8.toNat_ofNat'] at this
    omega
  · intro e; rw [e]
theorem is_iff {p : List Nat} (hp : Ok8 p) {i : Nat} {c : Char} (hc : c.toNat < 256) : (at_ p i).is c = true ↔ now p i = c.toNat := by
  unfold In.is
  rcases Nat.lt_or_ge i p.length with q | q
  · rw [at_cons q]
    simp only [List.head?_cons, beq_iff_eq, Option.some.injEq]
    exact ofNat_eq (now_byte hp q) hc
  · rw [at_nil q, now_ge q]
    simp
    omega
theorem is_dec {p : List Nat} (hp : Ok8 p) (i : Nat) (c : Char) (hc : c.toNat < 256) : (at_ p i).is c = decide (now p i = c.toNat) := by
  have := is_iff hp (i := i) hc
  by_cases h : now p i = c.toNat
  · rw [this.mpr h]; simp [h]
  · have : (at_ p i).is c = false := by
      cases e : (at_ p i).is c
      · rfl
      · exact absurd (this.mp e) h
    rw [this]; simp [h]

/-! ### bytes' kinds, by all bytes -/
theorem k_special : ∀ n < 256, SPECIAL.contains (UInt8.ofNat n) = specials.contains n := by decide +kernel
theorem k_forms : ∀ n < 256, FORMS.contains (UInt8.ofNat n) = notPlain.contains n := by decide +kernel
theorem k_seen : ∀ n < 256, isSeen (UInt8.ofNat n) = printed n := by decide +kernel
theorem k_digit : ∀ n < 256, isDigit (UInt8.ofNat n) = digit n := by decide +kernel
theorem k_hex : ∀ n < 256, hex (UInt8.ofNat n) = hexv n := by decide +kernel
theorem k_nat : ∀ n < 256, (UInt8.ofNat n).toNat = n := by decide +kernel
theorem k_eq (m : Nat) (hm : m < 256) : ∀ n < 256, (UInt8.ofNat n = UInt8.ofNat m) ↔ n = m := fun n h => ofNat_eq h hm

/-- In terms of places: what a reader of the specification gives, as (value, place) -/
def lift {α : Type} (p : List Nat) (r : Except Flt (α × Nat)) : Except Flt (α × In) := match r with
  | .error e => .error e
  | .ok (a, i) => .ok (a, at_ p i)
theorem bad_at (p : List Nat) (i : Nat) {α : Type} : (bad (at_ p i) : Except Fault α) = .error (1, i) := rfl
theorem hexv_end : hexv 256 = none := by decide
theorem escaped_is {p : List Nat} (hp : Ok8 p) (i : Nat) : escaped (at_ p i) = lift p (readEscaped p i) := by
  unfold escaped readEscaped
  rcases Nat.lt_or_ge i p.length with q | q
  · have hb := now_byte hp q
    rw [at_cons q]
    simp only [k_special _ hb, at_next]
    have e110 : (UInt8.ofNat (now p i) = 110) ↔ now p i = 110 := k_eq 110 (by decide) _ hb
    have e116 : (UInt8.ofNat (now p i) = 116) ↔ now p i = 116 := k_eq 116 (by decide) _ hb
    have e120 : (UInt8.ofNat (now p i) = 120) ↔ now p i = 120 := k_eq 120 (by decide) _ hb
    simp only [e110, e116, e120, k_nat _ hb]
    by_cases c1 : now p i = 110
    · rw [c1]; simp [specials, lift]
    by_cases c2 : now p i = 116
    · rw [c2]; simp [specials, lift]
    by_cases c3 : now p i = 120
    · rw [c3]
      rw [if_neg (by decide), if_neg (by decide), if_neg (by decide), if_pos rfl, if_neg (by decide), if_neg (by decide), if_pos rfl]
      unfold readHex2 readHex
      rcases Nat.lt_or_ge (i + 1) p.length with q1 | q1
      · have hb1 := now_byte hp q1
        rw [at_cons q1]
        simp only [k_hex _ hb1, at_next]
        cases hexv (now p (i + 1)) with
        | none => rfl
        | some u =>
          rcases Nat.lt_or_ge (i + 1 + 1) p.length with q2 | q2
          · have hb2 := now_byte hp q2
            dsimp only
            rw [at_cons q2]
            simp only [k_hex _ hb2, at_next]
            cases hexv (now p (i + 1 + 1)) with
            | none => rfl
            | some l => rfl
          · dsimp only
            rw [at_nil q2, now_ge q2, hexv_end]
            rfl
      · rw [at_nil q1, now_ge q1, hexv_end]
        rfl
    rw [if_neg c1, if_neg c2, if_neg c3, if_neg c1, if_neg c2, if_neg c3]
    by_cases c4 : specials.contains (now p i) = true
    · rw [if_pos c4, if_pos c4]; rfl
    · rw [if_neg c4, if_neg c4]; rfl
  · rw [at_nil q, now_ge q]
    rfl
theorem setByte_is {p : List Nat} (hp : Ok8 p) (i : Nat) : setByte (at_ p i) = lift p (readSetByte p i) := by
  unfold setByte readSetByte
  rcases Nat.lt_or_ge i p.length with q | q
  · have hb := now_byte hp q
    rw [at_cons q]
    have e92 : (UInt8.ofNat (now p i) = 92) ↔ now p i = 92 := k_eq 92 (by decide) _ hb
    have e93 : (UInt8.ofNat (now p i) = 93) ↔ now p i = 93 := k_eq 93 (by decide) _ hb
    have e45 : (UInt8.ofNat (now p i) = 45) ↔ now p i = 45 := k_eq 45 (by decide) _ hb
    have e94 : (UInt8.ofNat (now p i) = 94) ↔ now p i = 94 := k_eq 94 (by decide) _ hb
    simp only [at_next, ne_eq, e92, e93, e45, e94, k_seen _ hb, k_nat _ hb]
    by_cases c1 : now p i = 92
    · rw [if_pos c1, if_pos c1, escaped_is hp]
    · rw [if_neg c1, if_neg c1]
      unfold readPlain
      have t : (notPlainSet.contains (now p i) = false) ↔ (¬ now p i = 93 ∧ ¬ now p i = 45 ∧ ¬ now p i = 94) := by
        simp [notPlainSet]
      simp only [t]
      by_cases c2 : printed (now p i) = true ∧ ¬now p i = 93 ∧ ¬now p i = 45 ∧ ¬now p i = 94
      · rw [if_pos c2, if_pos c2]; rfl
      · rw [if_neg c2, if_neg c2]; rfl
  · rw [at_nil q, now_ge q, if_neg (by decide)]
    unfold readPlain
    rw [now_ge q]
    rfl
/-- a reader that gives something has gone past something -/
theorem readHex_lt {p : List Nat} {i v j : Nat} (h : readHex p i = .ok (v, j)) : j = i + 1 ∧ i < p.length := by
  unfold readHex at h
  cases e : hexv (now p i) with
  | none => rw [e] at h; cases h
  | some u =>
    rw [e] at h
    cases h
    refine ⟨rfl, lt_of_now fun z => ?_⟩
    rw [z, hexv_end] at e; cases e
theorem readHex2_lt {p : List Nat} {i v j : Nat} (h : readHex2 p i = .ok (v, j)) : i < j ∧ j ≤ p.length := by
  unfold readHex2 at h
  cases e : readHex p i with
  | error _ => rw [e] at h; cases h
  | ok x =>
    obtain ⟨u, k⟩ := x
    rw [e] at h
    dsimp only at h
    cases e2 : readHex p k with
    | error _ => rw [e2] at h; cases h
    | ok y =>
      obtain ⟨l, m⟩ := y
      rw [e2] at h
      cases h
      have := readHex_lt e
      have := readHex_lt e2
      omega
theorem readEscaped_lt {p : List Nat} {i v j : Nat} (h : readEscaped p i = .ok (v, j)) : i < j ∧ j ≤ p.length := by
  unfold readEscaped at h
  have key : now p i ≠ 256 → i < i + 1 ∧ i + 1 ≤ p.length := fun z => ⟨Nat.lt_succ_self _, lt_of_now z⟩
  by_cases c1 : now p i = 110
  · rw [if_pos c1] at h; cases h; exact key (by omega)
  rw [if_neg c1] at h
  by_cases c2 : now p i = 116
  · rw [if_pos c2] at h; cases h; exact key (by omega)
  rw [if_neg c2] at h
  by_cases c3 : now p i = 120
  · rw [if_pos c3] at h
    have := readHex2_lt h
    omega
  rw [if_neg c3] at h
  by_cases c4 : specials.contains (now p i) = true
  · rw [if_pos c4] at h; cases h
    exact key fun z => by rw [z] at c4; exact absurd c4 (by decide)
  · rw [if_neg c4] at h; cases h
theorem readPlain_lt {b p : List Nat} {i v j : Nat} (h : readPlain b p i = .ok (v, j)) : i < j ∧ j ≤ p.length := by
  unfold readPlain at h
  by_cases c : printed (now p i) = true ∧ b.contains (now p i) = false
  · rw [if_pos c] at h; cases h
    refine ⟨Nat.lt_succ_self _, lt_of_now fun z => ?_⟩
    have := c.1
    rw [z] at this; exact absurd this (by decide)
  · rw [if_neg c] at h; cases h
theorem readSetByte_lt {p : List Nat} {i v j : Nat} (h : readSetByte p i = .ok (v, j)) : i < j ∧ j ≤ p.length := by
  unfold readSetByte at h
  by_cases c : now p i = 92
  · rw [if_pos c] at h
    have := readEscaped_lt h
    omega
  · rw [if_neg c] at h
    exact readPlain_lt h
theorem readItem_lt {p : List Nat} {i j : Nat} {x : Nat × Nat} (h : readItem p i = .ok (x, j)) : i < j ∧ j ≤ p.length := by
  unfold readItem at h
  cases e : readSetByte p i with
  | error _ => rw [e] at h; cases h
  | ok y =>
    obtain ⟨a, k⟩ := y
    have h1 := readSetByte_lt e
    rw [e] at h
    dsimp only at h
    by_cases c : now p k = 45
    · rw [if_pos c] at h
      cases e2 : readSetByte p (k + 1) with
      | error _ => rw [e2] at h; cases h
      | ok z =>
        obtain ⟨b, m⟩ := z
        have h2 := readSetByte_lt e2
        rw [e2] at h
        dsimp only at h
        by_cases c2 : b < a
        · rw [if_pos c2] at h; cases h
        · rw [if_neg c2] at h; cases h; omega
    · rw [if_neg c] at h; cases h; exact h1
/-- what an item's reading gives to the specification -/
theorem item_is {p : List Nat} (hp : Ok8 p) (i : Nat) : (match setByte (at_ p i) with
    | .error e => .error e
    | .ok (a, x) => if x.is '-' = true then (match setByte x.next with
        | .error e => .error e
        | .ok (b, y) => if b < a then .error (3, x.p + 1) else .ok ((a, b), y))
      else .ok ((a, a), x) : Except Flt ((Nat × Nat) × In)) = lift p (readItem p i) := by
  unfold readItem
  rw [setByte_is hp]
  cases readSetByte p i with
  | error e => rfl
  | ok y =>
    obtain ⟨a, j⟩ := y
    dsimp only [lift]
    rw [is_dec hp j '-' (by decide), at_next]
    simp only [decide_eq_true_eq]
    show (if now p j = 45 then _ else _) = _
    by_cases c : now p j = 45
    · rw [if_pos c, if_pos c, setByte_is hp]
      cases readSetByte p (j + 1) with
      | error e => rfl
      | ok z =>
        obtain ⟨b, k⟩ := z
        dsimp only [lift]
        by_cases c2 : b < a
        · rw [if_pos c2, if_pos c2]; rfl
        · rw [if_neg c2, if_neg c2]
    · rw [if_neg c, if_neg c]
theorem itemsIn_step {p : List Nat} (hp : Ok8 p) (f i : Nat) (had : Bool) : itemsIn (f + 1) had (at_ p i) = if had = true ∧ now p i = 93 then .ok ([], at_ p (i + 1)) else match readItem p i with
    | .error e => .error e
    | .ok (x, j) => (itemsIn f true (at_ p j)).map fun z => (x :: z.1, z.2) := by
  rw [itemsIn, is_dec hp i ']' (by decide)]
  have e : (had && decide (now p i = (']' : Char).toNat)) = true ↔ had = true ∧ now p i = 93 := by
    rw [Bool.and_eq_true, decide_eq_true_eq]
    exact Iff.rfl
  simp only [e]
  by_cases c : had = true ∧ now p i = 93
  · rw [if_pos c, if_pos c, at_next]
  · rw [if_neg c, if_neg c]
    have q := item_is hp i
    cases es : setByte (at_ p i) with
    | error e =>
      rw [es] at q
      cases er : readItem p i with
      | error e' => rw [er] at q; cases q; rfl
      | ok _ => rw [er] at q; cases q
    | ok y =>
      obtain ⟨a, x⟩ := y
      rw [es] at q
      dsimp only at q ⊢
      by_cases c2 : x.is '-' = true
      · rw [if_pos c2] at q ⊢
        cases es2 : setByte x.next with
        | error e =>
          rw [es2] at q
          cases er : readItem p i with
          | error e' => rw [er] at q; cases q; rfl
          | ok _ => rw [er] at q; cases q
        | ok z =>
          obtain ⟨b, y⟩ := z
          rw [es2] at q
          dsimp only at q ⊢
          by_cases c3 : b < a
          · rw [if_pos c3] at q ⊢
            cases er : readItem p i with
            | error e' => rw [er] at q; cases q; rfl
            | ok _ => rw [er] at q; cases q
          · rw [if_neg c3] at q ⊢
            cases er : readItem p i with
            | error e' => rw [er] at q; cases q
            | ok v => obtain ⟨v1, v2⟩ := v; rw [er] at q; cases q; rfl
      · rw [if_neg c2] at q ⊢
        cases er : readItem p i with
        | error e' => rw [er] at q; cases q
        | ok v => obtain ⟨v1, v2⟩ := v; rw [er] at q; cases q; rfl
theorem items_is {p : List Nat} (hp : Ok8 p) : ∀ (f g i : Nat), p.length - i < f → p.length - i < g → itemsIn f true (at_ p i) = lift p (readItems p g i)
  | 0, _, _, h, _ => absurd h (Nat.not_lt_zero _)
  | _, 0, _, _, h => absurd h (Nat.not_lt_zero _)
  | f + 1, g + 1, i, h1, h2 => by
    rw [itemsIn_step hp, readItems]
    by_cases c : now p i = 93
    · rw [if_pos ⟨rfl, c⟩, if_pos c]; rfl
    · rw [if_neg (fun z => c z.2), if_neg c]
      cases e : readItem p i with
      | error e => rfl
      | ok y =>
        obtain ⟨x, j⟩ := y
        have hj := readItem_lt e
        dsimp only
        rw [items_is hp f g j (by omega) (by omega)]
        cases readItems p g j with
        | error e => rfl
        | ok z => rfl
theorem set_is {p : List Nat} (hp : Ok8 p) (i f : Nat) (hf : p.length - i < f) : (match itemsIn (f + 1) false (if (at_ p i).is '^' = true then (at_ p i).next else at_ p i) with
    | .error e => .error e
    | .ok (l, x) => .ok (((at_ p i).is '^', l), x) : Except Flt ((Bool × List (Nat × Nat)) × In)) = lift p (readSet p i) := by
  unfold readSet
  have e : (if (at_ p i).is '^' = true then (at_ p i).next else at_ p i) = at_ p (if now p i = 94 then i + 1 else i) := by
    rw [is_dec hp i '^' (by decide), at_next]
    simp only [decide_eq_true_eq]
    show (if now p i = 94 then _ else _) = _
    by_cases c : now p i = 94
    · rw [if_pos c, if_pos c]
    · rw [if_neg c, if_neg c]
  have hd : (at_ p i).is '^' = decide (now p i = 94) := is_dec hp i '^' (by decide)
  rw [e, hd, itemsIn_step hp, if_neg (fun z => Bool.noConfusion z.1)]
  have hi : i ≤ (if now p i = 94 then i + 1 else i) := by split <;> omega
  cases e : readItem p (if now p i = 94 then i + 1 else i) with
  | error e => rfl
  | ok y =>
    obtain ⟨x, j⟩ := y
    have hj := readItem_lt e
    dsimp only
    rw [items_is hp f (p.length + 1) j (by omega) (by omega)]
    cases readItems p (p.length + 1) j with
    | error e => rfl
    | ok z => rfl
end PF
/-! Part A2: numbers and counts. -/
namespace PF
open WrPatt
def dg (p : List Nat) (i : Nat) : Bytes := (at_ p i).b.takeWhile isDigit
def dfold (n : Nat) (l : Bytes) : Nat := l.foldl (fun (n : Nat) (c : UInt8) => 10 * n + (c.toNat - 48)) n
theorem digit_end : digit 256 = false := by decide
theorem dg_yes {p : List Nat} (hp : Ok8 p) {i : Nat} (h : digit (now p i) = true) : dg p i = UInt8.ofNat (now p i) :: dg p (i + 1) := by
  have q : i < p.length := lt_of_now fun z => by rw [z, digit_end] at h; cases h
  unfold dg
  rw [at_cons q, List.takeWhile_cons, k_digit _ (now_byte hp q), if_pos h]
theorem dg_no {p : List Nat} (hp : Ok8 p) {i : Nat} (h : digit (now p i) = false) : dg p i = [] := by
  unfold dg
  rcases Nat.lt_or_ge i p.length with q | q
  · rw [at_cons q, List.takeWhile_cons, k_digit _ (now_byte hp q), h]; rfl
  · rw [at_nil q]; rfl
theorem digit_bounds {c : Nat} (h : digit c = true) : 48 ≤ c ∧ c ≤ 57 := by
  unfold digit at h
  simpa using h
theorem readDigits_pos {p : List Nat} (hp : Ok8 p) (first : Nat) : ∀ (f n j : Nat), p.length - j < f → n ≠ 0 → readDigits p first f n j = .ok (dfold n (dg p j), j + (dg p j).length)
  | 0, _, _, h, _ => absurd h (Nat.not_lt_zero _)
  | f + 1, n, j, h, hn => by
    rw [readDigits]
    cases c : digit (now p j) with
    | false => rw [dg_no hp c]; rfl
    | true =>
      have b := digit_bounds c
      have hj : j < p.length := lt_of_now (by omega)
      rw [if_pos rfl, if_neg (fun z => hn z.1), readDigits_pos hp first f _ (j + 1) (by omega) (by omega), dg_yes hp c]
      have e : n * 10 + now p j - 48 = 10 * n + ((UInt8.ofNat (now p j)).toNat - 48) := by
        rw [k_nat _ (by omega)]; omega
      show Except.ok (dfold (n * 10 + now p j - 48) (dg p (j + 1)), _) = Except.ok (dfold (10 * n + ((UInt8.ofNat (now p j)).toNat - 48)) (dg p (j + 1)), _)
      rw [e, List.length_cons]
      congr 2
      omega
theorem dg_len_le (p : List Nat) (i : Nat) : i + (dg p i).length ≤ p.length ∨ dg p i = [] := by
  have h : (dg p i).length ≤ (at_ p i).b.length := by
    unfold dg
    exact (List.takeWhile_sublist _).length_le
  rw [at_b_len] at h
  rcases Nat.lt_or_ge i p.length with q | q
  · left; omega
  · right
    have : (dg p i).length = 0 := by omega
    exact List.eq_nil_of_length_eq_zero this
/-- a number's reading against a bound: what the specification's gives and its look at the bound -/
theorem number_is {p : List Nat} (hp : Ok8 p) (i least : Nat) : (match numberIn (at_ p i) with
    | .error e => .error e
    | .ok (n, x) => if n < least then .error (2, i) else .ok (n, x) : Except Flt (Nat × In)) = lift p (readNumber p least i) := by
  unfold readNumber
  have hd : numberIn (at_ p i) = (if dg p i = [] then .error (1, i) else if (dg p i).head? = some 48 ∧ 1 < (dg p i).length then .error (1, i + 1) else if COUNT < dfold 0 (dg p i) then .error (2, i) else .ok (dfold 0 (dg p i), at_ p (i + (dg p i).length))) := by
    unfold numberIn
    have e : (⟨(at_ p i).p + (dg p i).length, (at_ p i).b.drop (dg p i).length⟩ : In) = at_ p (i + (dg p i).length) := by
      unfold at_
      simp [List.drop_drop]
    show (if dg p i = [] then bad (at_ p i) else if (dg p i).head? = some 48 ∧ 1 < (dg p i).length then .error (1, (at_ p i).p + 1) else if COUNT < dfold 0 (dg p i) then .error (2, (at_ p i).p) else .ok (dfold 0 (dg p i), (⟨(at_ p i).p + (dg p i).length, (at_ p i).b.drop (dg p i).length⟩ : In))) = (_ : Except Flt (Nat × In))
    rw [e]
    rfl
  rw [hd]
  cases c : digit (now p i) with
  | false =>
    have e : readDigits p i (p.length + 1) 0 i = .ok (0, i) := by rw [readDigits, c]; rfl
    rw [dg_no hp c, if_pos rfl, e]
    dsimp only
    rw [if_pos rfl]
    rfl
  | true =>
    have b := digit_bounds c
    have hi : i < p.length := lt_of_now (by omega)
    have e1 : readDigits p i (p.length + 1) 0 i = readDigits p i p.length (now p i - 48) (i + 1) := by
      rw [readDigits, if_pos c, if_neg (fun z => Nat.lt_irrefl _ z.2)]
      congr 1
      omega
    have hne : dg p i ≠ [] := by rw [dg_yes hp c]; simp
    rw [if_neg hne, e1]
    have hhead : (dg p i).head? = some 48 ↔ now p i = 48 := by
      rw [dg_yes hp c]
      simp only [List.head?_cons, Option.some.injEq]
      exact k_eq 48 (by decide) _ (by omega)
    have hlen : (dg p i).length = (dg p (i + 1)).length + 1 := by rw [dg_yes hp c]; rfl
    have hfold : dfold 0 (dg p i) = dfold (now p i - 48) (dg p (i + 1)) := by
      rw [dg_yes hp c]
      show dfold (10 * 0 + ((UInt8.ofNat (now p i)).toNat - 48)) _ = _
      rw [k_nat _ (by omega)]
      congr 1
      omega
    obtain ⟨m, hm⟩ : ∃ m, p.length = m + 1 := ⟨p.length - 1, by omega⟩
    by_cases z : now p i = 48
    · rw [hm, z, readDigits]
      cases c2 : digit (now p (i + 1)) with
      | true =>
        have A : (dg p i).head? = some 48 ∧ 1 < (dg p i).length := ⟨hhead.mpr z, by rw [hlen, dg_yes hp c2, List.length_cons]; omega⟩
        rw [if_pos A, if_pos rfl, if_pos (show 48 - 48 = 0 ∧ i < i + 1 from ⟨rfl, Nat.lt_succ_self _⟩)]
        rfl
      | false =>
        have A : ¬ ((dg p i).head? = some 48 ∧ 1 < (dg p i).length) := fun w => by
          rw [hlen, dg_no hp c2] at w
          exact absurd w.2 (by decide)
        have hf : dfold 0 (dg p i) = 0 := by rw [hfold, dg_no hp c2, z]; rfl
        rw [if_neg A, hf, hlen, dg_no hp c2, if_neg (by decide : ¬ COUNT < 0), if_neg (by decide : ¬ (false = true))]
        dsimp only [List.length_nil]
        rw [if_neg (by omega : ¬ i + 1 = i)]
        by_cases l : 0 < least
        · rw [if_pos l, if_pos (.inr l)]; rfl
        · rw [if_neg l, if_neg (by intro w; rcases w with w | w; exact absurd w (by decide); exact l w)]; rfl
    · rw [readDigits_pos hp i _ _ _ (by omega) (by omega), if_neg (fun w => z (hhead.mp w.1)), hfold, hlen]
      dsimp only
      rw [if_neg (by omega : ¬ i + 1 + (dg p (i + 1)).length = i)]
      have ep : i + ((dg p (i + 1)).length + 1) = i + 1 + (dg p (i + 1)).length := by omega
      rw [ep]
      show _ = lift p (if 100 < _ ∨ _ then _ else _)
      by_cases w : 100 < dfold (now p i - 48) (dg p (i + 1))
      · rw [if_pos (show COUNT < _ from w), if_pos (.inl w)]; rfl
      · rw [if_neg (show ¬ COUNT < _ from w)]
        dsimp only
        by_cases l : dfold (now p i - 48) (dg p (i + 1)) < least
        · rw [if_pos l, if_pos (.inr l)]; rfl
        · rw [if_neg l, if_neg (by intro y; rcases y with y | y; exact w y; exact l y)]; rfl
theorem number0_is {p : List Nat} (hp : Ok8 p) (i : Nat) : numberIn (at_ p i) = lift p (readNumber p 0 i) := by
  rw [← number_is hp i 0]
  cases numberIn (at_ p i) with
  | error e => rfl
  | ok x => obtain ⟨n, y⟩ := x; rfl
theorem readNumber_lt {p : List Nat} (hp : Ok8 p) {i least n j : Nat} (h : readNumber p least i = .ok (n, j)) : i < j ∧ j ≤ p.length ∧ n ≤ 100 ∧ least ≤ n := by
  unfold readNumber at h
  cases e : readDigits p i (p.length + 1) 0 i with
  | error _ => rw [e] at h; cases h
  | ok x =>
    obtain ⟨n', j'⟩ := x
    rw [e] at h
    dsimp only at h
    by_cases c1 : j' = i
    · rw [if_pos c1] at h; cases h
    rw [if_neg c1] at h
    by_cases c2 : 100 < n' ∨ n' < least
    · rw [if_pos c2] at h; cases h
    rw [if_neg c2] at h
    cases h
    have key : ∀ (f m k : Nat), i ≤ k → k ≤ p.length → ∀ n j, readDigits p i f m k = .ok (n, j) → k ≤ j ∧ j ≤ p.length := by
      intro f
      induction f with
      | zero => intro m k h1 h2 n j e; rw [readDigits] at e; cases e; exact ⟨Nat.le_refl _, h2⟩
      | succ f ih =>
        intro m k h1 h2 n j e
        rw [readDigits] at e
        cases c : digit (now p k) with
        | false => rw [c] at e; cases e; exact ⟨Nat.le_refl _, h2⟩
        | true =>
          have hk : k < p.length := lt_of_now fun z => by rw [z, digit_end] at c; cases c
          rw [if_pos c] at e
          by_cases c2 : m = 0 ∧ i < k
          · rw [if_pos c2] at e; cases e
          · rw [if_neg c2] at e
            have := ih _ (k + 1) (by omega) (by omega) n j e
            omega
    rcases Nat.lt_or_ge i p.length with q | q
    · have := key _ _ _ (Nat.le_refl _) (by omega) _ _ e
      omega
    · exfalso
      rw [readDigits, now_ge q, digit_end] at e
      cases e
      exact c1 rfl
theorem numbers_is {p : List Nat} (hp : Ok8 p) (i : Nat) : countIn (at_ p i) = lift p (readNumbers p i) := by
  unfold countIn readNumbers
  rw [number0_is hp]
  cases e : readNumber p 0 i with
  | error e => rfl
  | ok x =>
    obtain ⟨n, j⟩ := x
    dsimp only [lift]
    rw [is_dec hp j '}' (by decide), is_dec hp j ',' (by decide), at_next, is_dec hp (j + 1) '}' (by decide), at_next]
    simp only [decide_eq_true_eq, decide_eq_false_iff_not]
    show (if now p j = 125 then _ else if ¬ now p j = 44 then _ else if now p (j + 1) = 125 then _ else _) = _
    by_cases c1 : now p j = 125
    · have c2 : ¬ now p j = 44 := by omega
      rw [if_pos c1, if_neg c2]
      unfold need
      rw [if_pos c1]
    · rw [if_neg c1]
      by_cases c2 : now p j = 44
      · rw [if_neg (fun z => z c2), if_pos c2]
        by_cases c3 : now p (j + 1) = 125
        · rw [if_pos c3, if_pos c3]
        · rw [if_neg c3, if_neg c3]
          have q := number_is hp (j + 1) n
          cases e2 : numberIn (at_ p (j + 1)) with
          | error e =>
            rw [e2] at q
            cases e3 : readNumber p n (j + 1) with
            | error e' => rw [e3] at q; cases q; rfl
            | ok y => obtain ⟨v, k⟩ := y; rw [e3] at q; cases q
          | ok y =>
            obtain ⟨m, z⟩ := y
            rw [e2] at q
            dsimp only at q ⊢
            by_cases c4 : m < n
            · rw [if_pos c4] at q ⊢
              cases e3 : readNumber p n (j + 1) with
              | error e' => rw [e3] at q; cases q; rfl
              | ok y => obtain ⟨v, k⟩ := y; rw [e3] at q; cases q
            · rw [if_neg c4] at q ⊢
              cases e3 : readNumber p n (j + 1) with
              | error e' => rw [e3] at q; cases q
              | ok y =>
                obtain ⟨v, k⟩ := y
                rw [e3] at q
                cases q
                dsimp only
                rw [is_dec hp k '}' (by decide), at_next]
                simp only [decide_eq_true_eq]
                unfold need
                show (if now p k = 125 then _ else _) = _
                by_cases c5 : now p k = 125
                · rw [if_pos c5, if_pos c5]
                · rw [if_neg c5, if_neg c5]; rfl
      · rw [if_pos c2, if_neg c2]
        unfold need
        rw [if_neg c1]
        rfl
theorem need_lt {p : List Nat} {c i j : Nat} (hc : c ≠ 256) (h : need p c i = .ok j) : j = i + 1 ∧ i < p.length := by
  unfold need at h
  by_cases q : now p i = c
  · rw [if_pos q] at h; cases h; exact ⟨rfl, lt_of_now (by rw [q]; exact hc)⟩
  · rw [if_neg q] at h; cases h
theorem readNumbers_lt {p : List Nat} (hp : Ok8 p) {i j : Nat} {c : Nat × Option Nat} (h : readNumbers p i = .ok (c, j)) : i < j ∧ j ≤ p.length ∧ c.1 ≤ 100 ∧ ∀ m, c.2 = some m → c.1 ≤ m ∧ m ≤ 100 := by
  unfold readNumbers at h
  cases e : readNumber p 0 i with
  | error _ => rw [e] at h; cases h
  | ok x =>
    obtain ⟨n, k⟩ := x
    have h1 := readNumber_lt hp e
    rw [e] at h
    dsimp only at h
    by_cases c1 : now p k = 44
    · rw [if_pos c1] at h
      by_cases c2 : now p (k + 1) = 125
      · rw [if_pos c2] at h
        cases h
        have : k + 1 < p.length := lt_of_now (by omega)
        exact ⟨by omega, by omega, h1.2.2.1, fun m z => by cases z⟩
      · rw [if_neg c2] at h
        cases e2 : readNumber p n (k + 1) with
        | error _ => rw [e2] at h; cases h
        | ok y =>
          obtain ⟨m, l⟩ := y
          have h2 := readNumber_lt hp e2
          rw [e2] at h
          dsimp only at h
          cases e3 : need p 125 l with
          | error _ => rw [e3] at h; cases h
          | ok t =>
            have h3 := need_lt (by decide) e3
            rw [e3] at h
            cases h
            exact ⟨by omega, by omega, h1.2.2.1, fun m' z => by cases z; omega⟩
    · rw [if_neg c1] at h
      cases e3 : need p 125 k with
      | error _ => rw [e3] at h; cases h
      | ok t =>
        have h3 := need_lt (by decide) e3
        rw [e3] at h
        cases h
        exact ⟨by omega, by omega, h1.2.2.1, fun m' z => by cases z; omega⟩
theorem readCount_lt {p : List Nat} (hp : Ok8 p) {i j : Nat} {c : Nat × Option Nat} (h : readCount p i = .ok (some c, j)) : i < j ∧ j ≤ p.length ∧ c.1 ≤ 100 ∧ ∀ m, c.2 = some m → c.1 ≤ m ∧ m ≤ 100 := by
  unfold readCount at h
  by_cases c1 : now p i = 42
  · rw [if_pos c1] at h; cases h
    exact ⟨Nat.lt_succ_self _, lt_of_now (by omega), by decide, fun m z => by cases z⟩
  rw [if_neg c1] at h
  by_cases c2 : now p i = 43
  · rw [if_pos c2] at h; cases h
    exact ⟨Nat.lt_succ_self _, lt_of_now (by omega), by decide, fun m z => by cases z⟩
  rw [if_neg c2] at h
  by_cases c3 : now p i = 63
  · rw [if_pos c3] at h; cases h
    exact ⟨Nat.lt_succ_self _, lt_of_now (by omega), by decide, fun m z => by cases z; decide⟩
  rw [if_neg c3] at h
  by_cases c4 : now p i = 123
  · rw [if_pos c4] at h
    cases e : readNumbers p (i + 1) with
    | error _ => rw [e] at h; cases h
    | ok x =>
      obtain ⟨c', j'⟩ := x
      rw [e] at h
      cases h
      have := readNumbers_lt hp e
      exact ⟨by omega, this.2.1, this.2.2.1, this.2.2.2⟩
  · rw [if_neg c4] at h; cases h
theorem readCount_none {p : List Nat} {i j : Nat} (h : readCount p i = .ok (none, j)) : j = i := by
  unfold readCount at h
  by_cases c1 : now p i = 42
  · rw [if_pos c1] at h; cases h
  rw [if_neg c1] at h
  by_cases c2 : now p i = 43
  · rw [if_pos c2] at h; cases h
  rw [if_neg c2] at h
  by_cases c3 : now p i = 63
  · rw [if_pos c3] at h; cases h
  rw [if_neg c3] at h
  by_cases c4 : now p i = 123
  · rw [if_pos c4] at h
    cases e : readNumbers p (i + 1) with
    | error _ => rw [e] at h; cases h
    | ok x => obtain ⟨c', j'⟩ := x; rw [e] at h; cases h
  · rw [if_neg c4] at h; cases h; rfl
/-- one count more, in the specification's loop -/
theorem countsIn_step {p : List Nat} (hp : Ok8 p) (f : Nat) (a : Pat) (i : Nat) : countsIn (f + 1) a (at_ p i) = match readCount p i with
    | .error e => .error e
    | .ok (none, j) => .ok (a, at_ p j)
    | .ok (some c, j) => countsIn f (.rep a c.1 c.2) (at_ p j) := by
  unfold readCount
  rw [countsIn, is_dec hp i '*' (by decide), is_dec hp i '+' (by decide), is_dec hp i '?' (by decide), is_dec hp i '{' (by decide), at_next, numbers_is hp]
  simp only [decide_eq_true_eq]
  show (if now p i = 42 then _ else if now p i = 43 then _ else if now p i = 63 then _ else if now p i = 123 then _ else _) = _
  by_cases c1 : now p i = 42
  · rw [if_pos c1, if_pos c1]
  rw [if_neg c1, if_neg c1]
  by_cases c2 : now p i = 43
  · rw [if_pos c2, if_pos c2]
  rw [if_neg c2, if_neg c2]
  by_cases c3 : now p i = 63
  · rw [if_pos c3, if_pos c3]
  rw [if_neg c3, if_neg c3]
  by_cases c4 : now p i = 123
  · rw [if_pos c4, if_pos c4]
    cases readNumbers p (i + 1) with
    | error e => rfl
    | ok x => obtain ⟨c, j⟩ := x; rfl
  · rw [if_neg c4, if_neg c4]
end PF
/-! Part A3: the forms, the machine that reads, how forms lie. -/
namespace PF
open WrPatt
inductive Kd where
  | byte
  | begin_
  | end_
  | edge
  | noEdge
  | row
  | either
  | both
  | turned
  | counted
  | group
  deriving DecidableEq
inductive Tl where
  | non
  | mem (m : List Bool)
  | cnt (n : Nat) (m : Option Nat)
  | num (k : Nat)
structure Fm where
  kd : Kd
  parts : List Nat
  tl : Tl
structure Lv where
  rows : List Nat
  parts : List Nat
  pieces : List Nat
  turned : Bool
  shut : Bool
  gbp : Nat
  group : Option Nat
structure Rd where
  place : Nat
  groups : Nat
  forms : List Fm
  top : Lv
  below : List Lv
def Lv.new (shut : Bool) (g : Nat) (k : Option Nat) : Lv := ⟨[], [], [], false, shut, g, k⟩
def Lv.bars (L : Lv) : Bool := L.shut || (L.turned || decide (0 < L.parts.length))
def memOf (f : Nat → Bool) : List Bool := (List.range 256).map f
def inSetN (neg : Bool) (l : List (Nat × Nat)) (c : Nat) : Bool := (l.any fun x => decide (x.1 ≤ c) && decide (c ≤ x.2)) != neg
def byteF (f : Nat → Bool) : Fm := ⟨.byte, [], .mem (memOf f)⟩
def readEscAtom (p : List Nat) (i : Nat) : Except Flt (Fm × Nat) := if now p i = 98 then .ok (⟨.edge, [], .non⟩, i + 1) else if now p i = 66 then .ok (⟨.noEdge, [], .non⟩, i + 1) else match readEscaped p i with
  | .error e => .error e
  | .ok (c, j) => .ok (byteF fun b => decide (b = c), j)
def readAtom (p : List Nat) (i : Nat) : Except Flt (Fm × Nat) := if now p i = 91 then (match readSet p (i + 1) with
    | .error e => .error e
    | .ok (x, j) => .ok (byteF (inSetN x.1 x.2), j))
  else if now p i = 94 then .ok (⟨.begin_, [], .non⟩, i + 1) else if now p i = 36 then .ok (⟨.end_, [], .non⟩, i + 1) else if now p i = 46 then .ok (byteF fun b => decide (b ≠ 10), i + 1)
  else if now p i = 92 then readEscAtom p (i + 1) else match readPlain notPlain p i with
    | .error e => .error e
    | .ok (c, j) => .ok (byteF fun b => decide (b = c), j)
def keepJoined (kd : Kd) (fs : List Fm) : List Nat → List Fm × Nat
  | [i] => (fs, i)
  | js => (fs ++ [⟨kd, js, .non⟩], fs.length)
def endPartL (g : Nat) (fs : List Fm) (L : Lv) : List Fm × Lv := ((keepJoined .row fs L.pieces).1, { L with parts := L.parts ++ [(keepJoined .row fs L.pieces).2], pieces := [], gbp := g })
def endRowL (g : Nat) (fs : List Fm) (L : Lv) : List Fm × Lv := let q := endPartL g fs L
  ((keepJoined .both q.1 q.2.parts).1, { q.2 with rows := q.2.rows ++ [(keepJoined .both q.1 q.2.parts).2], parts := [] })
def endLevelL (g : Nat) (fs : List Fm) (L : Lv) : List Fm × Lv × Nat := let q := endRowL g fs L
  ((keepJoined .either q.1 q.2.rows).1, q.2, (keepJoined .either q.1 q.2.rows).2)
def countLoop (p : List Nat) : Nat → List Fm → Nat → Nat → Except Flt (List Fm × Nat × Nat)
  | 0, _, _, pl => .error (1, pl)
  | f + 1, fs, i, pl => match readCount p pl with
    | .error e => .error e
    | .ok (none, j) => .ok (fs, i, j)
    | .ok (some c, j) => countLoop p f (fs ++ [⟨.counted, [i], .cnt c.1 c.2⟩]) fs.length j
/-- a ~ ahead: the form of what's turned -/
def turnF (t : Bool) (fs : List Fm) (i : Nat) : List Fm × Nat := if t = true then (fs ++ [⟨.turned, [i], .non⟩], fs.length) else (fs, i)
def endPiece (p : List Nat) (i : Nat) (S : Rd) : Except Flt Rd := match countLoop p (p.length + 1) S.forms i S.place with
  | .error e => .error e
  | .ok (fs, j, pl) => .ok { S with place := pl, forms := (turnF S.top.turned fs j).1, top := { S.top with turned := false, pieces := S.top.pieces ++ [(turnF S.top.turned fs j).2] } }
def groupF (k : Option Nat) (fs : List Fm) (i : Nat) : List Fm × Nat := match k with
  | none => (fs, i)
  | some k => (fs ++ [⟨.group, [i], .num k⟩], fs.length)
def openBracket (p : List Nat) (S : Rd) : Except Flt Rd := if now p (S.place + 1) = 58 then .ok { S with place := S.place + 2, top := Lv.new S.top.bars S.groups none, below := S.top :: S.below }
  else if S.top.bars = true ∨ S.groups = 32 then .error (4, S.place) else .ok { S with place := S.place + 1, groups := S.groups + 1, top := Lv.new S.top.bars (S.groups + 1) (some (S.groups + 1)), below := S.top :: S.below }
def closeBracket (p : List Nat) (S : Rd) : Except Flt Rd := match S.below with
  | [] => .error (1, S.place)
  | l :: r => let q := endLevelL S.groups S.forms S.top
    let z := groupF S.top.group q.1 q.2.2
    endPiece p z.2 { S with place := S.place + 1, forms := z.1, top := l, below := r }
def passBoth (S : Rd) : Except Flt Rd := if S.top.gbp < S.groups then .error (4, S.place) else .ok { S with place := S.place + 1, forms := (endPartL S.groups S.forms S.top).1, top := (endPartL S.groups S.forms S.top).2 }
def atomStep (p : List Nat) (S : Rd) : Except Flt Rd := match readAtom p S.place with
  | .error e => .error e
  | .ok (fm, j) => endPiece p S.forms.length { S with place := j, forms := S.forms ++ [fm] }
def step (p : List Nat) (S : Rd) : Except Flt Rd := if now p S.place = 40 then openBracket p S
  else if S.top.turned = true ∨ notAtoms.contains (now p S.place) = false then atomStep p S
  else if now p S.place = 126 then .ok { S with place := S.place + 1, top := { S.top with turned := true } }
  else if now p S.place = 124 then .ok { S with place := S.place + 1, forms := (endRowL S.groups S.forms S.top).1, top := (endRowL S.groups S.forms S.top).2 }
  else if now p S.place = 38 then passBoth S
  else closeBracket p S
def finish (S : Rd) : Except Flt Rd := if S.below ≠ [] ∨ S.top.turned = true then .error (1, S.place) else .ok { S with forms := (endLevelL S.groups S.forms S.top).1, top := (endLevelL S.groups S.forms S.top).2.1 }
def Rd.start : Rd := ⟨0, 0, [], Lv.new false 0 none, []⟩
/-- what the loop over the pattern comes to -/
inductive Res (p : List Nat) : Rd → Except Flt Rd → Prop where
  | fin {S : Rd} : p.length ≤ S.place → Res p S (finish S)
  | err {S : Rd} {e : Flt} : S.place < p.length → step p S = .error e → Res p S (.error e)
  | go {S S' : Rd} {r : Except Flt Rd} : S.place < p.length → step p S = .ok S' → Res p S' r → Res p S r

/-! ### how forms lie -/
def seqOf : List Pat → Pat
  | [] => .empty
  | [a] => a
  | a :: b :: r => .seq a (seqOf (b :: r))
def altOf : List Pat → Pat
  | [] => .empty
  | [a] => a
  | a :: b :: r => .alt a (altOf (b :: r))
def bothOf : List Pat → Pat
  | [] => .empty
  | [a] => a
  | a :: b :: r => .both a (bothOf (b :: r))
mutual
/-- forms lo to hi (hi - 1 the whole) are those of a pattern, its groups those from g + 1 to h -/
inductive Lay (fs : List Fm) : Nat → Nat → Nat → Nat → Pat → Prop where
  | byte {lo g : Nat} {neg : Bool} {l : List (Nat × Nat)} {f : Nat → Bool} : fs[lo]? = some (byteF f) → (∀ c, c < 256 → f c = inSetN neg l c) → Lay fs lo (lo + 1) g g (.set neg l)
  | begin_ {lo g : Nat} : fs[lo]? = some ⟨.begin_, [], .non⟩ → Lay fs lo (lo + 1) g g .begin_
  | end_ {lo g : Nat} : fs[lo]? = some ⟨.end_, [], .non⟩ → Lay fs lo (lo + 1) g g .end_
  | edge {lo g : Nat} : fs[lo]? = some ⟨.edge, [], .non⟩ → Lay fs lo (lo + 1) g g (.bound false)
  | noEdge {lo g : Nat} : fs[lo]? = some ⟨.noEdge, [], .non⟩ → Lay fs lo (lo + 1) g g (.bound true)
  | row {lo hi g h : Nat} {js : List Nat} {as : List Pat} : LayL fs lo hi g h js as → js.length ≠ 1 → fs[hi]? = some ⟨.row, js, .non⟩ → Lay fs lo (hi + 1) g h (seqOf as)
  | either {lo hi g h : Nat} {js : List Nat} {as : List Pat} : LayL fs lo hi g h js as → 1 < js.length → fs[hi]? = some ⟨.either, js, .non⟩ → Lay fs lo (hi + 1) g h (altOf as)
  | both {lo hi g h : Nat} {js : List Nat} {as : List Pat} : LayL fs lo hi g h js as → 1 < js.length → fs[hi]? = some ⟨.both, js, .non⟩ → Lay fs lo (hi + 1) g h (bothOf as)
  | turned {lo hi g h : Nat} {a : Pat} : Lay fs lo hi g h a → fs[hi]? = some ⟨.turned, [hi - 1], .non⟩ → Lay fs lo (hi + 1) g h (.not_ a)
  | counted {lo hi g h n : Nat} {m : Option Nat} {a : Pat} : Lay fs lo hi g h a → n ≤ 100 → (∀ k, m = some k → n ≤ k ∧ k ≤ 100) → fs[hi]? = some ⟨.counted, [hi - 1], .cnt n m⟩ → Lay fs lo (hi + 1) g h (.rep a n m)
  | group {lo hi g h : Nat} {a : Pat} : Lay fs lo hi (g + 1) h a → fs[hi]? = some ⟨.group, [hi - 1], .num (g + 1)⟩ → Lay fs lo (hi + 1) g h (.group (g + 1) a)
/-- side by side -/
inductive LayL (fs : List Fm) : Nat → Nat → Nat → Nat → List Nat → List Pat → Prop where
  | nil {lo g : Nat} : LayL fs lo lo g g [] []
  | cons {lo mid hi g k h : Nat} {a : Pat} {js : List Nat} {as : List Pat} : Lay fs lo mid g k a → LayL fs mid hi k h js as → LayL fs lo hi g h ((mid - 1) :: js) (a :: as)
end
theorem get_app {α : Type} {l x : List α} {i : Nat} {a : α} (h : l[i]? = some a) : (l ++ x)[i]? = some a := by
  have : i < l.length := (List.getElem?_eq_some_iff.mp h).1
  rw [List.getElem?_append_left this]; exact h
mutual
theorem Lay.mono {fs x : List Fm} : ∀ {lo hi g h : Nat} {a : Pat}, Lay fs lo hi g h a → Lay (fs ++ x) lo hi g h a
  | _, _, _, _, _, .byte e f => .byte (get_app e) f
  | _, _, _, _, _, .begin_ e => .begin_ (get_app e)
  | _, _, _, _, _, .end_ e => .end_ (get_app e)
  | _, _, _, _, _, .edge e => .edge (get_app e)
  | _, _, _, _, _, .noEdge e => .noEdge (get_app e)
  | _, _, _, _, _, .row l n e => .row (LayL.mono l) n (get_app e)
  | _, _, _, _, _, .either l n e => .either (LayL.mono l) n (get_app e)
  | _, _, _, _, _, .both l n e => .both (LayL.mono l) n (get_app e)
  | _, _, _, _, _, .turned l e => .turned (Lay.mono l) (get_app e)
  | _, _, _, _, _, .counted l n m e => .counted (Lay.mono l) n m (get_app e)
  | _, _, _, _, _, .group l e => .group (Lay.mono l) (get_app e)
theorem LayL.mono {fs x : List Fm} : ∀ {lo hi g h : Nat} {js : List Nat} {as : List Pat}, LayL fs lo hi g h js as → LayL (fs ++ x) lo hi g h js as
  | _, _, _, _, _, _, .nil => .nil
  | _, _, _, _, _, _, .cons a l => .cons (Lay.mono a) (LayL.mono l)
end
mutual
theorem Lay.lt {fs : List Fm} : ∀ {lo hi g h : Nat} {a : Pat}, Lay fs lo hi g h a → lo < hi ∧ hi ≤ fs.length ∧ g ≤ h
  | _, _, _, _, _, .byte e _ => ⟨Nat.lt_succ_self _, (List.getElem?_eq_some_iff.mp e).1, Nat.le_refl _⟩
  | _, _, _, _, _, .begin_ e => ⟨Nat.lt_succ_self _, (List.getElem?_eq_some_iff.mp e).1, Nat.le_refl _⟩
  | _, _, _, _, _, .end_ e => ⟨Nat.lt_succ_self _, (List.getElem?_eq_some_iff.mp e).1, Nat.le_refl _⟩
  | _, _, _, _, _, .edge e => ⟨Nat.lt_succ_self _, (List.getElem?_eq_some_iff.mp e).1, Nat.le_refl _⟩
  | _, _, _, _, _, .noEdge e => ⟨Nat.lt_succ_self _, (List.getElem?_eq_some_iff.mp e).1, Nat.le_refl _⟩
  | _, _, _, _, _, .row l _ e => ⟨Nat.lt_succ_of_le (LayL.le l).1, (List.getElem?_eq_some_iff.mp e).1, (LayL.le l).2⟩
  | _, _, _, _, _, .either l _ e => ⟨Nat.lt_succ_of_le (LayL.le l).1, (List.getElem?_eq_some_iff.mp e).1, (LayL.le l).2⟩
  | _, _, _, _, _, .both l _ e => ⟨Nat.lt_succ_of_le (LayL.le l).1, (List.getElem?_eq_some_iff.mp e).1, (LayL.le l).2⟩
  | _, _, _, _, _, .turned l e => ⟨Nat.lt_succ_of_lt (Lay.lt l).1, (List.getElem?_eq_some_iff.mp e).1, (Lay.lt l).2.2⟩
  | _, _, _, _, _, .counted l _ _ e => ⟨Nat.lt_succ_of_lt (Lay.lt l).1, (List.getElem?_eq_some_iff.mp e).1, (Lay.lt l).2.2⟩
  | _, _, _, _, _, .group l e => ⟨Nat.lt_succ_of_lt (Lay.lt l).1, (List.getElem?_eq_some_iff.mp e).1, Nat.le_of_succ_le (Lay.lt l).2.2⟩
theorem LayL.le {fs : List Fm} : ∀ {lo hi g h : Nat} {js : List Nat} {as : List Pat}, LayL fs lo hi g h js as → lo ≤ hi ∧ g ≤ h
  | _, _, _, _, _, _, .nil => ⟨Nat.le_refl _, Nat.le_refl _⟩
  | _, _, _, _, _, _, .cons a l => ⟨Nat.le_trans (Nat.le_of_lt (Lay.lt a).1) (LayL.le l).1, Nat.le_trans (Lay.lt a).2.2 (LayL.le l).2⟩
end
theorem LayL.snoc {fs : List Fm} : ∀ {lo mid hi g k h : Nat} {js : List Nat} {as : List Pat} {a : Pat}, LayL fs lo mid g k js as → Lay fs mid hi k h a → LayL fs lo hi g h (js ++ [hi - 1]) (as ++ [a])
  | _, _, _, _, _, _, _, _, _, .nil, z => .cons z .nil
  | _, _, _, _, _, _, _, _, _, .cons x l, z => .cons x (LayL.snoc l z)
theorem LayL.append {fs : List Fm} : ∀ {lo mid hi g k h : Nat} {js js' : List Nat} {as as' : List Pat}, LayL fs lo mid g k js as → LayL fs mid hi k h js' as' → LayL fs lo hi g h (js ++ js') (as ++ as')
  | _, _, _, _, _, _, _, _, _, _, .nil, z => z
  | _, _, _, _, _, _, _, _, _, _, .cons x l, z => .cons x (LayL.append l z)
theorem LayL.len {fs : List Fm} : ∀ {lo hi g h : Nat} {js : List Nat} {as : List Pat}, LayL fs lo hi g h js as → js.length = as.length
  | _, _, _, _, _, _, .nil => rfl
  | _, _, _, _, _, _, .cons _ l => congrArg Nat.succ (LayL.len l)
/-- joined: what's alone needs no form around it -/
theorem keepJoined_lay {kd : Kd} {op : List Pat → Pat} {fs : List Fm} {lo g h : Nat} {js : List Nat} {as : List Pat} (l : LayL fs lo fs.length g h js as) (one : ∀ a, op [a] = a)
    (many : ∀ x : List Fm, LayL (fs ++ x) lo fs.length g h js as → js.length ≠ 1 → (fs ++ x)[fs.length]? = some ⟨kd, js, .non⟩ → Lay (fs ++ x) lo (fs.length + 1) g h (op as)) :
    ∃ x, (keepJoined kd fs js).1 = fs ++ x ∧ Lay (fs ++ x) lo (fs ++ x).length g h (op as) ∧ (keepJoined kd fs js).2 = (fs ++ x).length - 1 := by
  have gen : js.length ≠ 1 → ∃ x, (fs ++ [⟨kd, js, .non⟩] : List Fm) = fs ++ x ∧ Lay (fs ++ x) lo (fs ++ x).length g h (op as) ∧ fs.length = (fs ++ x).length - 1 := fun hn => by
    refine ⟨[⟨kd, js, .non⟩], rfl, ?_, ?_⟩
    · have e : (fs ++ [(⟨kd, js, .non⟩ : Fm)]).length = fs.length + 1 := by rw [List.length_append]; rfl
      rw [e]
      exact many _ l.mono hn (by rw [List.getElem?_append_right (Nat.le_refl _), Nat.sub_self]; rfl)
    · rw [List.length_append]; rfl
  match js, l, gen with
  | [], l, gen => exact gen (by decide)
  | [j], l, gen =>
    cases l with
    | cons a l2 =>
      cases l2
      rename_i a _
      refine ⟨[], ?_, ?_, ?_⟩
      · rw [List.append_nil]; rfl
      · rw [List.append_nil, one]; exact a
      · rw [List.append_nil]; rfl
  | j :: j2 :: r, l, gen => exact gen (by simp)
theorem endLevel_lay {fs : List Fm} {L : Lv} {n0 n1 n2 g g1 g2 g3 gg : Nat} {ras pas as : List Pat} (l1 : LayL fs n0 n1 g g1 L.rows ras) (l2 : LayL fs n1 n2 g1 g2 L.parts pas) (l3 : LayL fs n2 fs.length g2 g3 L.pieces as) :
    ∃ x, (endLevelL gg fs L).1 = fs ++ x ∧ Lay (fs ++ x) n0 (fs ++ x).length g g3 (altOf (ras ++ [bothOf (pas ++ [seqOf as])])) ∧ (endLevelL gg fs L).2.2 = (fs ++ x).length - 1 := by
  obtain ⟨x1, e1, k1, w1⟩ := keepJoined_lay (kd := .row) (op := seqOf) l3 (fun _ => rfl) fun x l n e => .row l n e
  have p2 : LayL (fs ++ x1) n1 (fs ++ x1).length g1 g3 (L.parts ++ [(fs ++ x1).length - 1]) (pas ++ [seqOf as]) := l2.mono.snoc k1
  obtain ⟨x2, e2, k2, w2⟩ := keepJoined_lay (kd := .both) (op := bothOf) p2 (fun _ => rfl) fun x l n e => .both l (Nat.lt_of_le_of_ne (by rw [List.length_append]; exact Nat.le_add_left _ _) (Ne.symm n)) e
  have p3 : LayL (fs ++ x1 ++ x2) n0 (fs ++ x1 ++ x2).length g g3 (L.rows ++ [(fs ++ x1 ++ x2).length - 1]) (ras ++ [bothOf (pas ++ [seqOf as])]) := l1.mono.mono.snoc k2
  obtain ⟨x3, e3, k3, w3⟩ := keepJoined_lay (kd := .either) (op := altOf) p3 (fun _ => rfl) fun x l n e => .either l (Nat.lt_of_le_of_ne (by rw [List.length_append]; exact Nat.le_add_left _ _) (Ne.symm n)) e
  refine ⟨x1 ++ x2 ++ x3, ?_, ?_, ?_⟩
  · show (keepJoined .either (keepJoined .both (keepJoined .row fs L.pieces).1 (L.parts ++ [(keepJoined .row fs L.pieces).2])).1 (L.rows ++ [(keepJoined .both (keepJoined .row fs L.pieces).1 (L.parts ++ [(keepJoined .row fs L.pieces).2])).2])).1 = _
    rw [e1, w1, e2, w2, e3]
    simp
  · have ee : fs ++ (x1 ++ x2 ++ x3) = fs ++ x1 ++ x2 ++ x3 := by simp
    rw [ee]; exact k3
  · show (keepJoined .either (keepJoined .both (keepJoined .row fs L.pieces).1 (L.parts ++ [(keepJoined .row fs L.pieces).2])).1 (L.rows ++ [(keepJoined .both (keepJoined .row fs L.pieces).1 (L.parts ++ [(keepJoined .row fs L.pieces).2])).2])).2 = _
    have ee : fs ++ (x1 ++ x2 ++ x3) = fs ++ x1 ++ x2 ++ x3 := by simp
    rw [e1, w1, e2, w2, w3, ee]
end PF
/-! Part A4: what the machine comes to is what the specification reads. -/
namespace PF
open WrPatt
theorem memOf_get {f : Nat → Bool} {c : Nat} (h : c < 256) : (memOf f)[c]? = some (f c) := by
  unfold memOf
  rw [List.getElem?_map, List.getElem?_range h]; rfl
/-! ### atoms that are no brackets -/
theorem dot_set (c : Nat) : decide (c ≠ 10) = inSetN true [(10, 10)] c := by
  unfold inSetN
  by_cases h : c = 10
  · subst h; rfl
  · have : (decide (10 ≤ c) && decide (c ≤ 10)) = false := by
      rw [Bool.and_eq_false_iff, decide_eq_false_iff_not, decide_eq_false_iff_not]; omega
    simp [this, h]
theorem one_set (v c : Nat) : decide (c = v) = inSetN false [(v, v)] c := by
  unfold inSetN
  by_cases h : c = v
  · subst h; simp
  · have : (decide (v ≤ c) && decide (c ≤ v)) = false := by
      rw [Bool.and_eq_false_iff, decide_eq_false_iff_not, decide_eq_false_iff_not]; omega
    simp [this, h]
theorem head_iff {p : List Nat} (hp : Ok8 p) {i : Nat} (m : Nat) (hm : m < 256) : (at_ p i).b.head? = some (UInt8.ofNat m) ↔ now p i = m := by
  rcases Nat.lt_or_ge i p.length with q | q
  · rw [at_cons q]
    simp only [List.head?_cons, Option.some.injEq]
    exact ofNat_eq (now_byte hp q) hm
  · rw [at_nil q, now_ge q]
    simp
    omega
theorem readItems_lt {p : List Nat} : ∀ {f i j : Nat} {l : List (Nat × Nat)}, readItems p f i = .ok (l, j) → i < j ∧ j ≤ p.length
  | 0, _, _, _, h => by rw [readItems] at h; cases h
  | f + 1, i, j, l, h => by
    rw [readItems] at h
    by_cases c : now p i = 93
    · rw [if_pos c] at h; cases h
      exact ⟨Nat.lt_succ_self _, lt_of_now (by omega)⟩
    · rw [if_neg c] at h
      cases e : readItem p i with
      | error _ => rw [e] at h; cases h
      | ok y =>
        obtain ⟨x, k⟩ := y
        have h1 := readItem_lt e
        rw [e] at h
        dsimp only at h
        cases e2 : readItems p f k with
        | error _ => rw [e2] at h; cases h
        | ok z =>
          obtain ⟨l2, m⟩ := z
          have h2 := readItems_lt e2
          rw [e2] at h
          cases h
          omega
theorem readSet_lt {p : List Nat} {i j : Nat} {x : Bool × List (Nat × Nat)} (h : readSet p i = .ok (x, j)) : i < j ∧ j ≤ p.length := by
  unfold readSet at h
  have hi : i ≤ (if now p i = 94 then i + 1 else i) := by split <;> omega
  cases e : readItem p (if now p i = 94 then i + 1 else i) with
  | error _ => rw [e] at h; cases h
  | ok y =>
    obtain ⟨x1, k⟩ := y
    have h1 := readItem_lt e
    rw [e] at h
    dsimp only at h
    cases e2 : readItems p (p.length + 1) k with
    | error _ => rw [e2] at h; cases h
    | ok z =>
      obtain ⟨l2, m⟩ := z
      have h2 := readItems_lt e2
      rw [e2] at h
      cases h
      omega
/-- what the specification's atom reader gives where no bracket stands -/
theorem atom_is {p : List Nat} (hp : Ok8 p) (f : Nat) (no : Bool) (g i : Nat) (hc : now p i ≠ 40) : match readAtom p i with
    | .error e => atomIn (f + 1) no g (at_ p i) = .error e
    | .ok (fm, j) => i < j ∧ j ≤ p.length ∧ ∃ a, atomIn (f + 1) no g (at_ p i) = .ok (a, g, at_ p j) ∧ ∀ (fs : List Fm) (lo k : Nat), fs[lo]? = some fm → Lay fs lo (lo + 1) k k a := by
  rcases Nat.lt_or_ge i p.length with q | q
  · have hb := now_byte hp q
    have st : i < i + 1 ∧ i + 1 ≤ p.length := ⟨Nat.lt_succ_self _, q⟩
    unfold atomIn readAtom
    rw [at_cons q]
    have e46 : (UInt8.ofNat (now p i) = 46) ↔ now p i = 46 := k_eq 46 (by decide) _ hb
    have e94 : (UInt8.ofNat (now p i) = 94) ↔ now p i = 94 := k_eq 94 (by decide) _ hb
    have e36 : (UInt8.ofNat (now p i) = 36) ↔ now p i = 36 := k_eq 36 (by decide) _ hb
    have e92 : (UInt8.ofNat (now p i) = 92) ↔ now p i = 92 := k_eq 92 (by decide) _ hb
    have e91 : (UInt8.ofNat (now p i) = 91) ↔ now p i = 91 := k_eq 91 (by decide) _ hb
    have e40 : (UInt8.ofNat (now p i) = 40) ↔ now p i = 40 := k_eq 40 (by decide) _ hb
    simp only [e46, e94, e36, e92, e91, e40, at_next]
    by_cases c1 : now p i = 91
    · rw [if_pos c1, if_neg (by omega), if_neg (by omega), if_neg (by omega), if_neg (by omega), if_pos c1]
      have hl : (UInt8.ofNat (now p i) :: (at_ p (i + 1)).b).length + 1 = p.length - i + 1 := by
        rw [← at_cons q, at_b_len]
      rw [hl]
      have hs := set_is hp (i + 1) (p.length - i) (by omega)
      have hn : (at_ p (i + 1)).next = at_ p (i + 1 + 1) := at_next p (i + 1)
      rw [hn] at hs
      generalize itemsIn (p.length - i + 1) false (if (at_ p (i + 1)).is '^' = true then at_ p (i + 1 + 1) else at_ p (i + 1)) = I at hs ⊢
      cases I with
      | error e =>
        cases hr : readSet p (i + 1) with
        | error e' => rw [hr] at hs; cases hs; rfl
        | ok y => obtain ⟨v, k⟩ := y; rw [hr] at hs; cases hs
      | ok z =>
        obtain ⟨l, x⟩ := z
        cases hr : readSet p (i + 1) with
        | error e' => rw [hr] at hs; cases hs
        | ok y =>
          obtain ⟨v, k⟩ := y
          have hk := readSet_lt hr
          rw [hr] at hs
          cases hs
          exact ⟨by omega, hk.2, _, rfl, fun fs lo k e => .byte e fun c hc => rfl⟩
    rw [if_neg c1, if_neg c1]
    by_cases c2 : now p i = 94
    · rw [if_pos c2, if_neg (by omega), if_pos c2]
      exact ⟨st.1, st.2, _, rfl, fun fs lo k e => .begin_ e⟩
    rw [if_neg c2, if_neg c2]
    by_cases c3 : now p i = 36
    · rw [if_pos c3, if_neg (by omega), if_pos c3]
      exact ⟨st.1, st.2, _, rfl, fun fs lo k e => .end_ e⟩
    rw [if_neg c3, if_neg c3]
    by_cases c4 : now p i = 46
    · rw [if_pos c4, if_pos c4]
      exact ⟨st.1, st.2, _, rfl, fun fs lo k e => .byte e fun c hc => dot_set c⟩
    rw [if_neg c4, if_neg c4]
    by_cases c5 : now p i = 92
    · rw [if_pos c5, if_pos c5]
      unfold readEscAtom
      have h98 : (at_ p (i + 1)).b.head? = some 98 ↔ now p (i + 1) = 98 := head_iff hp 98 (by decide)
      have h66 : (at_ p (i + 1)).b.head? = some 66 ↔ now p (i + 1) = 66 := head_iff hp 66 (by decide)
      simp only [h98, h66]
      by_cases d1 : now p (i + 1) = 98
      · have : i + 1 < p.length := lt_of_now (by omega)
        rw [if_pos d1, if_pos d1]
        exact ⟨by omega, by omega, _, rfl, fun fs lo k e => .edge e⟩
      rw [if_neg d1, if_neg d1]
      by_cases d2 : now p (i + 1) = 66
      · have : i + 1 < p.length := lt_of_now (by omega)
        rw [if_pos d2, if_pos d2]
        exact ⟨by omega, by omega, _, rfl, fun fs lo k e => .noEdge e⟩
      rw [if_neg d2, if_neg d2, escaped_is hp]
      cases hr : readEscaped p (i + 1) with
      | error e => rfl
      | ok y =>
        obtain ⟨v, k⟩ := y
        have hk := readEscaped_lt hr
        exact ⟨by omega, hk.2, _, rfl, fun fs lo k e => .byte e fun c hc => one_set v c⟩
    rw [if_neg c5, if_neg c5, if_neg hc]
    unfold readPlain
    rw [k_seen _ hb, k_forms _ hb, k_nat _ hb]
    by_cases c6 : printed (now p i) = true ∧ notPlain.contains (now p i) = false
    · rw [if_pos c6, if_pos c6]
      exact ⟨st.1, st.2, _, rfl, fun fs lo k e => .byte e fun c hc => one_set _ c⟩
    · rw [if_neg c6, if_neg c6]
      rfl
  · have e : readAtom p i = .error (1, i) := by
      unfold readAtom readPlain
      rw [now_ge q]; rfl
    rw [e]
    unfold atomIn
    rw [at_nil q]
    rfl
end PF
/-! Part A5: the machine against the specification's reader, piece by piece. -/
namespace PF
open WrPatt
def Rd.adv (S : Rd) (j h : Nat) (x : List Fm) (L : Lv) : Rd := ⟨j, h, S.forms ++ x, L, S.below⟩
theorem Rd.adv_adv (S : Rd) (j h j' h' : Nat) (x y : List Fm) (L L' : Lv) : (S.adv j h x L).adv j' h' y L' = S.adv j' h' (x ++ y) L' := by
  unfold Rd.adv; simp
theorem Rd.adv_self (S : Rd) : S.adv S.place S.groups [] S.top = S := by
  unfold Rd.adv; simp
def Stop (p : List Nat) (j : Nat) : Prop := p.length ≤ j ∨ now p j = 124 ∨ now p j = 38 ∨ now p j = 41
def StopR (p : List Nat) (j : Nat) : Prop := p.length ≤ j ∨ now p j = 124 ∨ now p j = 41
def StopP (p : List Nat) (j : Nat) : Prop := p.length ≤ j ∨ now p j = 41
theorem stop_iff {p : List Nat} (hp : Ok8 p) (i : Nat) : ((at_ p i).b = [] ∨ (at_ p i).is '|' = true ∨ (at_ p i).is '&' = true ∨ (at_ p i).is ')' = true) ↔ Stop p i := by
  rw [at_b_nil, is_iff hp (by decide), is_iff hp (by decide), is_iff hp (by decide)]
  exact Iff.rfl
theorem bar_iff {p : List Nat} (hp : Ok8 p) (i : Nat) : (at_ p i).is '|' = true ↔ now p i = 124 := is_iff hp (by decide)
theorem amp_iff {p : List Nat} (hp : Ok8 p) (i : Nat) : (at_ p i).is '&' = true ↔ now p i = 38 := is_iff hp (by decide)
theorem shut_iff {p : List Nat} (hp : Ok8 p) (i : Nat) : (at_ p i).is ')' = true ↔ now p i = 41 := is_iff hp (by decide)
theorem tilde_iff {p : List Nat} (hp : Ok8 p) (i : Nat) : (at_ p i).is '~' = true ↔ now p i = 126 := is_iff hp (by decide)
theorem colon_iff {p : List Nat} (hp : Ok8 p) (i : Nat) : (at_ p i).is ':' = true ↔ now p i = 58 := is_iff hp (by decide)
theorem open_iff {p : List Nat} (hp : Ok8 p) {i : Nat} (q : i < p.length) : (UInt8.ofNat (now p i) = 40) ↔ now p i = 40 := k_eq 40 (by decide) _ (now_byte hp q)
/-- counts: the loop behind an atom -/
theorem counts_is {p : List Nat} (hp : Ok8 p) : ∀ (f1 f2 : Nat) (fs : List Fm) (i lo g h : Nat) (a : Pat), p.length - i < f1 → p.length - i < f2 → i ≤ p.length → Lay fs lo fs.length g h a →
    match countsIn f1 a (at_ p i) with
    | .error e => countLoop p f2 fs (fs.length - 1) i = .error e
    | .ok (b, x) => ∃ j fs', x = at_ p j ∧ i ≤ j ∧ j ≤ p.length ∧ countLoop p f2 fs (fs.length - 1) i = .ok (fs ++ fs', (fs ++ fs').length - 1, j) ∧ Lay (fs ++ fs') lo (fs ++ fs').length g h b
  | 0, _, _, _, _, _, _, _, h, _, _, _ => absurd h (Nat.not_lt_zero _)
  | _, 0, _, _, _, _, _, _, _, h, _, _ => absurd h (Nat.not_lt_zero _)
  | f1 + 1, f2 + 1, fs, i, lo, g, h, a, h1, h2, h3, l => by
    rw [countsIn_step hp, countLoop]
    cases e : readCount p i with
    | error e => rfl
    | ok y =>
      obtain ⟨c, j⟩ := y
      cases c with
      | none =>
        have := readCount_none e
        subst this
        exact ⟨j, [], rfl, Nat.le_refl _, h3, by simp, by rw [List.append_nil]; exact l⟩
      | some c =>
        have hj := readCount_lt hp e
        have el : (fs ++ [(⟨.counted, [fs.length - 1], .cnt c.1 c.2⟩ : Fm)]).length = fs.length + 1 := by rw [List.length_append]; rfl
        have l2 : Lay (fs ++ [⟨.counted, [fs.length - 1], .cnt c.1 c.2⟩]) lo (fs ++ [(⟨.counted, [fs.length - 1], .cnt c.1 c.2⟩ : Fm)]).length g h (.rep a c.1 c.2) := by
          rw [el]
          exact .counted l.mono hj.2.2.1 hj.2.2.2 (by rw [List.getElem?_append_right (Nat.le_refl _), Nat.sub_self]; rfl)
        have ih := counts_is hp f1 f2 (fs ++ [⟨.counted, [fs.length - 1], .cnt c.1 c.2⟩]) j lo g h (.rep a c.1 c.2) (by omega) (by omega) hj.2.1 l2
        have ei : (fs ++ [(⟨.counted, [fs.length - 1], .cnt c.1 c.2⟩ : Fm)]).length - 1 = fs.length := by rw [el]; rfl
        rw [ei] at ih
        dsimp only
        cases ec : countsIn f1 (.rep a c.1 c.2) (at_ p j) with
        | error e => rw [ec] at ih; exact ih
        | ok z =>
          obtain ⟨b, x⟩ := z
          rw [ec] at ih
          obtain ⟨k, fs', q1, q2, q3, q4, q5⟩ := ih
          refine ⟨k, [⟨.counted, [fs.length - 1], .cnt c.1 c.2⟩] ++ fs', q1, by omega, q3, ?_, ?_⟩
          · rw [q4]; simp
          · have e2 : fs ++ ([⟨.counted, [fs.length - 1], .cnt c.1 c.2⟩] ++ fs') = fs ++ [(⟨.counted, [fs.length - 1], .cnt c.1 c.2⟩ : Fm)] ++ fs' := by simp
            rw [e2]; exact q5
/-- what follows a step's outcome -/
def Then (p : List Nat) (q r : Except Flt Rd) : Prop := match q with
  | .error e => r = .error e
  | .ok S' => Res p S' r
def PAtom (p : List Nat) (f : Nat) : Prop := ∀ S : Rd, 8 * (p.length - S.place) + 1 ≤ f → S.place < p.length → (S.top.turned = true ∨ notAtoms.contains (now p S.place) = false) → S.groups ≤ 32 →
  match atomIn f S.top.bars S.groups (at_ p S.place) with
  | .error e => Res p S (.error e)
  | .ok (a, h, x) => ∃ j fs', x = at_ p j ∧ S.place < j ∧ j ≤ p.length ∧ h ≤ 32 ∧ Lay (S.forms ++ fs') S.forms.length (S.forms ++ fs').length S.groups h a ∧
    ∀ r, Then p (endPiece p ((S.forms ++ fs').length - 1) (S.adv j h fs' S.top)) r → Res p S r
def PPiece (p : List Nat) (f : Nat) : Prop := ∀ S : Rd, 8 * (p.length - S.place) + 2 ≤ f → ¬ Stop p S.place → S.top.turned = false → S.groups ≤ 32 →
  match pieceIn f S.top.bars S.groups (at_ p S.place) with
  | .error e => Res p S (.error e)
  | .ok (a, h, x) => ∃ j fs', x = at_ p j ∧ S.place < j ∧ j ≤ p.length ∧ h ≤ 32 ∧ Lay (S.forms ++ fs') S.forms.length (S.forms ++ fs').length S.groups h a ∧
    ∀ r, Res p (S.adv j h fs' { S.top with pieces := S.top.pieces ++ [(S.forms ++ fs').length - 1] }) r → Res p S r
def PPart (p : List Nat) (f : Nat) : Prop := ∀ S : Rd, 8 * (p.length - S.place) + 3 ≤ f → S.place ≤ p.length → S.top.turned = false → S.groups ≤ 32 →
  match partIn f S.top.bars S.groups (at_ p S.place) with
  | .error e => Res p S (.error e)
  | .ok (a, h, x) => ∃ j fs' js as, x = at_ p j ∧ S.place ≤ j ∧ j ≤ p.length ∧ Stop p j ∧ h ≤ 32 ∧ a = seqOf as ∧ (¬ Stop p S.place → as ≠ []) ∧ LayL (S.forms ++ fs') S.forms.length (S.forms ++ fs').length S.groups h js as ∧
    ∀ r, Res p (S.adv j h fs' { S.top with pieces := S.top.pieces ++ js }) r → Res p S r
def LayR (F : List Fm) (n0 g h : Nat) (ps js : List Nat) (a : Pat) : Prop := ∃ m k pas as, LayL F n0 m g k ps pas ∧ LayL F m F.length k h js as ∧ a = bothOf (pas ++ [seqOf as])
def LayV (F : List Fm) (n0 g h : Nat) (rs ps js : List Nat) (a : Pat) : Prop := ∃ m k ras b, LayL F n0 m g k rs ras ∧ LayR F m k h ps js b ∧ a = altOf (ras ++ [b])
def PRow (p : List Nat) (f : Nat) : Prop := ∀ S : Rd, 8 * (p.length - S.place) + 4 ≤ f → S.place ≤ p.length → S.top.turned = false → S.top.pieces = [] → S.top.gbp = S.groups → S.groups ≤ 32 →
  match rowIn f S.top.bars S.groups (at_ p S.place) with
  | .error e => Res p S (.error e)
  | .ok (a, h, x) => ∃ j fs' ps js gb, x = at_ p j ∧ S.place ≤ j ∧ j ≤ p.length ∧ StopR p j ∧ h ≤ 32 ∧ LayR (S.forms ++ fs') S.forms.length S.groups h ps js a ∧
    ∀ r, Res p (S.adv j h fs' { S.top with parts := S.top.parts ++ ps, pieces := js, gbp := gb }) r → Res p S r
def PPat (p : List Nat) (f : Nat) : Prop := ∀ S : Rd, 8 * (p.length - S.place) + 5 ≤ f → S.place ≤ p.length → S.top.turned = false → S.top.pieces = [] → S.top.parts = [] → S.top.gbp = S.groups → S.groups ≤ 32 →
  match patternIn f S.top.shut S.groups (at_ p S.place) with
  | .error e => Res p S (.error e)
  | .ok (a, h, x) => ∃ j fs' rs ps js gb, x = at_ p j ∧ S.place ≤ j ∧ j ≤ p.length ∧ StopP p j ∧ h ≤ 32 ∧ LayV (S.forms ++ fs') S.forms.length S.groups h rs ps js a ∧
    ∀ r, Res p (S.adv j h fs' { S.top with rows := S.top.rows ++ rs, parts := ps, pieces := js, gbp := gb }) r → Res p S r

theorem endV_lay {F : List Fm} {n0 g h gg : Nat} {L : Lv} {a : Pat} (l : LayV F n0 g h L.rows L.parts L.pieces a) :
    ∃ x, (endLevelL gg F L).1 = F ++ x ∧ Lay (F ++ x) n0 (F ++ x).length g h a ∧ (endLevelL gg F L).2.2 = (F ++ x).length - 1 := by
  obtain ⟨m, k, ras, b, l1, ⟨m2, k2, pas, as, l2, l3, rfl⟩, rfl⟩ := l
  exact endLevel_lay l1 l2 l3
def gIn (k : Option Nat) (g : Nat) : Nat := match k with
  | none => g
  | some _ => g + 1
def patIn (k : Option Nat) (g : Nat) (a : Pat) : Pat := match k with
  | none => a
  | some _ => .group (g + 1) a
theorem group_lay {F : List Fm} {n0 g h : Nat} {a : Pat} (k : Option Nat) (l : Lay F n0 F.length (gIn k g) h a) (hk : ∀ n, k = some n → n = g + 1) :
    ∃ x, (groupF k F (F.length - 1)).1 = F ++ x ∧ Lay (F ++ x) n0 (F ++ x).length g h (patIn k g a) ∧ (groupF k F (F.length - 1)).2 = (F ++ x).length - 1 := by
  cases k with
  | none => exact ⟨[], by rw [List.append_nil]; rfl, by rw [List.append_nil]; exact l, by rw [List.append_nil]; rfl⟩
  | some n =>
    obtain rfl := hk n rfl
    have e : (F ++ [(⟨.group, [F.length - 1], .num (g + 1)⟩ : Fm)]).length = F.length + 1 := by rw [List.length_append]; rfl
    refine ⟨[⟨.group, [F.length - 1], .num (g + 1)⟩], rfl, ?_, ?_⟩
    · rw [e]
      exact .group l.mono (by rw [List.getElem?_append_right (Nat.le_refl _), Nat.sub_self]; rfl)
    · rw [e]; rfl
theorem res_step {p : List Nat} {S S' : Rd} {r : Except Flt Rd} (h : S.place < p.length) (e : step p S = .ok S') (k : Res p S' r) : Res p S r := .go h e k
theorem res_match {p : List Nat} {S : Rd} {q r : Except Flt Rd} (h : S.place < p.length) (e : step p S = q) (k : Then p q r) : Res p S r := by
  unfold Then at k
  cases q with
  | error e' => rw [k]; exact .err h e
  | ok S' => exact .go h e k
theorem res_end {p : List Nat} {S : Rd} (h : p.length ≤ S.place) (b : S.below ≠ [] ∨ S.top.turned = true) : Res p S (.error (1, S.place)) := by
  have e : finish S = .error (1, S.place) := if_pos b
  rw [← e]
  exact .fin h
theorem bars_open {L : Lv} (h : L.turned = false) (h2 : L.parts = []) : L.bars = L.shut := by
  unfold Lv.bars; rw [h, h2]; simp
theorem step_close {p : List Nat} {S : Rd} (h : now p S.place = 41) (t : S.top.turned = false) : step p S = closeBracket p S := by
  unfold step
  rw [if_neg (by omega), if_neg (by rw [t, h]; decide), if_neg (by omega), if_neg (by omega), if_neg (by omega)]
/-- behind a bracket's inside: the closing one, or the end -/
theorem close_sim {p : List Nat} {S S1 : Rd} {f h h' g' : Nat} {k : Option Nat} {a : Pat} {x : In} (hp : Ok8 p) (hb : S1.below = S.top :: S.below) (hf : S1.forms = S.forms) (ht : S1.top = Lv.new S.top.bars g' k) (hg' : S1.groups = g') (hpl : S.place < S1.place)
    (hk : ∀ n, k = some n → n = S.groups + 1) (eg : g' = gIn k S.groups)
    (hs : ∀ r, Res p S1 r → Res p S r)
    (q : ∃ j fs' rs ps js gb, x = at_ p j ∧ S1.place ≤ j ∧ j ≤ p.length ∧ StopP p j ∧ h ≤ 32 ∧ LayV (S1.forms ++ fs') S1.forms.length S1.groups h rs ps js a ∧
      ∀ r, Res p (S1.adv j h fs' { S1.top with rows := S1.top.rows ++ rs, parts := ps, pieces := js, gbp := gb }) r → Res p S1 r) :
    match (if x.is ')' = true then .ok (patIn k S.groups a, h, x.next) else bad x : Read) with
    | .error e => Res p S (.error e)
    | .ok (a, h, x) => ∃ j fs', x = at_ p j ∧ S.place < j ∧ j ≤ p.length ∧ h ≤ 32 ∧ Lay (S.forms ++ fs') S.forms.length (S.forms ++ fs').length S.groups h a ∧
      ∀ r, Then p (endPiece p ((S.forms ++ fs').length - 1) (S.adv j h fs' S.top)) r → Res p S r := by
  obtain ⟨j, fs', rs, ps, js, gb, rfl, q1, q2, q3, q4, q5, q6⟩ := q
  by_cases c : now p j = 41
  · rw [if_pos ((shut_iff hp j).mpr c)]
    have hj : j < p.length := lt_of_now (by omega)
    rw [hf, hg'] at q5
    have q5' : LayV (S.forms ++ fs') S.forms.length g' h ({ S1.top with rows := S1.top.rows ++ rs, parts := ps, pieces := js, gbp := gb } : Lv).rows ps js a := by
      have e : ({ S1.top with rows := S1.top.rows ++ rs, parts := ps, pieces := js, gbp := gb } : Lv).rows = rs := by
        show S1.top.rows ++ rs = rs
        rw [ht]; rfl
      rw [e]; exact q5
    obtain ⟨x, e1, l1, w1⟩ := endV_lay (gg := h) (L := { S1.top with rows := S1.top.rows ++ rs, parts := ps, pieces := js, gbp := gb }) q5'
    rw [eg] at l1
    obtain ⟨y, e2, l2, w2⟩ := group_lay k l1 hk
    refine ⟨j + 1, fs' ++ x ++ y, at_next p j, by omega, by omega, q4, ?_, fun r hr => ?_⟩
    · have e : S.forms ++ (fs' ++ x ++ y) = S.forms ++ fs' ++ x ++ y := by simp
      rw [e]; exact l2
    · refine hs r (q6 r (res_match hj (step_close (S := S1.adv j h fs' { S1.top with rows := S1.top.rows ++ rs, parts := ps, pieces := js, gbp := gb }) c (by show S1.top.turned = false; rw [ht]; rfl)) ?_))
      have ec : closeBracket p (S1.adv j h fs' { S1.top with rows := S1.top.rows ++ rs, parts := ps, pieces := js, gbp := gb }) = endPiece p ((S.forms ++ (fs' ++ x ++ y)).length - 1) (S.adv (j + 1) h (fs' ++ x ++ y) S.top) := by
        unfold closeBracket
        show (match S1.below with | [] => _ | l :: r => _) = _
        rw [hb]
        dsimp only
        have ef : (S1.adv j h fs' { S1.top with rows := S1.top.rows ++ rs, parts := ps, pieces := js, gbp := gb }).forms = S.forms ++ fs' := by show S1.forms ++ fs' = _; rw [hf]
        have et : (S1.adv j h fs' { S1.top with rows := S1.top.rows ++ rs, parts := ps, pieces := js, gbp := gb }).top.group = k := by show S1.top.group = k; rw [ht]; rfl
        rw [ef, et]
        show endPiece p (groupF k (endLevelL h (S.forms ++ fs') _).1 (endLevelL h (S.forms ++ fs') _).2.2).2 _ = _
        show endPiece p (groupF k (endLevelL h (S.forms ++ fs') { S1.top with rows := S1.top.rows ++ rs, parts := ps, pieces := js, gbp := gb }).1 (endLevelL h (S.forms ++ fs') { S1.top with rows := S1.top.rows ++ rs, parts := ps, pieces := js, gbp := gb }).2.2).2 ⟨j + 1, h, (groupF k (endLevelL h (S.forms ++ fs') { S1.top with rows := S1.top.rows ++ rs, parts := ps, pieces := js, gbp := gb }).1 (endLevelL h (S.forms ++ fs') { S1.top with rows := S1.top.rows ++ rs, parts := ps, pieces := js, gbp := gb }).2.2).1, S.top, S.below⟩ = _
        rw [e1, w1, e2, w2]
        have e : S.forms ++ (fs' ++ x ++ y) = S.forms ++ fs' ++ x ++ y := by simp
        unfold Rd.adv
        rw [e]
      rw [ec]
      exact hr
  · rw [if_neg (fun z => c ((shut_iff hp j).mp z))]
    have hj : p.length ≤ j := by
      rcases q3 with q | q
      · exact q
      · exact absurd q c
    refine hs _ (q6 _ ?_)
    exact res_end (S := S1.adv j h fs' { S1.top with rows := S1.top.rows ++ rs, parts := ps, pieces := js, gbp := gb }) hj (.inl (by show S1.below ≠ []; rw [hb]; simp))
end PF
/-! Part A6: the simulation, and what the reader comes to. -/
namespace PF
open WrPatt
/-- what the specification reads from an opening bracket on -/
theorem atom_open {p : List Nat} (hp : Ok8 p) (f : Nat) (no : Bool) (g : Nat) {i : Nat} (c : now p i = 40) : atomIn (f + 1) no g (at_ p i) = if now p (i + 1) = 58 then (match patternIn f no g (at_ p (i + 2)) with
      | .error e => .error e
      | .ok (a, h, x) => if x.is ')' = true then .ok (patIn none g a, h, x.next) else bad x)
    else if no = true ∨ 32 ≤ g then .error (4, i) else match patternIn f no (g + 1) (at_ p (i + 1)) with
      | .error e => .error e
      | .ok (a, h, x) => if x.is ')' = true then .ok (patIn (some (g + 1)) g a, h, x.next) else bad x := by
  have hi : i < p.length := lt_of_now (by omega)
  have hcol : (at_ p (i + 1)).is ':' = decide (now p (i + 1) = 58) := is_dec hp _ ':' (by decide)
  unfold atomIn
  rw [at_cons hi, c, at_next, at_next, hcol]
  show (let plain := decide (now p (i + 1) = 58)
    if plain = false ∧ (no = true ∨ GROUPS ≤ g) then .error (4, (at_ p i).p) else
        match patternIn f no (if plain = true then g else g + 1) (if plain = true then at_ p (i + 1 + 1) else at_ p (i + 1)) with
        | .error e => .error e
        | .ok (a, h, x) => if x.is ')' = true then .ok (if plain = true then a else .group (g + 1) a, h, x.next) else bad x : Read) = _
  by_cases c2 : now p (i + 1) = 58
  · rw [decide_eq_true c2, if_pos c2]
    dsimp only
    rw [if_neg (fun z => Bool.noConfusion z.1), if_pos rfl, if_pos rfl]
    rfl
  · rw [decide_eq_false c2, if_neg c2]
    dsimp only
    by_cases c3 : no = true ∨ 32 ≤ g
    · rw [if_pos c3, if_pos ⟨rfl, c3⟩]
      rfl
    · rw [if_neg c3, if_neg (fun z => c3 z.2), if_neg (fun z => Bool.noConfusion z), if_neg (fun z => Bool.noConfusion z)]
      rfl
theorem pAtom {p : List Nat} (hp : Ok8 p) {f : Nat} (ih : PPat p f) : PAtom p (f + 1) := by
  intro S hf hi ht hg
  by_cases c : now p S.place = 40
  · -- a bracket
    have hstep : step p S = openBracket p S := by unfold step; rw [if_pos c]
    rw [atom_open hp f S.top.bars S.groups c]
    by_cases c2 : now p (S.place + 1) = 58
    · have hl : S.place + 1 < p.length := lt_of_now (by omega)
      rw [if_pos c2]
      have ho : step p S = .ok { S with place := S.place + 2, top := Lv.new S.top.bars S.groups none, below := S.top :: S.below } := by rw [hstep]; unfold openBracket; rw [if_pos c2]
      have q := ih { S with place := S.place + 2, top := Lv.new S.top.bars S.groups none, below := S.top :: S.below } (by show 8 * (p.length - (S.place + 2)) + 5 ≤ f; omega) (by show S.place + 2 ≤ p.length; omega) rfl rfl rfl rfl hg
      have q' : match patternIn f S.top.bars S.groups (at_ p (S.place + 2)) with
        | .error e => Res p { S with place := S.place + 2, top := Lv.new S.top.bars S.groups none, below := S.top :: S.below } (.error e)
        | .ok (a, h, x) => _ := q
      cases ep : patternIn f S.top.bars S.groups (at_ p (S.place + 2)) with
      | error e =>
        rw [ep] at q'
        exact .go hi ho q'
      | ok z =>
        obtain ⟨a, h, x⟩ := z
        rw [ep] at q'
        obtain ⟨j, fs', rs, ps, js, gb, q1, q2, q3, q4, q5, q6, q7⟩ := q'
        exact close_sim (S := S) (S1 := { S with place := S.place + 2, top := Lv.new S.top.bars S.groups none, below := S.top :: S.below }) (f := 0) (h' := 0) (k := none) (g' := S.groups) hp rfl rfl rfl rfl (by show S.place < S.place + 2; omega) (fun n z => by cases z) rfl (fun r hr => .go hi ho hr) ⟨j, fs', rs, ps, js, gb, q1, q2, q3, q4, q5, q6, q7⟩
    · rw [if_neg c2]
      by_cases c3 : S.top.bars = true ∨ S.groups = 32
      · rw [if_pos (by rcases c3 with c3 | c3; exact .inl c3; exact .inr (by rw [c3]; decide) : S.top.bars = true ∨ 32 ≤ S.groups)]
        exact .err hi (by rw [hstep]; unfold openBracket; rw [if_neg c2, if_pos c3])
      · have c4 : ¬ (S.top.bars = true ∨ 32 ≤ S.groups) := fun z => by
          rcases z with w | w
          · exact c3 (.inl w)
          · exact c3 (.inr (Nat.le_antisymm hg w))
        rw [if_neg c4]
        have ho : step p S = .ok { S with place := S.place + 1, groups := S.groups + 1, top := Lv.new S.top.bars (S.groups + 1) (some (S.groups + 1)), below := S.top :: S.below } := by rw [hstep]; unfold openBracket; rw [if_neg c2, if_neg c3]
        have hg2 : S.groups + 1 ≤ 32 := by
          have : S.groups ≠ 32 := fun z => c3 (.inr z)
          omega
        have q := ih { S with place := S.place + 1, groups := S.groups + 1, top := Lv.new S.top.bars (S.groups + 1) (some (S.groups + 1)), below := S.top :: S.below } (by show 8 * (p.length - (S.place + 1)) + 5 ≤ f; omega) (by show S.place + 1 ≤ p.length; omega) rfl rfl rfl rfl hg2
        have q' : match patternIn f S.top.bars (S.groups + 1) (at_ p (S.place + 1)) with
          | .error e => Res p { S with place := S.place + 1, groups := S.groups + 1, top := Lv.new S.top.bars (S.groups + 1) (some (S.groups + 1)), below := S.top :: S.below } (.error e)
          | .ok (a, h, x) => _ := q
        cases ep : patternIn f S.top.bars (S.groups + 1) (at_ p (S.place + 1)) with
        | error e =>
          rw [ep] at q'
          exact .go hi ho q'
        | ok z =>
          obtain ⟨a, h, x⟩ := z
          rw [ep] at q'
          obtain ⟨j, fs', rs, ps, js, gb, q1, q2, q3, q4, q5, q6, q7⟩ := q'
          exact close_sim (S := S) (S1 := { S with place := S.place + 1, groups := S.groups + 1, top := Lv.new S.top.bars (S.groups + 1) (some (S.groups + 1)), below := S.top :: S.below }) (f := 0) (h' := 0) (k := some (S.groups + 1)) (g' := S.groups + 1) hp rfl rfl rfl rfl (by show S.place < S.place + 1; omega) (fun n z => by cases z; rfl) rfl (fun r hr => .go hi ho hr) ⟨j, fs', rs, ps, js, gb, q1, q2, q3, q4, q5, q6, q7⟩
  · -- another atom
    have hstep : step p S = atomStep p S := by unfold step; rw [if_neg c, if_pos ht]
    have q := atom_is hp f S.top.bars S.groups S.place c
    cases er : readAtom p S.place with
    | error e =>
      rw [er] at q
      have q' : atomIn (f + 1) S.top.bars S.groups (at_ p S.place) = .error e := q
      rw [q']
      exact .err hi (by rw [hstep]; unfold atomStep; rw [er])
    | ok y =>
      obtain ⟨fm, j⟩ := y
      rw [er] at q
      obtain ⟨q1, q2, a, q3, q4⟩ := q
      rw [q3]
      have el : (S.forms ++ [fm]).length = S.forms.length + 1 := by rw [List.length_append]; rfl
      refine ⟨j, [fm], rfl, q1, q2, hg, ?_, fun r hr => ?_⟩
      · rw [el]
        exact q4 _ _ _ (by rw [List.getElem?_append_right (Nat.le_refl _), Nat.sub_self]; rfl)
      · refine res_match hi hstep ?_
        have e : atomStep p S = endPiece p ((S.forms ++ [fm]).length - 1) (S.adv j S.groups [fm] S.top) := by
          unfold atomStep
          rw [er, el]
          rfl
        rw [e]
        exact hr
/-- behind an atom: its counts, a ~ ahead -/
theorem endPiece_sim {p : List Nat} (hp : Ok8 p) {S : Rd} {n0 g : Nat} {a : Pat} (hi : S.place ≤ p.length) (l : Lay S.forms n0 S.forms.length g S.groups a) :
    match countsIn ((at_ p S.place).b.length + 1) a (at_ p S.place) with
    | .error e => endPiece p (S.forms.length - 1) S = .error e
    | .ok (b, x) => ∃ j fs', x = at_ p j ∧ S.place ≤ j ∧ j ≤ p.length ∧ Lay (S.forms ++ fs') n0 (S.forms ++ fs').length g S.groups (if S.top.turned = true then .not_ b else b) ∧
      endPiece p (S.forms.length - 1) S = .ok (S.adv j S.groups fs' { S.top with turned := false, pieces := S.top.pieces ++ [(S.forms ++ fs').length - 1] }) := by
  have q := counts_is hp ((at_ p S.place).b.length + 1) (p.length + 1) S.forms S.place n0 g S.groups a (by rw [at_b_len]; omega) (by omega) hi l
  unfold endPiece
  cases ec : countsIn ((at_ p S.place).b.length + 1) a (at_ p S.place) with
  | error e =>
    rw [ec] at q
    have q' : countLoop p (p.length + 1) S.forms (S.forms.length - 1) S.place = .error e := q
    rw [q']
  | ok z =>
    obtain ⟨b, x⟩ := z
    rw [ec] at q
    obtain ⟨j, fs', q1, q2, q3, q4, q5⟩ := q
    rw [q4]
    cases ht : S.top.turned with
    | false =>
      exact ⟨j, fs', q1, q2, q3, q5, rfl⟩
    | true =>
      have el : (S.forms ++ fs' ++ [(⟨.turned, [(S.forms ++ fs').length - 1], .non⟩ : Fm)]).length = (S.forms ++ fs').length + 1 := by rw [List.length_append]; rfl
      have ea : S.forms ++ (fs' ++ [(⟨.turned, [(S.forms ++ fs').length - 1], .non⟩ : Fm)]) = S.forms ++ fs' ++ [⟨.turned, [(S.forms ++ fs').length - 1], .non⟩] := by simp
      refine ⟨j, fs' ++ [⟨.turned, [(S.forms ++ fs').length - 1], .non⟩], q1, q2, q3, ?_, ?_⟩
      · rw [ea, el]
        exact .turned q5.mono (by rw [List.getElem?_append_right (Nat.le_refl _), Nat.sub_self]; rfl)
      · unfold Rd.adv
        rw [ea, el]
        rfl
theorem not_stop {p : List Nat} {i : Nat} (h : ¬ Stop p i) : i < p.length ∧ now p i ≠ 124 ∧ now p i ≠ 38 ∧ now p i ≠ 41 := by
  unfold Stop at h
  omega
theorem pPiece {p : List Nat} (hp : Ok8 p) {f : Nat} (ih : PAtom p f) : PPiece p (f + 1) := by
  intro S hf hn ht hg
  obtain ⟨hi, n1, n2, n3⟩ := not_stop hn
  unfold pieceIn
  dsimp only
  have ht' := tilde_iff hp S.place
  -- from a state whose atom is to be read: the atom, its counts
  have go : ∀ (S1 : Rd), 8 * (p.length - S1.place) + 1 ≤ f → S1.place < p.length → (S1.top.turned = true ∨ notAtoms.contains (now p S1.place) = false) → S1.groups = S.groups → S1.forms = S.forms → S.place ≤ S1.place → S1.below = S.below →
      { S1.top with turned := false } = S.top → (∀ r, Res p S1 r → Res p S r) →
      match (match atomIn f S1.top.bars S.groups (at_ p S1.place) with
        | .error e => .error e
        | .ok (a, h, x) => match countsIn (x.b.length + 1) a x with
          | .error e => .error e
          | .ok (b, y) => .ok (if S1.top.turned = true then .not_ b else b, h, y) : Read) with
      | .error e => Res p S (.error e)
      | .ok (a, h, x) => ∃ j fs', x = at_ p j ∧ S.place < j ∧ j ≤ p.length ∧ h ≤ 32 ∧ Lay (S.forms ++ fs') S.forms.length (S.forms ++ fs').length S.groups h a ∧
        ∀ r, Res p (S.adv j h fs' { S.top with pieces := S.top.pieces ++ [(S.forms ++ fs').length - 1] }) r → Res p S r := by
    intro S1 k1 k2 k3 k4 k5 k6 k7 k8 k9
    have q := ih S1 k1 k2 k3 (by rw [k4]; exact hg)
    rw [k4, k5] at q
    cases ea : atomIn f S1.top.bars S.groups (at_ p S1.place) with
    | error e =>
      rw [ea] at q
      exact k9 _ q
    | ok z =>
      obtain ⟨a, h, x⟩ := z
      rw [ea] at q
      obtain ⟨j, fs', rfl, q1, q2, q3, q4, q5⟩ := q
      dsimp only
      have s := endPiece_sim hp (S := S1.adv j h fs' S1.top) (n0 := S.forms.length) (g := S.groups) (a := a) q2 (by show Lay (S1.forms ++ fs') _ (S1.forms ++ fs').length _ h a; rw [k5]; exact q4)
      have s' : match countsIn ((at_ p j).b.length + 1) a (at_ p j) with
        | .error e => endPiece p ((S1.forms ++ fs').length - 1) (S1.adv j h fs' S1.top) = .error e
        | .ok (b, x) => ∃ j' fs'', x = at_ p j' ∧ j ≤ j' ∧ j' ≤ p.length ∧ Lay ((S1.forms ++ fs') ++ fs'') S.forms.length ((S1.forms ++ fs') ++ fs'').length S.groups h (if S1.top.turned = true then .not_ b else b) ∧
          endPiece p ((S1.forms ++ fs').length - 1) (S1.adv j h fs' S1.top) = .ok ((S1.adv j h fs' S1.top).adv j' h fs'' { S1.top with turned := false, pieces := S1.top.pieces ++ [((S1.forms ++ fs') ++ fs'').length - 1] }) := s
      rw [k5] at s'
      cases ec : countsIn ((at_ p j).b.length + 1) a (at_ p j) with
      | error e =>
        rw [ec] at s'
        refine k9 _ (q5 _ ?_)
        rw [s']
        rfl
      | ok z =>
        obtain ⟨b, y⟩ := z
        rw [ec] at s'
        obtain ⟨j', fs'', rfl, w1, w2, w3, w4⟩ := s'
        refine ⟨j', fs' ++ fs'', rfl, by omega, w2, q3, ?_, fun r hr => k9 _ (q5 _ ?_)⟩
        · have e : S.forms ++ (fs' ++ fs'') = S.forms ++ fs' ++ fs'' := by simp
          rw [e]; exact w3
        · rw [w4, Rd.adv_adv]
          have e : S.forms ++ (fs' ++ fs'') = S.forms ++ fs' ++ fs'' := by simp
          show Res p _ r
          have es : S1.adv j' h (fs' ++ fs'') { S1.top with turned := false, pieces := S1.top.pieces ++ [((S.forms ++ fs') ++ fs'').length - 1] } = S.adv j' h (fs' ++ fs'') { S.top with pieces := S.top.pieces ++ [(S.forms ++ (fs' ++ fs'')).length - 1] } := by
            unfold Rd.adv
            rw [k5, k7, e]
            congr 1
            rw [← k8]
          rw [es]
          exact hr
  by_cases c : now p S.place = 126
  · have hc := ht'.mpr c
    rw [hc]
    rw [if_pos rfl, at_next]
    have hb : (S.top.bars || true) = ({ S.top with turned := true } : Lv).bars := by
      unfold Lv.bars; simp
    rw [hb]
    have hstep : step p S = .ok { S with place := S.place + 1, top := { S.top with turned := true } } := by
      unfold step
      rw [if_neg (by omega), if_neg (by rw [ht, c]; decide), if_pos c]
    rcases Nat.lt_or_ge (S.place + 1) p.length with q | q
    · have := go { S with place := S.place + 1, top := { S.top with turned := true } } (by show 8 * (p.length - (S.place + 1)) + 1 ≤ f; omega) q (.inl rfl) rfl rfl (by show S.place ≤ S.place + 1; omega) rfl (by show ({ S.top with turned := false } : Lv) = S.top; rw [← ht]) (fun r hr => .go hi hstep hr)
      exact this
    · -- a ~ at the end
      obtain ⟨f', rfl⟩ : ∃ f', f = f' + 1 := ⟨f - 1, by omega⟩
      unfold atomIn
      rw [at_nil q]
      refine .go hi hstep ?_
      exact res_end (S := { S with place := S.place + 1, top := { S.top with turned := true } }) q (.inr rfl)
  · have hc : (at_ p S.place).is '~' = S.top.turned := by
      rw [ht]
      cases e : (at_ p S.place).is '~'
      · rfl
      · exact absurd (ht'.mp e) c
    have hb : (S.top.bars || S.top.turned) = S.top.bars := by rw [ht, Bool.or_false]
    have hx : (if S.top.turned = true then (at_ p S.place).next else at_ p S.place) = at_ p S.place := if_neg (by rw [ht]; exact Bool.noConfusion)
    rw [hc, hx, hb]
    have hna : notAtoms.contains (now p S.place) = false := by
      simp [notAtoms, c, n1, n2, n3]
    have := go S (by omega) hi (.inr hna) rfl rfl (Nat.le_refl _) rfl (by rw [← ht]) (fun r hr => hr)
    exact this
end PF
/-! Part A7: rows of pieces, parts, whole patterns; what the reader comes to. -/
namespace PF
open WrPatt
theorem pPart {p : List Nat} (hp : Ok8 p) {f : Nat} (ih1 : PPiece p f) (ih2 : PPart p f) : PPart p (f + 1) := by
  intro S hf hi ht hg
  unfold partIn
  by_cases c : Stop p S.place
  · rw [if_pos ((stop_iff hp _).mpr c)]
    refine ⟨S.place, [], [], [], rfl, Nat.le_refl _, hi, c, hg, rfl, fun h => absurd c h, by rw [List.append_nil]; exact .nil, fun r hr => ?_⟩
    have e : S.adv S.place S.groups [] { S.top with pieces := S.top.pieces ++ [] } = S := by
      unfold Rd.adv; simp
    rw [e] at hr
    exact hr
  · rw [if_neg (fun z => c ((stop_iff hp _).mp z))]
    have hlt := (not_stop c).1
    have q := ih1 S (by omega) c ht hg
    cases ea : pieceIn f S.top.bars S.groups (at_ p S.place) with
    | error e => rw [ea] at q; exact q
    | ok z =>
      obtain ⟨a, h, x⟩ := z
      rw [ea] at q
      obtain ⟨j, fs', rfl, q1, q2, q3, q4, q5⟩ := q
      dsimp only
      by_cases c2 : Stop p j
      · rw [if_pos ((stop_iff hp _).mpr c2)]
        exact ⟨j, fs', [(S.forms ++ fs').length - 1], [a], rfl, Nat.le_of_lt q1, q2, c2, q3, rfl, fun _ => by simp, .cons q4 .nil, q5⟩
      · rw [if_neg (fun z => c2 ((stop_iff hp _).mp z))]
        have w := ih2 (S.adv j h fs' { S.top with pieces := S.top.pieces ++ [(S.forms ++ fs').length - 1] }) (by show 8 * (p.length - j) + 3 ≤ f; omega) q2 ht q3
        have w' : match partIn f S.top.bars h (at_ p j) with
          | .error e => Res p (S.adv j h fs' { S.top with pieces := S.top.pieces ++ [(S.forms ++ fs').length - 1] }) (.error e)
          | .ok (a, h', x) => _ := w
        cases eb : partIn f S.top.bars h (at_ p j) with
        | error e => rw [eb] at w'; exact q5 _ w'
        | ok z =>
          obtain ⟨b, k, y⟩ := z
          rw [eb] at w'
          obtain ⟨j2, fs2, js, as, rfl, w1, w2, w3, w4, rfl, w6, w7, w8⟩ := w'
          have hne : as ≠ [] := w6 c2
          have e : S.forms ++ (fs' ++ fs2) = S.forms ++ fs' ++ fs2 := by simp
          refine ⟨j2, fs' ++ fs2, ((S.forms ++ fs').length - 1) :: js, a :: as, rfl, ?_, w2, w3, w4, ?_, fun _ => by simp, ?_, fun r hr => q5 r (w8 r ?_)⟩
          · have : j ≤ j2 := w1
            omega
          · cases as with
            | nil => exact absurd rfl hne
            | cons b r => rfl
          · rw [e]
            exact .cons q4.mono w7
          · have es : (S.adv j h fs' { S.top with pieces := S.top.pieces ++ [(S.forms ++ fs').length - 1] }).adv j2 k fs2 { S.top with pieces := (S.top.pieces ++ [(S.forms ++ fs').length - 1]) ++ js } = S.adv j2 k (fs' ++ fs2) { S.top with pieces := S.top.pieces ++ (((S.forms ++ fs').length - 1) :: js) } := by
              rw [Rd.adv_adv]
              simp
            show Res p ((S.adv j h fs' { S.top with pieces := S.top.pieces ++ [(S.forms ++ fs').length - 1] }).adv j2 k fs2 { S.top with pieces := (S.top.pieces ++ [(S.forms ++ fs').length - 1]) ++ js }) r
            rw [es]
            exact hr
/-- a part's end -/
theorem endPart_lay {F : List Fm} {n0 g h gg : Nat} {L : Lv} {as : List Pat} (l : LayL F n0 F.length g h L.pieces as) : ∃ x, (endPartL gg F L).1 = F ++ x ∧ Lay (F ++ x) n0 (F ++ x).length g h (seqOf as) ∧ (endPartL gg F L).2 = { L with parts := L.parts ++ [(F ++ x).length - 1], pieces := [], gbp := gg } := by
  obtain ⟨x1, e1, k1, w1⟩ := keepJoined_lay (kd := .row) (op := seqOf) l (fun _ => rfl) fun x l n e => .row l n e
  refine ⟨x1, e1, k1, ?_⟩
  show ({ L with parts := L.parts ++ [(keepJoined .row F L.pieces).2], pieces := [], gbp := gg } : Lv) = _
  rw [w1]
theorem endRow_lay {F : List Fm} {n0 g h gg : Nat} {L : Lv} {a : Pat} (l : LayR F n0 g h L.parts L.pieces a) : ∃ x, (endRowL gg F L).1 = F ++ x ∧ Lay (F ++ x) n0 (F ++ x).length g h a ∧ (endRowL gg F L).2 = { L with rows := L.rows ++ [(F ++ x).length - 1], parts := [], pieces := [], gbp := gg } := by
  obtain ⟨m, k, pas, as, l1, l2, rfl⟩ := l
  obtain ⟨x1, e1, k1, w1⟩ := endPart_lay (gg := gg) l2
  have p2 : LayL (F ++ x1) n0 (F ++ x1).length g h (L.parts ++ [(F ++ x1).length - 1]) (pas ++ [seqOf as]) := l1.mono.snoc k1
  obtain ⟨x2, e2, k2, w2⟩ := keepJoined_lay (kd := .both) (op := bothOf) p2 (fun _ => rfl) fun x l n e => .both l (Nat.lt_of_le_of_ne (by rw [List.length_append]; exact Nat.le_add_left _ _) (Ne.symm n)) e
  have e : F ++ (x1 ++ x2) = F ++ x1 ++ x2 := by simp
  refine ⟨x1 ++ x2, ?_, ?_, ?_⟩
  · show (keepJoined .both (endPartL gg F L).1 (endPartL gg F L).2.parts).1 = _
    rw [e1, w1, e]
    exact e2
  · rw [e]; exact k2
  · show ({ (endPartL gg F L).2 with rows := (endPartL gg F L).2.rows ++ [(keepJoined .both (endPartL gg F L).1 (endPartL gg F L).2.parts).2], parts := [] } : Lv) = _
    rw [e1, w1]
    dsimp only
    rw [w2, e]
theorem pRow {p : List Nat} (hp : Ok8 p) {f : Nat} (ih1 : PPart p f) (ih2 : PRow p f) : PRow p (f + 1) := by
  intro S hf hi ht hpc hgb hg
  unfold rowIn
  have q := ih1 S (by omega) hi ht hg
  cases ea : partIn f S.top.bars S.groups (at_ p S.place) with
  | error e => rw [ea] at q; exact q
  | ok z =>
    obtain ⟨a, h, x⟩ := z
    rw [ea] at q
    obtain ⟨j, fs', js, as, rfl, q1, q2, q3, q4, rfl, _, q7, q8⟩ := q
    dsimp only
    rw [hpc, List.nil_append] at q8
    by_cases c : now p j = 38
    · rw [if_pos ((amp_iff hp j).mpr c)]
      have hj : j < p.length := lt_of_now (by omega)
      have hstep : step p (S.adv j h fs' { S.top with pieces := js }) = passBoth (S.adv j h fs' { S.top with pieces := js }) := by
        unfold step
        show (if now p j = 40 then _ else if S.top.turned = true ∨ notAtoms.contains (now p j) = false then _ else if now p j = 126 then _ else if now p j = 124 then _ else if now p j = 38 then _ else _) = _
        rw [if_neg (by omega), if_neg (by rw [ht, c]; decide), if_neg (by omega), if_neg (by omega), if_pos c]
      by_cases c2 : S.groups < h
      · rw [if_pos c2]
        refine q8 _ (.err hj ?_)
        rw [hstep]
        unfold passBoth
        exact if_pos (show S.top.gbp < h by rw [hgb]; exact c2)
      · rw [if_neg c2]
        obtain ⟨x, e1, k1, w1⟩ := endPart_lay (gg := h) (L := { S.top with pieces := js }) q7
        have hs2 : step p (S.adv j h fs' { S.top with pieces := js }) = .ok (S.adv (j + 1) h (fs' ++ x) { S.top with parts := S.top.parts ++ [(S.forms ++ (fs' ++ x)).length - 1], pieces := [], gbp := h }) := by
          rw [hstep]
          unfold passBoth
          refine (if_neg (show ¬ S.top.gbp < h by rw [hgb]; exact c2)).trans ?_
          show Except.ok (⟨j + 1, h, (endPartL h (S.forms ++ fs') { S.top with pieces := js }).1, (endPartL h (S.forms ++ fs') { S.top with pieces := js }).2, S.below⟩ : Rd) = _
          rw [e1, w1]
          unfold Rd.adv
          simp
        have w := ih2 (S.adv (j + 1) h (fs' ++ x) { S.top with parts := S.top.parts ++ [(S.forms ++ (fs' ++ x)).length - 1], pieces := [], gbp := h }) (by show 8 * (p.length - (j + 1)) + 4 ≤ f; omega) (by show j + 1 ≤ p.length; omega) ht rfl rfl q4
        have hb : (S.adv (j + 1) h (fs' ++ x) { S.top with parts := S.top.parts ++ [(S.forms ++ (fs' ++ x)).length - 1], pieces := [], gbp := h }).top.bars = true := by
          unfold Lv.bars
          show (S.top.shut || (S.top.turned || decide (0 < (S.top.parts ++ [(S.forms ++ (fs' ++ x)).length - 1]).length))) = true
          rw [decide_eq_true (by rw [List.length_append, List.length_singleton]; omega)]
          simp
        rw [hb] at w
        have w' : match rowIn f true h (at_ p (j + 1)) with
          | .error e => Res p (S.adv (j + 1) h (fs' ++ x) { S.top with parts := S.top.parts ++ [(S.forms ++ (fs' ++ x)).length - 1], pieces := [], gbp := h }) (.error e)
          | .ok (a, h', x) => _ := w
        rw [at_next]
        cases eb : rowIn f true h (at_ p (j + 1)) with
        | error e => rw [eb] at w'; exact q8 _ (.go hj hs2 w')
        | ok z =>
          obtain ⟨b, k, y⟩ := z
          rw [eb] at w'
          obtain ⟨j2, fs2, ps, js2, gb, rfl, w1', w2, w3, w4, ⟨m, kk, pas, as2, l1, l2, rfl⟩, w6⟩ := w'
          have e : S.forms ++ (fs' ++ x ++ fs2) = S.forms ++ (fs' ++ x) ++ fs2 := by simp
          have e' : S.forms ++ (fs' ++ x) = S.forms ++ fs' ++ x := by simp
          refine ⟨j2, fs' ++ x ++ fs2, ((S.forms ++ (fs' ++ x)).length - 1) :: ps, js2, gb, rfl, ?_, w2, w3, w4, ⟨m, kk, seqOf as :: pas, as2, ?_, ?_, ?_⟩, fun r hr => q8 r (.go hj hs2 (w6 r ?_))⟩
          · have : j + 1 ≤ j2 := w1'
            omega
          · rw [e]
            refine .cons (Lay.mono ?_) l1
            rw [e']; exact k1
          · rw [e]; exact l2
          · cases pas with
            | nil => rfl
            | cons b r => rfl
          · have es : (S.adv (j + 1) h (fs' ++ x) { S.top with parts := S.top.parts ++ [(S.forms ++ (fs' ++ x)).length - 1], pieces := [], gbp := h }).adv j2 k fs2 { S.top with parts := (S.top.parts ++ [(S.forms ++ (fs' ++ x)).length - 1]) ++ ps, pieces := js2, gbp := gb } = S.adv j2 k (fs' ++ x ++ fs2) { S.top with parts := S.top.parts ++ (((S.forms ++ (fs' ++ x)).length - 1) :: ps), pieces := js2, gbp := gb } := by
              rw [Rd.adv_adv]
              simp
            show Res p ((S.adv (j + 1) h (fs' ++ x) { S.top with parts := S.top.parts ++ [(S.forms ++ (fs' ++ x)).length - 1], pieces := [], gbp := h }).adv j2 k fs2 { S.top with parts := (S.top.parts ++ [(S.forms ++ (fs' ++ x)).length - 1]) ++ ps, pieces := js2, gbp := gb }) r
            rw [es]
            exact hr
    · rw [if_neg (fun z => c ((amp_iff hp j).mp z))]
      refine ⟨j, fs', [], js, S.top.gbp, rfl, q1, q2, ?_, q4, ⟨_, _, [], as, .nil, q7, rfl⟩, fun r hr => q8 r ?_⟩
      · rcases q3 with z | z | z | z
        · exact .inl z
        · exact .inr (.inl z)
        · exact absurd z c
        · exact .inr (.inr z)
      · have e : S.adv j h fs' { S.top with parts := S.top.parts ++ [], pieces := js, gbp := S.top.gbp } = S.adv j h fs' { S.top with pieces := js } := by simp
        rw [e] at hr
        exact hr
theorem pPat {p : List Nat} (hp : Ok8 p) {f : Nat} (ih1 : PRow p f) (ih2 : PPat p f) : PPat p (f + 1) := by
  intro S hf hi ht hpc hpt hgb hg
  unfold patternIn
  have q := ih1 S (by omega) hi ht hpc hgb hg
  rw [bars_open ht hpt] at q
  cases ea : rowIn f S.top.shut S.groups (at_ p S.place) with
  | error e => rw [ea] at q; exact q
  | ok z =>
    obtain ⟨a, h, x⟩ := z
    rw [ea] at q
    obtain ⟨j, fs', ps, js, gb, rfl, q1, q2, q3, q4, q5, q6⟩ := q
    dsimp only
    rw [hpt, List.nil_append] at q6
    by_cases c : now p j = 124
    · rw [if_pos ((bar_iff hp j).mpr c)]
      have hj : j < p.length := lt_of_now (by omega)
      obtain ⟨x, e1, k1, w1⟩ := endRow_lay (gg := h) (L := { S.top with parts := ps, pieces := js, gbp := gb }) q5
      have hs2 : step p (S.adv j h fs' { S.top with parts := ps, pieces := js, gbp := gb }) = .ok (S.adv (j + 1) h (fs' ++ x) { S.top with rows := S.top.rows ++ [(S.forms ++ (fs' ++ x)).length - 1], parts := [], pieces := [], gbp := h }) := by
        unfold step
        show (if now p j = 40 then _ else if S.top.turned = true ∨ notAtoms.contains (now p j) = false then _ else if now p j = 126 then _ else if now p j = 124 then _ else _) = _
        rw [if_neg (by omega), if_neg (by rw [ht, c]; decide), if_neg (by omega), if_pos c]
        show Except.ok (⟨j + 1, h, (endRowL h (S.forms ++ fs') { S.top with parts := ps, pieces := js, gbp := gb }).1, (endRowL h (S.forms ++ fs') { S.top with parts := ps, pieces := js, gbp := gb }).2, S.below⟩ : Rd) = _
        rw [e1, w1]
        unfold Rd.adv
        simp
      have w := ih2 (S.adv (j + 1) h (fs' ++ x) { S.top with rows := S.top.rows ++ [(S.forms ++ (fs' ++ x)).length - 1], parts := [], pieces := [], gbp := h }) (by show 8 * (p.length - (j + 1)) + 5 ≤ f; omega) (by show j + 1 ≤ p.length; omega) ht rfl rfl rfl q4
      have w' : match patternIn f S.top.shut h (at_ p (j + 1)) with
        | .error e => Res p (S.adv (j + 1) h (fs' ++ x) { S.top with rows := S.top.rows ++ [(S.forms ++ (fs' ++ x)).length - 1], parts := [], pieces := [], gbp := h }) (.error e)
        | .ok (a, h', x) => _ := w
      rw [at_next]
      cases eb : patternIn f S.top.shut h (at_ p (j + 1)) with
      | error e => rw [eb] at w'; exact q6 _ (.go hj hs2 w')
      | ok z =>
        obtain ⟨b, k, y⟩ := z
        rw [eb] at w'
        obtain ⟨j2, fs2, rs, ps2, js2, gb2, rfl, w1', w2, w3, w4, ⟨m, kk, ras, b2, l1, ⟨m2, k2, pas, as2, l2, l3, rfl⟩, rfl⟩, w6⟩ := w'
        have e : S.forms ++ (fs' ++ x ++ fs2) = S.forms ++ (fs' ++ x) ++ fs2 := by simp
        have e' : S.forms ++ (fs' ++ x) = S.forms ++ fs' ++ x := by simp
        refine ⟨j2, fs' ++ x ++ fs2, ((S.forms ++ (fs' ++ x)).length - 1) :: rs, ps2, js2, gb2, rfl, ?_, w2, w3, w4, ⟨m, kk, a :: ras, _, ?_, ⟨m2, k2, pas, as2, ?_, ?_, rfl⟩, ?_⟩, fun r hr => q6 r (.go hj hs2 (w6 r ?_))⟩
        · have : j + 1 ≤ j2 := w1'
          omega
        · rw [e]
          refine .cons (Lay.mono ?_) l1
          rw [e']; exact k1
        · rw [e]; exact l2
        · rw [e]; exact l3
        · cases ras with
          | nil => rfl
          | cons b r => rfl
        · have es : (S.adv (j + 1) h (fs' ++ x) { S.top with rows := S.top.rows ++ [(S.forms ++ (fs' ++ x)).length - 1], parts := [], pieces := [], gbp := h }).adv j2 k fs2 { S.top with rows := (S.top.rows ++ [(S.forms ++ (fs' ++ x)).length - 1]) ++ rs, parts := ps2, pieces := js2, gbp := gb2 } = S.adv j2 k (fs' ++ x ++ fs2) { S.top with rows := S.top.rows ++ (((S.forms ++ (fs' ++ x)).length - 1) :: rs), parts := ps2, pieces := js2, gbp := gb2 } := by
            rw [Rd.adv_adv]
            simp
          show Res p ((S.adv (j + 1) h (fs' ++ x) { S.top with rows := S.top.rows ++ [(S.forms ++ (fs' ++ x)).length - 1], parts := [], pieces := [], gbp := h }).adv j2 k fs2 { S.top with rows := (S.top.rows ++ [(S.forms ++ (fs' ++ x)).length - 1]) ++ rs, parts := ps2, pieces := js2, gbp := gb2 }) r
          rw [es]
          exact hr
    · rw [if_neg (fun z => c ((bar_iff hp j).mp z))]
      refine ⟨j, fs', [], ps, js, gb, rfl, q1, q2, ?_, q4, ⟨_, _, [], a, .nil, q5, rfl⟩, fun r hr => q6 r ?_⟩
      · rcases q3 with z | z | z
        · exact .inl z
        · exact absurd z c
        · exact .inr z
      · have e : S.adv j h fs' { S.top with rows := S.top.rows ++ [], parts := ps, pieces := js, gbp := gb } = S.adv j h fs' { S.top with parts := ps, pieces := js, gbp := gb } := by simp
        rw [e] at hr
        exact hr
theorem all_sim {p : List Nat} (hp : Ok8 p) : ∀ f, PAtom p f ∧ PPiece p f ∧ PPart p f ∧ PRow p f ∧ PPat p f
  | 0 => ⟨fun S h => by omega, fun S h => by omega, fun S h => by omega, fun S h => by omega, fun S h => by omega⟩
  | f + 1 => by
    obtain ⟨a, b, c, d, e⟩ := all_sim hp f
    exact ⟨pAtom hp e, pPiece hp a, pPart hp b c, pRow hp c d, pPat hp d e⟩
/-- **what the reader comes to is what the specification reads** -/
theorem read_sim {p : List Nat} (hp : Ok8 p) : ∃ r, Res p Rd.start r ∧ match WrPatt.read (tx p) with
    | .error e => r = .error e
    | .ok (a, g) => ∃ S, r = .ok S ∧ S.groups = g ∧ g ≤ 32 ∧ Lay S.forms 0 S.forms.length 0 g a := by
  have q := (all_sim hp (8 * (tx p).length + 16)).2.2.2.2 Rd.start (by rw [tx_length]; show 8 * (p.length - 0) + 5 ≤ _; omega) (Nat.zero_le _) rfl rfl rfl rfl (Nat.zero_le _)
  have e0 : (⟨0, tx p⟩ : In) = at_ p 0 := by unfold at_; simp
  unfold WrPatt.read
  rw [e0]
  have q' : match patternIn (8 * (tx p).length + 16) false 0 (at_ p 0) with
    | .error e => Res p Rd.start (.error e)
    | .ok (a, h', x) => _ := q
  cases ea : patternIn (8 * (tx p).length + 16) false 0 (at_ p 0) with
  | error e => rw [ea] at q'; exact ⟨_, q', rfl⟩
  | ok z =>
    obtain ⟨a, h, x⟩ := z
    rw [ea] at q'
    obtain ⟨j, fs', rs, ps, js, gb, rfl, q1, q2, q3, q4, q5, q6⟩ := q'
    dsimp only
    by_cases c : now p j = 41
    · have hj : j < p.length := lt_of_now (by omega)
      rw [if_neg (fun z => absurd (at_b_nil.mp z) (by omega))]
      refine ⟨.error (1, j), q6 _ (.err hj ?_), rfl⟩
      rw [step_close (S := Rd.start.adv j h fs' { Rd.start.top with rows := Rd.start.top.rows ++ rs, parts := ps, pieces := js, gbp := gb }) c rfl]
      rfl
    · have hj : p.length ≤ j := by
        rcases q3 with z | z
        · exact z
        · exact absurd z c
      rw [if_pos (at_b_nil.mpr hj)]
      refine ⟨_, q6 _ (.fin hj), ?_⟩
      obtain ⟨x, e1, l1, w1⟩ := endV_lay (gg := h) (F := fs') (n0 := 0) (g := 0) (L := { Rd.start.top with rows := rs, parts := ps, pieces := js, gbp := gb }) q5
      have ef : finish (Rd.start.adv j h fs' { Rd.start.top with rows := Rd.start.top.rows ++ rs, parts := ps, pieces := js, gbp := gb }) = .ok ⟨j, h, (endLevelL h fs' { Rd.start.top with rows := rs, parts := ps, pieces := js, gbp := gb }).1, (endLevelL h fs' { Rd.start.top with rows := rs, parts := ps, pieces := js, gbp := gb }).2.1, []⟩ := by
        unfold finish
        rw [if_neg (by intro z; rcases z with z | z; exact z rfl; exact Bool.noConfusion z)]
        rfl
      refine ⟨_, ef, rfl, q4, ?_⟩
      show Lay (endLevelL h fs' { Rd.start.top with rows := rs, parts := ps, pieces := js, gbp := gb }).1 0 (endLevelL h fs' { Rd.start.top with rows := rs, parts := ps, pieces := js, gbp := gb }).1.length 0 h a
      rw [e1]
      exact l1
end PF
/-! Part C0: how a reader lies in the heap: what is owned (and may change), what stands still. -/
namespace RM
open PySem PySem.Spec PyProof.Rows L2 PF
abbrev Mem := List (Addr × HO)
/-- G: what stands still; M: what is owned, each address once, none of it in G -/
structure Own (G H : Hp) (M : Mem) : Prop where
  le : Same G H
  nd : (M.map (·.1)).Nodup
  holds : ∀ q ∈ M, H q.1 = some q.2
  fresh : ∀ q ∈ M, G q.1 = none
theorem Own.get {G H : Hp} {M : Mem} (o : Own G H M) (i : Nat) {a : Addr} {x : HO} (e : M[i]? = some (a, x)) : H a = some x := o.holds (a, x) (List.mem_of_getElem? e)
theorem nodup_ix {α : Type} {l : List α} (h : l.Nodup) {i j : Nat} {a : α} (hi : l[i]? = some a) (hj : l[j]? = some a) : i = j := nd_ix h hi hj
theorem set_fst {M : Mem} {i : Nat} {a : Addr} {x y : HO} (e : M[i]? = some (a, x)) : (M.set i (a, y)).map (·.1) = M.map (·.1) := by
  rw [List.map_set]
  have h : (M.map (·.1))[i]? = some a := by rw [List.getElem?_map, e]; rfl
  obtain ⟨hi, he⟩ := List.getElem?_eq_some_iff.mp h
  conv => rhs; rw [← List.set_getElem_self hi]
  rw [he]
theorem Own.put {G H : Hp} {M : Mem} (o : Own G H M) (i : Nat) {a : Addr} {x : HO} (y : HO) (e : M[i]? = some (a, x)) : Own G (upd H a y) (M.set i (a, y)) := by
  have ga : G a = none := o.fresh (a, x) (List.mem_of_getElem? e)
  have fst := set_fst (y := y) e
  refine ⟨fun b z h => ?_, by rw [fst]; exact o.nd, fun q hq => ?_, fun q hq => ?_⟩
  · have : b ≠ a := fun w => by rw [w, ga] at h; cases h
    rw [upd_ne this]; exact o.le b z h
  · obtain ⟨j, hj⟩ := List.getElem?_of_mem hq
    rw [List.getElem?_set] at hj
    by_cases c : i = j
    · rw [if_pos c] at hj
      split at hj
      · cases hj; exact upd_same
      · cases hj
    · rw [if_neg c] at hj
      have : q.1 ≠ a := fun w => c (nodup_ix (a := a) o.nd (by rw [List.getElem?_map, e]; rfl) (by rw [List.getElem?_map, hj, ← w]; rfl))
      rw [upd_ne this]; exact o.holds q (List.mem_of_getElem? hj)
  · have hm : q.1 ∈ (M.set i (a, y)).map (·.1) := List.mem_map_of_mem hq
    rw [fst] at hm
    obtain ⟨q', hq', e'⟩ := List.mem_map.mp hm
    rw [← e']; exact o.fresh q' hq'
theorem Own.free {G H : Hp} {M : Mem} (o : Own G H M) {p : Addr} (hp : H p = none) : p ∉ M.map (·.1) := fun h => by
  obtain ⟨q, hq, e⟩ := List.mem_map.mp h
  have := o.holds q hq
  rw [e, hp] at this; cases this
theorem Own.add {G H : Hp} {M : Mem} (o : Own G H M) {p : Addr} (hp : H p = none) (x : HO) : Own G (upd H p x) ((p, x) :: M) := by
  have gp : G p = none := o.le.free hp
  refine ⟨fun b z h => ?_, List.nodup_cons.mpr ⟨o.free hp, o.nd⟩, fun q hq => ?_, fun q hq => ?_⟩
  · have : b ≠ p := fun w => by rw [w, gp] at h; cases h
    rw [upd_ne this]; exact o.le b z h
  · rcases List.mem_cons.mp hq with h | h
    · rw [h]; exact upd_same
    · have : q.1 ≠ p := fun w => by have z := o.holds q h; rw [w, hp] at z; cases z
      rw [upd_ne this]; exact o.holds q h
  · rcases List.mem_cons.mp hq with h | h
    · rw [h]; exact gp
    · exact o.fresh q h
theorem Own.perm {G H : Hp} {M M' : Mem} (o : Own G H M) (h : M.Perm M') : Own G H M' :=
  ⟨o.le, ((h.map (·.1)).nodup_iff).mp o.nd, fun q hq => o.holds q (h.mem_iff.mpr hq), fun q hq => o.fresh q (h.mem_iff.mpr hq)⟩
theorem Own.drop {G H : Hp} {M : Mem} {q : Addr × HO} (o : Own G H (q :: M)) : Own G H M :=
  ⟨o.le, (List.nodup_cons.mp o.nd).2, fun z hz => o.holds z (List.mem_cons_of_mem _ hz), fun z hz => o.fresh z (List.mem_cons_of_mem _ hz)⟩
theorem Own.sub {G H : Hp} {M M' : Mem} (o : Own G H M) (h : M'.Sublist M) : Own G H M' :=
  ⟨o.le, (h.map (·.1)).nodup o.nd, fun z hz => o.holds z (h.subset hz), fun z hz => o.fresh z (h.subset hz)⟩
/-- what's owned comes to stand still -/
theorem Own.freeze {G H : Hp} {M : Mem} {a : Addr} {x : HO} (o : Own G H ((a, x) :: M)) : Own (upd G a x) H M ∧ Same G (upd G a x) ∧ upd G a x a = some x := by
  have ga : G a = none := o.fresh _ List.mem_cons_self
  have na := (List.nodup_cons.mp o.nd).1
  refine ⟨⟨fun b z h => ?_, (List.nodup_cons.mp o.nd).2, fun z hz => o.holds z (List.mem_cons_of_mem _ hz), fun z hz => ?_⟩, fun b z h => ?_, upd_same⟩
  · by_cases c : b = a
    · rw [c, upd_same] at h; cases h
      rw [c]; exact o.holds (a, x) List.mem_cons_self
    · rw [upd_ne c] at h; exact o.le b z h
  · have : z.1 ≠ a := fun w => na (by rw [← w]; exact List.mem_map_of_mem (f := (·.1)) hz)
    rw [upd_ne this]; exact o.fresh z (List.mem_cons_of_mem _ hz)
  · have : b ≠ a := fun w => by rw [w, ga] at h; cases h
    rw [upd_ne this]; exact h
theorem Own.same {G H H' : Hp} {M : Mem} (o : Own G H M) (s : Same H H') : Own G H' M :=
  ⟨o.le.trans s, o.nd, fun q hq => s _ _ (o.holds q hq), o.fresh⟩
theorem same_upd {H : Hp} {p : Addr} {x : HO} (hp : H p = none) : Same H (upd H p x) := fun b z h => by
  have : b ≠ p := fun w => by rw [w, hp] at h; cases h
  rw [upd_ne this]; exact h
theorem Own.wk {F G H : Hp} {M : Mem} (o : Own G H M) (s : Same F G) : Own F H M :=
  ⟨s.trans o.le, o.nd, o.holds, fun q hq => s.free (o.fresh q hq)⟩

/-! ### values -/
def nls (l : List Nat) : List V := l.map fun (n : Nat) => V.int (n : Int)
def bls (l : List Bool) : List V := l.map V.bl
def optI (m : Option Nat) : V := match m with
  | none => .non
  | some k => .int k
def kdS : Kd → Str
  | .byte => "byte"
  | .begin_ => "begin"
  | .end_ => "end"
  | .edge => "edge"
  | .noEdge => "no edge"
  | .row => "row"
  | .either => "either"
  | .both => "both"
  | .turned => "turned"
  | .counted => "counted"
  | .group => "group"
/-- what is told besides of a form -/
def ToldAt (G : Hp) (v : V) : Tl → Prop
  | .non => v = .non
  | .num k => v = .int k
  | .mem m => ∃ a, v = .ref a ∧ G a = some (.lst (bls m))
  | .cnt n m => ∃ a, v = .ref a ∧ G a = some (.tup [.int n, optI m])
/-- the same where it is still owned: its own memory -/
def ToldM (v : V) : Tl → Mem → Prop
  | .non, l => v = .non ∧ l = []
  | .num k, l => v = .int k ∧ l = []
  | .mem m, l => ∃ a, v = .ref a ∧ l = [(a, .lst (bls m))]
  | .cnt n m, l => ∃ a, v = .ref a ∧ l = [(a, .tup [.int n, optI m])]
def FormAt (CF : Addr) (G : Hp) (a : Addr) (fm : Fm) : Prop := ∃ dx pa tv, G a = some (.ins CF dx [("kind", .str (kdS fm.kd)), ("parts", .ref pa), ("told", tv)]) ∧ G pa = some (.lst (nls fm.parts)) ∧ ToldAt G tv fm.tl
def FormsAt (CF : Addr) (G : Hp) (l : List Addr) (fs : List Fm) : Prop := l.length = fs.length ∧ ∀ (i : Nat) (a : Addr) (fm : Fm), l[i]? = some a → fs[i]? = some fm → FormAt CF G a fm
theorem ToldAt.mono {G G' : Hp} (s : Same G G') {v : V} : ∀ {t : Tl}, ToldAt G v t → ToldAt G' v t
  | .non, h => h
  | .num _, h => h
  | .mem _, ⟨a, e, h⟩ => ⟨a, e, s _ _ h⟩
  | .cnt _ _, ⟨a, e, h⟩ => ⟨a, e, s _ _ h⟩
theorem FormAt.mono {CF : Addr} {G G' : Hp} (s : Same G G') {a : Addr} {fm : Fm} (h : FormAt CF G a fm) : FormAt CF G' a fm := by
  obtain ⟨dx, pa, tv, h1, h2, h3⟩ := h
  exact ⟨dx, pa, tv, s _ _ h1, s _ _ h2, h3.mono s⟩
theorem FormsAt.mono {CF : Addr} {G G' : Hp} (s : Same G G') {l : List Addr} {fs : List Fm} (h : FormsAt CF G l fs) : FormsAt CF G' l fs := ⟨h.1, fun i a fm e1 e2 => (h.2 i a fm e1 e2).mono s⟩
theorem FormsAt.snoc {CF : Addr} {G : Hp} {l : List Addr} {fs : List Fm} {a : Addr} {fm : Fm} (h : FormsAt CF G l fs) (x : FormAt CF G a fm) : FormsAt CF G (l ++ [a]) (fs ++ [fm]) := by
  refine ⟨by rw [List.length_append, List.length_append, h.1]; rfl, fun i b gm e1 e2 => ?_⟩
  by_cases c : i < l.length
  · rw [List.getElem?_append_left c] at e1
    rw [List.getElem?_append_left (by rw [← h.1]; exact c)] at e2
    exact h.2 i b gm e1 e2
  · have c' : l.length ≤ i := Nat.le_of_not_lt c
    rw [List.getElem?_append_right c'] at e1
    rw [List.getElem?_append_right (by rw [← h.1]; exact c'), ← h.1] at e2
    obtain ⟨k, hk⟩ : ∃ k, i - l.length = k := ⟨_, rfl⟩
    rw [hk] at e1 e2
    cases k with
    | zero => cases e1; cases e2; exact x
    | succ k => simp at e1
/-- the reader's own objects: itself, the list of its forms, the list of its levels -/
def rdO (CR dx pl fl ll : Addr) (place groups : Nat) : HO := .ins CR dx [("pattern", .ref pl), ("place", .int place), ("forms", .ref fl), ("groups", .int groups), ("levels", .ref ll)]
/-- the classes -/
structure Cs where
  rd : Addr
  lv : Addr
  fm : Addr
  fl : Addr
/-- a reader at r: F stands still, M is what else is owned -/
def RS (K : PySem.W.Frag) (c : Cs) (F H : Hp) (r : Addr) (p : List Nat) (place groups : Nat) (fs : List Fm) (lv : List Addr) (M : Mem) : Prop :=
  ∃ G dx pl fl ll fas, Same F G ∧ FormsAt c.fm G fas fs ∧ SqL K G pl (nls p) ∧ Own G H ((r, rdO c.rd dx pl fl ll place groups) :: (fl, .lst (fas.map V.ref)) :: (ll, .lst (lv.map V.ref)) :: M)
structure LvA where
  a : Addr
  dx : Addr
  r : Addr
  q : Addr
  c : Addr
def lvO (C : Addr) (x : LvA) (L : Lv) : HO := .ins C x.dx [("rows", .ref x.r), ("parts", .ref x.q), ("pieces", .ref x.c), ("turned", .bl L.turned), ("shut", .bl L.shut), ("groups_before_part", .int L.gbp), ("group", optI L.group)]
def lvM (C : Addr) (x : LvA) (L : Lv) : Mem := [(x.a, lvO C x L), (x.r, .lst (nls L.rows)), (x.q, .lst (nls L.parts)), (x.c, .lst (nls L.pieces))]
def stM (C : Addr) : List (LvA × Lv) → Mem
  | [] => []
  | q :: l => lvM C q.1 q.2 ++ stM C l
/-- a reader in a state: st its levels, the innermost first -/
def RdAt (K : PySem.W.Frag) (c : Cs) (F H : Hp) (r : Addr) (p : List Nat) (S : Rd) : Prop :=
  ∃ x st, st.map (·.2) = S.below ∧ RS K c F H r p S.place S.groups S.forms ((x :: st.map (·.1)).map (·.a)).reverse (lvM c.lv x S.top ++ stM c.lv st)
end RM
/-! Part C1: the program's text by places; what the top has written; the small defs. -/
namespace RM
open PySem PySem.Spec PyProof.Rows L2 PF
def topS (i : Nat) : Stmt := PySem.Challenge.pw_patternmeans_s02_fits.main.body.getD i (.Pass ⟨0, 0, 0, 0⟩)
abbrev s_Form_init : Stmt := inClass (topS 12) 0
theorem sc_Form_init : FnScope ["self", "kind", "parts", "told"] ["self", "kind", "parts", "told"] (defScope s_Form_init) := ⟨rfl, rfl, rfl, by decide +kernel, rfl, by decide +kernel, by decide +kernel⟩
abbrev s_all_ends : Stmt := topS 14
theorem sc_all_ends : FnScope ["forms", "subject", "ends_of", "form"] ["forms", "subject"] (defScope s_all_ends) := ⟨rfl, rfl, rfl, by decide +kernel, rfl, by decide +kernel, by decide +kernel⟩
abbrev s_fits_piece : Stmt := topS 15
theorem sc_fits_piece : FnScope ["ends", "start", "to"] ["ends", "start", "to"] (defScope s_fits_piece) := ⟨rfl, rfl, rfl, by decide +kernel, rfl, by decide +kernel, by decide +kernel⟩
abbrev s_form_ends : Stmt := topS 16
theorem sc_form_ends : FnScope ["form", "ends_of", "subject", "parts", "places", "part", "place"] ["form", "ends_of", "subject"] (defScope s_form_ends) := ⟨rfl, rfl, rfl, by decide +kernel, rfl, by decide +kernel, by decide +kernel⟩
abbrev s_byte_ends : Stmt := topS 17
theorem sc_byte_ends : FnScope ["members", "subject", "ends", "place", "byte"] ["members", "subject"] (defScope s_byte_ends) := ⟨rfl, rfl, rfl, by decide +kernel, rfl, by decide +kernel, by decide +kernel⟩
abbrev s_holds_at : Stmt := topS 18
theorem sc_holds_at : FnScope ["kind", "place", "subject", "before", "behind"] ["kind", "place", "subject"] (defScope s_holds_at) := ⟨rfl, rfl, rfl, by decide +kernel, rfl, by decide +kernel, by decide +kernel⟩
abbrev s_is_word_byte : Stmt := topS 19
theorem sc_is_word_byte : FnScope ["byte"] ["byte"] (defScope s_is_word_byte) := ⟨rfl, rfl, rfl, by decide +kernel, rfl, by decide +kernel, by decide +kernel⟩
abbrev s_empty_ends : Stmt := topS 20
theorem sc_empty_ends : FnScope ["places", "place"] ["places"] (defScope s_empty_ends) := ⟨rfl, rfl, rfl, by decide +kernel, rfl, by decide +kernel, by decide +kernel⟩
abbrev s_row_ends : Stmt := topS 21
theorem sc_row_ends : FnScope ["parts", "places", "ends", "part"] ["parts", "places"] (defScope s_row_ends) := ⟨rfl, rfl, rfl, by decide +kernel, rfl, by decide +kernel, by decide +kernel⟩
abbrev s_one_behind_other : Stmt := topS 22
theorem sc_one_behind_other : FnScope ["first", "second", "middles"] ["first", "second"] (defScope s_one_behind_other) := ⟨rfl, rfl, rfl, by decide +kernel, rfl, by decide +kernel, by decide +kernel⟩
abbrev s_ends_behind : Stmt := topS 23
theorem sc_ends_behind : FnScope ["middles", "second", "ends", "middle"] ["middles", "second"] (defScope s_ends_behind) := ⟨rfl, rfl, rfl, by decide +kernel, rfl, by decide +kernel, by decide +kernel⟩
abbrev s_either_ends : Stmt := topS 24
theorem sc_either_ends : FnScope ["parts", "ends", "part", "one", "other"] ["parts"] (defScope s_either_ends) := ⟨rfl, rfl, rfl, by decide +kernel, rfl, by decide +kernel, by decide +kernel⟩
abbrev s_both_ends : Stmt := topS 25
theorem sc_both_ends : FnScope ["parts", "ends", "part", "one", "other"] ["parts"] (defScope s_both_ends) := ⟨rfl, rfl, rfl, by decide +kernel, rfl, by decide +kernel, by decide +kernel⟩
abbrev s_turned_ends : Stmt := topS 26
theorem sc_turned_ends : FnScope ["once", "beyond", "place", "ends"] ["once"] (defScope s_turned_ends) := ⟨rfl, rfl, rfl, by decide +kernel, rfl, by decide +kernel, by decide +kernel⟩
abbrev s_counted_ends : Stmt := topS 27
theorem sc_counted_ends : FnScope ["once", "least", "most", "ends", "perhaps"] ["once", "least", "most"] (defScope s_counted_ends) := ⟨rfl, rfl, rfl, by decide +kernel, rfl, by decide +kernel, by decide +kernel⟩
abbrev s_repeated_ends : Stmt := topS 28
theorem sc_repeated_ends : FnScope ["once", "times", "ends", "doubled"] ["once", "times"] (defScope s_repeated_ends) := ⟨rfl, rfl, rfl, by decide +kernel, rfl, by decide +kernel, by decide +kernel⟩
abbrev s_any_number_ends : Stmt := topS 29
theorem sc_any_number_ends : FnScope ["once", "ends", "place", "reached", "rest", "nearest"] ["once"] (defScope s_any_number_ends) := ⟨rfl, rfl, rfl, by decide +kernel, rfl, by decide +kernel, by decide +kernel⟩
abbrev s_among : Stmt := topS 43
theorem sc_among : FnScope ["byte", "signs", "sign"] ["byte", "signs"] (defScope s_among) := ⟨rfl, rfl, rfl, by decide +kernel, rfl, by decide +kernel, by decide +kernel⟩
abbrev s_is_printed : Stmt := topS 44
theorem sc_is_printed : FnScope ["byte"] ["byte"] (defScope s_is_printed) := ⟨rfl, rfl, rfl, by decide +kernel, rfl, by decide +kernel, by decide +kernel⟩
abbrev s_is_digit : Stmt := topS 45
theorem sc_is_digit : FnScope ["byte"] ["byte"] (defScope s_is_digit) := ⟨rfl, rfl, rfl, by decide +kernel, rfl, by decide +kernel, by decide +kernel⟩
abbrev s_Level_init : Stmt := inClass (topS 46) 0
theorem sc_Level_init : FnScope ["self", "shut", "groups", "group"] ["self", "shut", "groups", "group"] (defScope s_Level_init) := ⟨rfl, rfl, rfl, by decide +kernel, rfl, by decide +kernel, by decide +kernel⟩
abbrev s_Level_bars_groups : Stmt := inClass (topS 46) 1
theorem sc_Level_bars_groups : FnScope ["self"] ["self"] (defScope s_Level_bars_groups) := ⟨rfl, rfl, rfl, by decide +kernel, rfl, by decide +kernel, by decide +kernel⟩
abbrev s_Reader_init : Stmt := inClass (topS 47) 0
theorem sc_Reader_init : FnScope ["self", "pattern"] ["self", "pattern"] (defScope s_Reader_init) := ⟨rfl, rfl, rfl, by decide +kernel, rfl, by decide +kernel, by decide +kernel⟩
abbrev s_Reader_now : Stmt := inClass (topS 47) 1
theorem sc_Reader_now : FnScope ["self"] ["self"] (defScope s_Reader_now) := ⟨rfl, rfl, rfl, by decide +kernel, rfl, by decide +kernel, by decide +kernel⟩
abbrev s_Reader_passes : Stmt := inClass (topS 47) 2
theorem sc_Reader_passes : FnScope ["self", "sign"] ["self", "sign"] (defScope s_Reader_passes) := ⟨rfl, rfl, rfl, by decide +kernel, rfl, by decide +kernel, by decide +kernel⟩
abbrev s_Reader_need : Stmt := inClass (topS 47) 3
theorem sc_Reader_need : FnScope ["self", "sign"] ["self", "sign"] (defScope s_Reader_need) := ⟨rfl, rfl, rfl, by decide +kernel, rfl, by decide +kernel, by decide +kernel⟩
abbrev s_Reader_keep : Stmt := inClass (topS 47) 4
theorem sc_Reader_keep : FnScope ["self", "kind", "parts", "told"] ["self", "kind", "parts", "told"] (defScope s_Reader_keep) := ⟨rfl, rfl, rfl, by decide +kernel, rfl, by decide +kernel, by decide +kernel⟩
abbrev s_Reader_keep_joined : Stmt := inClass (topS 47) 5
theorem sc_Reader_keep_joined : FnScope ["self", "kind", "parts"] ["self", "kind", "parts"] (defScope s_Reader_keep_joined) := ⟨rfl, rfl, rfl, by decide +kernel, rfl, by decide +kernel, by decide +kernel⟩
abbrev s_Reader_read_whole : Stmt := inClass (topS 47) 6
theorem sc_Reader_read_whole : FnScope ["self"] ["self"] (defScope s_Reader_read_whole) := ⟨rfl, rfl, rfl, by decide +kernel, rfl, by decide +kernel, by decide +kernel⟩
abbrev s_Reader_read_step : Stmt := inClass (topS 47) 7
theorem sc_Reader_read_step : FnScope ["self", "level"] ["self"] (defScope s_Reader_read_step) := ⟨rfl, rfl, rfl, by decide +kernel, rfl, by decide +kernel, by decide +kernel⟩
abbrev s_Reader_open_bracket : Stmt := inClass (topS 47) 8
theorem sc_Reader_open_bracket : FnScope ["self", "bracket", "barred", "group"] ["self"] (defScope s_Reader_open_bracket) := ⟨rfl, rfl, rfl, by decide +kernel, rfl, by decide +kernel, by decide +kernel⟩
abbrev s_Reader_close_bracket : Stmt := inClass (topS 47) 9
theorem sc_Reader_close_bracket : FnScope ["self", "level", "within"] ["self"] (defScope s_Reader_close_bracket) := ⟨rfl, rfl, rfl, by decide +kernel, rfl, by decide +kernel, by decide +kernel⟩
abbrev s_Reader_pass_both : Stmt := inClass (topS 47) 10
theorem sc_Reader_pass_both : FnScope ["self", "level"] ["self", "level"] (defScope s_Reader_pass_both) := ⟨rfl, rfl, rfl, by decide +kernel, rfl, by decide +kernel, by decide +kernel⟩
abbrev s_Reader_end_part : Stmt := inClass (topS 47) 11
theorem sc_Reader_end_part : FnScope ["self", "level"] ["self", "level"] (defScope s_Reader_end_part) := ⟨rfl, rfl, rfl, by decide +kernel, rfl, by decide +kernel, by decide +kernel⟩
abbrev s_Reader_end_row : Stmt := inClass (topS 47) 12
theorem sc_Reader_end_row : FnScope ["self", "level"] ["self", "level"] (defScope s_Reader_end_row) := ⟨rfl, rfl, rfl, by decide +kernel, rfl, by decide +kernel, by decide +kernel⟩
abbrev s_Reader_end_level : Stmt := inClass (topS 47) 13
theorem sc_Reader_end_level : FnScope ["self", "level"] ["self", "level"] (defScope s_Reader_end_level) := ⟨rfl, rfl, rfl, by decide +kernel, rfl, by decide +kernel, by decide +kernel⟩
abbrev s_Reader_end_piece : Stmt := inClass (topS 47) 14
theorem sc_Reader_end_piece : FnScope ["self", "atom", "level", "piece", "told"] ["self", "atom"] (defScope s_Reader_end_piece) := ⟨rfl, rfl, rfl, by decide +kernel, rfl, by decide +kernel, by decide +kernel⟩
abbrev s_Reader_read_count : Stmt := inClass (topS 47) 15
theorem sc_Reader_read_count : FnScope ["self"] ["self"] (defScope s_Reader_read_count) := ⟨rfl, rfl, rfl, by decide +kernel, rfl, by decide +kernel, by decide +kernel⟩
abbrev s_Reader_read_numbers : Stmt := inClass (topS 47) 16
theorem sc_Reader_read_numbers : FnScope ["self", "least", "most"] ["self"] (defScope s_Reader_read_numbers) := ⟨rfl, rfl, rfl, by decide +kernel, rfl, by decide +kernel, by decide +kernel⟩
abbrev s_Reader_read_number : Stmt := inClass (topS 47) 17
theorem sc_Reader_read_number : FnScope ["self", "least", "first", "number"] ["self", "least"] (defScope s_Reader_read_number) := ⟨rfl, rfl, rfl, by decide +kernel, rfl, by decide +kernel, by decide +kernel⟩
abbrev s_Reader_read_atom : Stmt := inClass (topS 47) 18
theorem sc_Reader_read_atom : FnScope ["self", "byte"] ["self"] (defScope s_Reader_read_atom) := ⟨rfl, rfl, rfl, by decide +kernel, rfl, by decide +kernel, by decide +kernel⟩
abbrev s_Reader_read_plain : Stmt := inClass (topS 47) 19
theorem sc_Reader_read_plain : FnScope ["self", "barred", "byte"] ["self", "barred"] (defScope s_Reader_read_plain) := ⟨rfl, rfl, rfl, by decide +kernel, rfl, by decide +kernel, by decide +kernel⟩
abbrev s_Reader_keep_byte : Stmt := inClass (topS 47) 20
theorem sc_Reader_keep_byte : FnScope ["self", "only", "byte"] ["self", "only"] (defScope s_Reader_keep_byte) := ⟨rfl, rfl, rfl, by decide +kernel, rfl, by decide +kernel, by decide +kernel⟩
abbrev s_Reader_read_escaped_atom : Stmt := inClass (topS 47) 21
theorem sc_Reader_read_escaped_atom : FnScope ["self"] ["self"] (defScope s_Reader_read_escaped_atom) := ⟨rfl, rfl, rfl, by decide +kernel, rfl, by decide +kernel, by decide +kernel⟩
abbrev s_Reader_read_escaped : Stmt := inClass (topS 47) 22
theorem sc_Reader_read_escaped : FnScope ["self", "upper", "byte"] ["self"] (defScope s_Reader_read_escaped) := ⟨rfl, rfl, rfl, by decide +kernel, rfl, by decide +kernel, by decide +kernel⟩
abbrev s_Reader_read_hex : Stmt := inClass (topS 47) 23
theorem sc_Reader_read_hex : FnScope ["self", "byte", "first", "last", "value"] ["self"] (defScope s_Reader_read_hex) := ⟨rfl, rfl, rfl, by decide +kernel, rfl, by decide +kernel, by decide +kernel⟩
abbrev s_Reader_read_set : Stmt := inClass (topS 47) 24
theorem sc_Reader_read_set : FnScope ["self", "turned", "members", "member"] ["self"] (defScope s_Reader_read_set) := ⟨rfl, rfl, rfl, by decide +kernel, rfl, by decide +kernel, by decide +kernel⟩
abbrev s_Reader_read_item : Stmt := inClass (topS 47) 25
theorem sc_Reader_read_item : FnScope ["self", "members", "first", "last", "place", "byte"] ["self", "members"] (defScope s_Reader_read_item) := ⟨rfl, rfl, rfl, by decide +kernel, rfl, by decide +kernel, by decide +kernel⟩
abbrev s_Reader_read_set_byte : Stmt := inClass (topS 47) 26
theorem sc_Reader_read_set_byte : FnScope ["self"] ["self"] (defScope s_Reader_read_set_byte) := ⟨rfl, rfl, rfl, by decide +kernel, rfl, by decide +kernel, by decide +kernel⟩
abbrev s_read_pattern : Stmt := topS 48
theorem sc_read_pattern : FnScope ["pattern", "reader"] ["pattern"] (defScope s_read_pattern) := ⟨rfl, rfl, rfl, by decide +kernel, rfl, by decide +kernel, by decide +kernel⟩
abbrev s_fits : Stmt := topS 56
theorem sc_fits : FnScope ["start", "to", "pattern", "subject", "reader", "fault", "ends"] ["start", "to", "pattern", "subject"] (defScope s_fits) := ⟨rfl, rfl, rfl, by decide +kernel, rfl, by decide +kernel, by decide +kernel⟩
abbrev s_told_fault : Stmt := topS 57
theorem sc_told_fault : FnScope ["which", "fault"] ["which", "fault"] (defScope s_told_fault) := ⟨rfl, rfl, rfl, by decide +kernel, rfl, by decide +kernel, by decide +kernel⟩
/-- a constant of the module: an int, a text -/
def GI (mg : Str → Option Value) (x : Str) (i : Int) : Prop := ∃ t, mg x = some (.int i t)
def GS (mg : Str → Option Value) (x : Str) (z : Str) : Prop := ∃ t, mg x = some (.str z t)
/-- a method, a def, an __init__ of the text -/
def MT (K : PySem.W.Frag) (C : Addr) (m qual : Str) (st : Stmt) (ps : List Str) : Prop := ∃ f fd, Meth K C m f ∧ Fun K m qual st f fd ∧ Binds K fd ps []
def DT (K : PySem.W.Frag) (mg : Str → Option Value) (x : Str) (st : Stmt) (ps : List Str) : Prop := ∃ f fd, mg x = some (.ref f) ∧ PySem.W.keepIn K (.ref f) = true ∧ Fun K x x st f fd ∧ Binds K fd ps []
def IT (K : PySem.W.Frag) (C : Addr) (qual : Str) (st : Stmt) (ps : List Str) : Prop := ∃ f fd, Mk K C f ∧ Fun K "__init__" qual st f fd ∧ Binds K fd ps []
structure Txt (K : PySem.W.Frag) (mg : Str → Option Value) (c : Cs) (fI : Addr) : Prop where
  b_len : mg "len" = none
  b_range : mg "range" = none
  b_enumerate : mg "enumerate" = none
  b_ord : mg "ord" = none
  b_zip : mg "zip" = none
  g_BYTE : GS mg "BYTE" "byte"
  g_BEGIN : GS mg "BEGIN" "begin"
  g_END : GS mg "END" "end"
  g_EDGE : GS mg "EDGE" "edge"
  g_NO_EDGE : GS mg "NO_EDGE" "no edge"
  g_ROW : GS mg "ROW" "row"
  g_EITHER : GS mg "EITHER" "either"
  g_BOTH : GS mg "BOTH" "both"
  g_TURNED : GS mg "TURNED" "turned"
  g_COUNTED : GS mg "COUNTED" "counted"
  g_GROUP : GS mg "GROUP" "group"
  g_SPECIALS : GS mg "SPECIALS" "\\|&~*+?{}.^$()[]-:"
  g_NOT_PLAIN : GS mg "NOT_PLAIN" "\\|&~*+?{}.^$()[]"
  g_NOT_PLAIN_IN_SET : GS mg "NOT_PLAIN_IN_SET" "]-^"
  g_NOT_ATOMS : GS mg "NOT_ATOMS" "~|&)"
  g_CANNOT_STAND : GI mg "CANNOT_STAND" 1
  g_WRONG_NUMBER : GI mg "WRONG_NUMBER" 2
  g_WRONG_ITEM : GI mg "WRONG_ITEM" 3
  g_WRONG_GROUP : GI mg "WRONG_GROUP" 4
  g_MOST_GROUPS : GI mg "MOST_GROUPS" 32
  g_MOST_TIMES : GI mg "MOST_TIMES" 100
  g_PATTERN_ENDED : GI mg "PATTERN_ENDED" 256
  g_LONGEST : GI mg "LONGEST" 200
  g_ANSWERED : GI mg "ANSWERED" 0
  g_REFUSED : GI mg "REFUSED" 9
  g_BEYOND_BOUNDS : GI mg "BEYOND_BOUNDS" 1
  g_FAULTY : GI mg "FAULTY" 2
  g_FIRST : GI mg "FIRST" 0
  c_Reader : Cls K c.rd
  g_Reader : mg "Reader" = some (.ref c.rd)
  n_Reader_pattern : NoAttr K c.rd "pattern"
  n_Reader_place : NoAttr K c.rd "place"
  n_Reader_forms : NoAttr K c.rd "forms"
  n_Reader_groups : NoAttr K c.rd "groups"
  n_Reader_levels : NoAttr K c.rd "levels"
  c_Level : Cls K c.lv
  g_Level : mg "Level" = some (.ref c.lv)
  n_Level_rows : NoAttr K c.lv "rows"
  n_Level_parts : NoAttr K c.lv "parts"
  n_Level_pieces : NoAttr K c.lv "pieces"
  n_Level_turned : NoAttr K c.lv "turned"
  n_Level_shut : NoAttr K c.lv "shut"
  n_Level_groups_before_part : NoAttr K c.lv "groups_before_part"
  n_Level_group : NoAttr K c.lv "group"
  c_Form : Cls K c.fm
  g_Form : mg "Form" = some (.ref c.fm)
  n_Form_kind : NoAttr K c.fm "kind"
  n_Form_parts : NoAttr K c.fm "parts"
  n_Form_told : NoAttr K c.fm "told"
  flt : FX.FaultTxt K mg c.fl fI
  t_Form_init : IT K c.fm "Form.__init__" s_Form_init ["self", "kind", "parts", "told"]
  t_all_ends : DT K mg "all_ends" s_all_ends ["forms", "subject"]
  t_fits_piece : DT K mg "fits_piece" s_fits_piece ["ends", "start", "to"]
  t_form_ends : DT K mg "form_ends" s_form_ends ["form", "ends_of", "subject"]
  t_byte_ends : DT K mg "byte_ends" s_byte_ends ["members", "subject"]
  t_holds_at : DT K mg "holds_at" s_holds_at ["kind", "place", "subject"]
  t_is_word_byte : DT K mg "is_word_byte" s_is_word_byte ["byte"]
  t_empty_ends : DT K mg "empty_ends" s_empty_ends ["places"]
  t_row_ends : DT K mg "row_ends" s_row_ends ["parts", "places"]
  t_one_behind_other : DT K mg "one_behind_other" s_one_behind_other ["first", "second"]
  t_ends_behind : DT K mg "ends_behind" s_ends_behind ["middles", "second"]
  t_either_ends : DT K mg "either_ends" s_either_ends ["parts"]
  t_both_ends : DT K mg "both_ends" s_both_ends ["parts"]
  t_turned_ends : DT K mg "turned_ends" s_turned_ends ["once"]
  t_counted_ends : DT K mg "counted_ends" s_counted_ends ["once", "least", "most"]
  t_repeated_ends : DT K mg "repeated_ends" s_repeated_ends ["once", "times"]
  t_any_number_ends : DT K mg "any_number_ends" s_any_number_ends ["once"]
  t_among : DT K mg "among" s_among ["byte", "signs"]
  t_is_printed : DT K mg "is_printed" s_is_printed ["byte"]
  t_is_digit : DT K mg "is_digit" s_is_digit ["byte"]
  t_Level_init : IT K c.lv "Level.__init__" s_Level_init ["self", "shut", "groups", "group"]
  t_Level_bars_groups : MT K c.lv "bars_groups" "Level.bars_groups" s_Level_bars_groups ["self"]
  t_Reader_init : IT K c.rd "Reader.__init__" s_Reader_init ["self", "pattern"]
  t_Reader_now : MT K c.rd "now" "Reader.now" s_Reader_now ["self"]
  t_Reader_passes : MT K c.rd "passes" "Reader.passes" s_Reader_passes ["self", "sign"]
  t_Reader_need : MT K c.rd "need" "Reader.need" s_Reader_need ["self", "sign"]
  t_Reader_keep : MT K c.rd "keep" "Reader.keep" s_Reader_keep ["self", "kind", "parts", "told"]
  t_Reader_keep_joined : MT K c.rd "keep_joined" "Reader.keep_joined" s_Reader_keep_joined ["self", "kind", "parts"]
  t_Reader_read_whole : MT K c.rd "read_whole" "Reader.read_whole" s_Reader_read_whole ["self"]
  t_Reader_read_step : MT K c.rd "read_step" "Reader.read_step" s_Reader_read_step ["self"]
  t_Reader_open_bracket : MT K c.rd "open_bracket" "Reader.open_bracket" s_Reader_open_bracket ["self"]
  t_Reader_close_bracket : MT K c.rd "close_bracket" "Reader.close_bracket" s_Reader_close_bracket ["self"]
  t_Reader_pass_both : MT K c.rd "pass_both" "Reader.pass_both" s_Reader_pass_both ["self", "level"]
  t_Reader_end_part : MT K c.rd "end_part" "Reader.end_part" s_Reader_end_part ["self", "level"]
  t_Reader_end_row : MT K c.rd "end_row" "Reader.end_row" s_Reader_end_row ["self", "level"]
  t_Reader_end_level : MT K c.rd "end_level" "Reader.end_level" s_Reader_end_level ["self", "level"]
  t_Reader_end_piece : MT K c.rd "end_piece" "Reader.end_piece" s_Reader_end_piece ["self", "atom"]
  t_Reader_read_count : MT K c.rd "read_count" "Reader.read_count" s_Reader_read_count ["self"]
  t_Reader_read_numbers : MT K c.rd "read_numbers" "Reader.read_numbers" s_Reader_read_numbers ["self"]
  t_Reader_read_number : MT K c.rd "read_number" "Reader.read_number" s_Reader_read_number ["self", "least"]
  t_Reader_read_atom : MT K c.rd "read_atom" "Reader.read_atom" s_Reader_read_atom ["self"]
  t_Reader_read_plain : MT K c.rd "read_plain" "Reader.read_plain" s_Reader_read_plain ["self", "barred"]
  t_Reader_keep_byte : MT K c.rd "keep_byte" "Reader.keep_byte" s_Reader_keep_byte ["self", "only"]
  t_Reader_read_escaped_atom : MT K c.rd "read_escaped_atom" "Reader.read_escaped_atom" s_Reader_read_escaped_atom ["self"]
  t_Reader_read_escaped : MT K c.rd "read_escaped" "Reader.read_escaped" s_Reader_read_escaped ["self"]
  t_Reader_read_hex : MT K c.rd "read_hex" "Reader.read_hex" s_Reader_read_hex ["self"]
  t_Reader_read_set : MT K c.rd "read_set" "Reader.read_set" s_Reader_read_set ["self"]
  t_Reader_read_item : MT K c.rd "read_item" "Reader.read_item" s_Reader_read_item ["self", "members"]
  t_Reader_read_set_byte : MT K c.rd "read_set_byte" "Reader.read_set_byte" s_Reader_read_set_byte ["self"]
  t_read_pattern : DT K mg "read_pattern" s_read_pattern ["pattern"]
  t_fits : DT K mg "fits" s_fits ["start", "to", "pattern", "subject"]
  t_told_fault : DT K mg "told_fault" s_told_fault ["which", "fault"]
/-- the same with their promises -/
def MOk (P : Program) (w : World) (K : PySem.W.Frag) (mg : Str → Option Value) (base : Heap) (CX : CXT) (k : Nat) (C : Addr) (m : Str) (ps : List Str) (sp : Sp) : Prop := ∃ f fd, Meth K C m f ∧ FnOk P w K mg base CX k f fd ps sp ∧ Binds K fd ps []
def DOk (P : Program) (w : World) (K : PySem.W.Frag) (mg : Str → Option Value) (base : Heap) (CX : CXT) (k : Nat) (x : Str) (ps : List Str) (sp : Sp) : Prop := ∃ f fd, mg x = some (.ref f) ∧ PySem.W.keepIn K (.ref f) = true ∧ FnOk P w K mg base CX k f fd ps sp ∧ Binds K fd ps []
def IOk (P : Program) (w : World) (K : PySem.W.Frag) (mg : Str → Option Value) (base : Heap) (CX : CXT) (k : Nat) (C : Addr) (ps : List Str) (sp : Sp) : Prop := ∃ f fd, Mk K C f ∧ FnOk P w K mg base CX k f fd ps sp ∧ Binds K fd ps []
/-- an if whose test is known -/
theorem if_true_of {c : Bool} {A B : Prop} (hc : c = true) (h : A) : if c = true then A else B := by
  rw [if_pos hc]
  exact h
theorem if_false_of {c : Bool} {A B : Prop} (hc : c = false) (h : B) : if c = true then A else B := by
  rw [hc, if_neg Bool.false_ne_true]
  exact h
section
variable {X : Cx} {x : Str} {pos : Pos}
theorem pe_globI {i : Int} (hg : Gl X x) (h : GI X.mg x i) (hd : (x == ("__debug__" : Str)) = false := by decide) : PE X (.Name x pos) (tC (.int i)) := by
  obtain ⟨t, h⟩ := h
  exact pe_glob hg h ⟨_, rfl⟩ hd
theorem pe_globS {z : Str} (hg : Gl X x) (h : GS X.mg x z) (hd : (x == ("__debug__" : Str)) = false := by decide) : PE X (.Name x pos) (tC (.str z)) := by
  obtain ⟨t, h⟩ := h
  exact pe_glob hg h ⟨_, rfl⟩ hd
end
/-! ### small defs -/
def codes (z : Str) : List Nat := z.cps.toList
def spAmong : Sp := fun vs H Q _ => ∃ (b : Nat) (z : Str), vs = [.int b, .str z] ∧ z.cps.size ≤ 100 ∧ ∀ H', Same H H' → Q (.bl ((codes z).contains b)) H'
def spPrinted : Sp := fun vs H Q _ => ∃ b : Nat, vs = [.int b] ∧ Q (.bl (printed b)) H
def spDigit : Sp := fun vs H Q _ => ∃ b : Nat, vs = [.int b] ∧ Q (.bl (digit b)) H
theorem in_codes (l : List Nat) (b : Nat) : inV (.int b) (nls l) = l.contains b := by
  unfold inV nls
  induction l with
  | nil => rfl
  | cons a l ih =>
    rw [List.map_cons, List.any_cons, ih, List.contains_cons]
    congr 1
    show ((a : Int) == (b : Int)) = (b == a)
    by_cases h : a = b
    · subst h
      rw [beq_self_eq_true, beq_self_eq_true]
    · have h1 : ¬ (a : Int) = (b : Int) := by omega
      have h2 : ¬ b = a := fun z => h z.symm
      rw [beq_eq_false_iff_ne.mpr h1, beq_eq_false_iff_ne.mpr h2]
theorem nls_flat (l : List Nat) : (nls l).all flatV = true := by
  unfold nls
  rw [List.all_map]
  exact List.all_eq_true.mpr fun _ _ => rfl
section
variable {P : Program} {w : World} {K : PySem.W.Frag} {mg : Str → Option Value} {base : Heap} {c : Cs} {fI : Addr}
theorem ok_printed (T : Txt K mg c fI) : DOk P w K mg base CX0 1 "is_printed" ["byte"] spPrinted := by
  obtain ⟨f, fd, mf, kf, F, b⟩ := T.t_is_printed
  refine ⟨f, fd, mf, kf, F.ok sc_is_printed (fun vs H Q E h => ?_) (fun cdv A outer s H vs Q E hr h => ⟨_, pss_one (ps_ret (pe_chain op_le op_le pe_int (pv 0) pe_int)), ?_⟩), b⟩
  · obtain ⟨b, rfl, _⟩ := h; rfl
  · obtain ⟨b, rfl, q⟩ := h
    refine ⟨_, rfl, _, _, rfl, rfl, _, rfl, ?_⟩
    by_cases c1 : (32 : Int) ≤ b
    · refine if_true_of (decide_eq_true c1) ⟨_, _, rfl, rfl, ?_⟩
      have e : decide ((b : Int) ≤ 126) = printed b := by
        unfold printed
        rw [decide_eq_true (by omega : 32 ≤ b), Bool.true_and]
        by_cases h : b ≤ 126
        · rw [decide_eq_true h, decide_eq_true (by omega)]
        · rw [decide_eq_false h, decide_eq_false (by omega)]
      show Q (.bl (decide ((b : Int) ≤ 126))) H
      rw [e]; exact q
    · refine if_false_of (decide_eq_false c1) ?_
      have e : printed b = false := by
        unfold printed
        rw [decide_eq_false (by omega : ¬ 32 ≤ b)]; rfl
      rw [e] at q; exact q
theorem ok_among (T : Txt K mg c fI) : DOk P w K mg base CX0 1 "among" ["byte", "signs"] spAmong := by
  obtain ⟨f, fd, mf, kf, F, b⟩ := T.t_among
  refine ⟨f, fd, mf, kf, F.ok sc_among (fun vs H Q E h => ?_) (fun cdv A outer s H vs Q E hr h => ⟨_, pss_one (ps_ret (pe_cmpR op_in_seq (pv 0) (pe_lc (own := [("sign", 2)]) (g := gName 2) (tt := tYes) rfl sc_among.nd (pi_str (pv 1)) (blkOk_by (N := ["byte", "signs", "sign"]) (sc := defScope s_among) (by decide +kernel)) (fun _ _ _ _ _ => (pg_name (i := 2) sc_among.nd rfl (Or.inl rfl))) (fun _ _ _ _ _ => pts_nil) (fun _ _ _ _ _ => (pe_callB call_ord (by rfl) T.b_ord (by decide +kernel) (pa_cons (pv 2) pa_nil)))) (by rfl))), ?_⟩), b⟩
  · obtain ⟨b, z, rfl, _⟩ := h; rfl
  · obtain ⟨b, z, rfl, hz, q⟩ := h
    refine ⟨_, rfl, _, rfl, z, rfl, fun D hD => lc_it walk_str (fun i H1 => Same H H1 ∧ H1 D = some (.lst (nls ((codes z).take i)))) ⟨same_upd hD, upd_same⟩ (fun _ _ _ _ => trivial) ?_ ?_⟩
    · rintro i x H1 H2 hi ⟨s1, s2⟩ ⟨rfl, k, hk, rfl⟩
      refine ⟨rfl, _, rfl, _, rfl, rfl, _, s2, ?_, ?_, ?_⟩
      · unfold nls; rw [List.length_map, List.length_take]
        exact Nat.lt_of_le_of_lt (Nat.min_le_right _ _) (Nat.lt_of_le_of_lt (by unfold codes; rw [Array.length_toList]; exact hz) (by decide))
      · intro a o e
        have : a ≠ D := fun y => by rw [y, hD] at e; cases e
        rw [upd_ne this]; exact s1 a o e
      · rw [upd_same]
        have hk' : (codes z)[i]? = some k := by unfold codes; rw [Array.getElem?_toList]; exact hk
        have e : (codes z).take (i + 1) = (codes z).take i ++ [k] := by
          rw [List.take_add_one, hk']; rfl
        rw [e]
        unfold nls
        rw [List.map_append]
        rfl
    · rintro H1 ⟨s1, s2⟩
      refine ⟨D, _, rfl, .inl (SqL.of s2), rfl, nls_flat _, ?_⟩
      have e : (codes z).take z.cps.size = codes z := by
        rw [← Array.length_toList]; exact List.take_length
      rw [e]
      show Q (.bl (inV (.int b) (nls (codes z)))) H1
      rw [in_codes]
      exact q H1 s1
end
end RM
/-! Part C2: the objects' fields; reading and storing them in a reader's memory. -/
namespace RM
open PySem PySem.Spec PyProof.Rows L2 PF
theorem lk_here {k : Str} {v : V} {r : List (Str × V)} : List.lookup k ((k, v) :: r) = some v := by
  have e : (k == k) = true := beq_self_eq_true k
  simp only [List.lookup, e]
theorem lk_past {k g : Str} {v : V} {r : List (Str × V)} (h : (k == g) = false) : List.lookup k ((g, v) :: r) = List.lookup k r := by
  simp only [List.lookup, h]
theorem put_here {f : Str} {v x : V} {r : List (Str × V)} : putF f v ((f, x) :: r) = (f, v) :: r := if_pos rfl
theorem put_past {f g : Str} {v x : V} {r : List (Str × V)} (h : ¬ g = f) : putF f v ((g, x) :: r) = (g, x) :: putF f v r := if_neg h
theorem lookup_none_of : ∀ {fs : List (Str × V)} {m : Str}, (fs.map (·.1)).contains m = false → fs.lookup m = none
  | [], _, _ => rfl
  | (g, v) :: fs, m, h => by
    rw [List.map_cons, List.contains_cons, Bool.or_eq_false_iff] at h
    rw [lk_past h.1]
    exact lookup_none_of h.2
abbrev rdFs (pl fl ll : Addr) (place groups : Nat) : List (Str × V) := [("pattern", .ref pl), ("place", .int place), ("forms", .ref fl), ("groups", .int groups), ("levels", .ref ll)]
abbrev lvFs (x : LvA) (L : Lv) : List (Str × V) := [("rows", .ref x.r), ("parts", .ref x.q), ("pieces", .ref x.c), ("turned", .bl L.turned), ("shut", .bl L.shut), ("groups_before_part", .int L.gbp), ("group", optI L.group)]
theorem rd_pattern {pl fl ll : Addr} {place groups : Nat} : (rdFs pl fl ll place groups).lookup ("pattern" : Str) = some (.ref pl) := lk_here
theorem rd_place {pl fl ll : Addr} {place groups : Nat} : (rdFs pl fl ll place groups).lookup ("place" : Str) = some (.int place) := (lk_past (by decide +kernel)).trans (lk_here)
theorem rd_forms {pl fl ll : Addr} {place groups : Nat} : (rdFs pl fl ll place groups).lookup ("forms" : Str) = some (.ref fl) := (lk_past (by decide +kernel)).trans ((lk_past (by decide +kernel)).trans (lk_here))
theorem rd_groups {pl fl ll : Addr} {place groups : Nat} : (rdFs pl fl ll place groups).lookup ("groups" : Str) = some (.int groups) := (lk_past (by decide +kernel)).trans ((lk_past (by decide +kernel)).trans ((lk_past (by decide +kernel)).trans (lk_here)))
theorem rd_levels {pl fl ll : Addr} {place groups : Nat} : (rdFs pl fl ll place groups).lookup ("levels" : Str) = some (.ref ll) := (lk_past (by decide +kernel)).trans ((lk_past (by decide +kernel)).trans ((lk_past (by decide +kernel)).trans ((lk_past (by decide +kernel)).trans (lk_here))))
theorem rd_none {pl fl ll : Addr} {place groups : Nat} {m : Str} (h : (["pattern", "place", "forms", "groups", "levels"] : List Str).contains m = false) : (rdFs pl fl ll place groups).lookup m = none := by
  exact lookup_none_of h
theorem lv_rows {x : LvA} {L : Lv} : (lvFs x L).lookup ("rows" : Str) = some (.ref x.r) := lk_here
theorem lv_parts {x : LvA} {L : Lv} : (lvFs x L).lookup ("parts" : Str) = some (.ref x.q) := (lk_past (by decide +kernel)).trans (lk_here)
theorem lv_pieces {x : LvA} {L : Lv} : (lvFs x L).lookup ("pieces" : Str) = some (.ref x.c) := (lk_past (by decide +kernel)).trans ((lk_past (by decide +kernel)).trans (lk_here))
theorem lv_turned {x : LvA} {L : Lv} : (lvFs x L).lookup ("turned" : Str) = some (.bl L.turned) := (lk_past (by decide +kernel)).trans ((lk_past (by decide +kernel)).trans ((lk_past (by decide +kernel)).trans (lk_here)))
theorem lv_shut {x : LvA} {L : Lv} : (lvFs x L).lookup ("shut" : Str) = some (.bl L.shut) := (lk_past (by decide +kernel)).trans ((lk_past (by decide +kernel)).trans ((lk_past (by decide +kernel)).trans ((lk_past (by decide +kernel)).trans (lk_here))))
theorem lv_groups_before_part {x : LvA} {L : Lv} : (lvFs x L).lookup ("groups_before_part" : Str) = some (.int L.gbp) := (lk_past (by decide +kernel)).trans ((lk_past (by decide +kernel)).trans ((lk_past (by decide +kernel)).trans ((lk_past (by decide +kernel)).trans ((lk_past (by decide +kernel)).trans (lk_here)))))
theorem lv_group {x : LvA} {L : Lv} : (lvFs x L).lookup ("group" : Str) = some (optI L.group) := (lk_past (by decide +kernel)).trans ((lk_past (by decide +kernel)).trans ((lk_past (by decide +kernel)).trans ((lk_past (by decide +kernel)).trans ((lk_past (by decide +kernel)).trans ((lk_past (by decide +kernel)).trans (lk_here))))))
theorem lv_none {x : LvA} {L : Lv} {m : Str} (h : (["rows", "parts", "pieces", "turned", "shut", "groups_before_part", "group"] : List Str).contains m = false) : (lvFs x L).lookup m = none := by
  exact lookup_none_of h
theorem rd_put_place {pl fl ll : Addr} {place groups : Nat} (n : Nat) : putF ("place" : Str) (.int n) (rdFs pl fl ll place groups) = rdFs pl fl ll n groups := (put_past (by decide +kernel)).trans (congrArg _ (put_here))
theorem rd_put_groups {pl fl ll : Addr} {place groups : Nat} (n : Nat) : putF ("groups" : Str) (.int n) (rdFs pl fl ll place groups) = rdFs pl fl ll place n := (put_past (by decide +kernel)).trans (congrArg _ ((put_past (by decide +kernel)).trans (congrArg _ ((put_past (by decide +kernel)).trans (congrArg _ (put_here))))))
theorem lv_put_turned {x : LvA} {L : Lv} (b : Bool) : putF ("turned" : Str) (.bl b) (lvFs x L) = lvFs x { L with turned := b } := (put_past (by decide +kernel)).trans (congrArg _ ((put_past (by decide +kernel)).trans (congrArg _ ((put_past (by decide +kernel)).trans (congrArg _ (put_here))))))
theorem lv_put_groups_before_part {x : LvA} {L : Lv} (n : Nat) : putF ("groups_before_part" : Str) (.int n) (lvFs x L) = lvFs x { L with gbp := n } := (put_past (by decide +kernel)).trans (congrArg _ ((put_past (by decide +kernel)).trans (congrArg _ ((put_past (by decide +kernel)).trans (congrArg _ ((put_past (by decide +kernel)).trans (congrArg _ ((put_past (by decide +kernel)).trans (congrArg _ (put_here))))))))))
theorem lv_put_parts {x : LvA} {L : Lv} (a : Addr) : putF ("parts" : Str) (.ref a) (lvFs x L) = lvFs { x with q := a } L := (put_past (by decide +kernel)).trans (congrArg _ (put_here))
theorem lv_put_pieces {x : LvA} {L : Lv} (a : Addr) : putF ("pieces" : Str) (.ref a) (lvFs x L) = lvFs { x with c := a } L := (put_past (by decide +kernel)).trans (congrArg _ ((put_past (by decide +kernel)).trans (congrArg _ (put_here))))

/-- an attribute of what stands in a slot -/
theorem fld_at {K : PySem.W.Frag} {σ : L2.St} {H : Hp} {Q : VK} {i : Nat} {a C dx : Addr} {fs : List (Str × V)} {f : Str} {v : V} (e : σ[i]? = some (some (.ref a))) (h : H a = some (.ins C dx fs)) (cl : Cls K C) (n : NoAttr K C f) (l : fs.lookup f = some v) (q : Q v H) : tFld K (tVar i) f σ H Q :=
  ⟨_, e, _, _, _, _, _, rfl, h, cl, n, l, q⟩
section
variable {K : PySem.W.Frag} {mg : Str → Option Value} {c : Cs} {fI : Addr} {F H : Hp} {r : Addr} {p : List Nat} {place groups : Nat} {fs : List Fm} {lv : List Addr} {M : Mem} {σ : L2.St} {Q : VK} {i : Nat}
/-- a method of the reader -/
theorem rd_meth {m : Str} {X : Prop} (R : RS K c F H r p place groups fs lv M) (hm : (["pattern", "place", "forms", "groups", "levels"] : List Str).contains m = false) (h : X) : ∃ a dx fs, V.ref r = .ref a ∧ H a = some (.ins c.rd dx fs) ∧ fs.lookup m = none ∧ X := by
  obtain ⟨G, dx, pl, fl, ll, fas, _, _, _, o⟩ := R
  exact ⟨r, dx, _, rfl, o.get 0 rfl, rd_none hm, h⟩
theorem rd_f_place {Q : V → Prop} (T : Txt K mg c fI) (R : RS K c F H r p place groups fs lv M) (q : Q (.int place)) : ∃ a C dx fs v, V.ref r = .ref a ∧ H a = some (.ins C dx fs) ∧ Cls K C ∧ NoAttr K C "place" ∧ fs.lookup ("place" : Str) = some v ∧ Q v := by
  obtain ⟨G, dx, pl, fl, ll, fas, _, _, _, o⟩ := R
  exact ⟨_, _, _, _, _, rfl, o.get 0 rfl, T.c_Reader, T.n_Reader_place, rd_place, q⟩
theorem rd_f_groups {Q : V → Prop} (T : Txt K mg c fI) (R : RS K c F H r p place groups fs lv M) (q : Q (.int groups)) : ∃ a C dx fs v, V.ref r = .ref a ∧ H a = some (.ins C dx fs) ∧ Cls K C ∧ NoAttr K C "groups" ∧ fs.lookup ("groups" : Str) = some v ∧ Q v := by
  obtain ⟨G, dx, pl, fl, ll, fas, _, _, _, o⟩ := R
  exact ⟨_, _, _, _, _, rfl, o.get 0 rfl, T.c_Reader, T.n_Reader_groups, rd_groups, q⟩
theorem rd_f_pattern {Q : V → Prop} (T : Txt K mg c fI) (R : RS K c F H r p place groups fs lv M) (q : ∀ pl, SqL K H pl (nls p) → Q (.ref pl)) : ∃ a C dx fs v, V.ref r = .ref a ∧ H a = some (.ins C dx fs) ∧ Cls K C ∧ NoAttr K C "pattern" ∧ fs.lookup ("pattern" : Str) = some v ∧ Q v := by
  obtain ⟨G, dx, pl, fl, ll, fas, _, _, hp, o⟩ := R
  exact ⟨_, _, _, _, _, rfl, o.get 0 rfl, T.c_Reader, T.n_Reader_pattern, rd_pattern, q pl (o.le.seq hp)⟩
/-- the list of levels: read -/
theorem rd_f_levels {Q : V → Prop} (T : Txt K mg c fI) (R : RS K c F H r p place groups fs lv M) (q : ∀ ll, H ll = some (.lst (lv.map V.ref)) → Q (.ref ll)) : ∃ a C dx fs v, V.ref r = .ref a ∧ H a = some (.ins C dx fs) ∧ Cls K C ∧ NoAttr K C "levels" ∧ fs.lookup ("levels" : Str) = some v ∧ Q v := by
  obtain ⟨G, dx, pl, fl, ll, fas, _, _, hp, o⟩ := R
  exact ⟨_, _, _, _, _, rfl, o.get 0 rfl, T.c_Reader, T.n_Reader_levels, rd_levels, q ll (o.get 2 rfl)⟩
/-- self.place += n -/
theorem rd_inc (T : Txt K mg c fI) {D : Ends} (R : RS K c F H r p place groups fs lv M) (e : σ[i]? = some (some (.ref r))) (q : ∀ H', RS K c F H' r p (place + 1) groups fs lv M → D.nx σ H') : sFldAug K (tVar i) (tC (.int 1)) rAdd "place" D σ H := by
  obtain ⟨G, dx, pl, fl, ll, fas, s, f, hp, o⟩ := R
  refine ⟨_, e, r, _, dx, _, _, rfl, o.get 0 rfl, T.c_Reader, T.n_Reader_place, rd_place, _, _, rfl, rfl, dx, _, o.get 0 rfl, (by show 5 < 1000; decide), q _ ⟨G, dx, pl, fl, ll, fas, s, f, hp, ?_⟩⟩
  have z := o.put 0 (rdO c.rd dx pl fl ll (place + 1) groups) rfl
  have ee : HO.ins c.rd dx (putF ("place" : Str) (.int ((place : Int) + 1)) (rdFs pl fl ll place groups)) = rdO c.rd dx pl fl ll (place + 1) groups := by
    show _ = HO.ins c.rd dx (rdFs pl fl ll (place + 1) groups)
    rw [← rd_put_place (place + 1)]
    rfl
  rw [ee]
  exact z
theorem rd_inc_groups (T : Txt K mg c fI) {D : Ends} (R : RS K c F H r p place groups fs lv M) (e : σ[i]? = some (some (.ref r))) (q : ∀ H', RS K c F H' r p place (groups + 1) fs lv M → D.nx σ H') : sFldAug K (tVar i) (tC (.int 1)) rAdd "groups" D σ H := by
  obtain ⟨G, dx, pl, fl, ll, fas, s, f, hp, o⟩ := R
  refine ⟨_, e, r, _, dx, _, _, rfl, o.get 0 rfl, T.c_Reader, T.n_Reader_groups, rd_groups, _, _, rfl, rfl, dx, _, o.get 0 rfl, (by show 5 < 1000; decide), q _ ⟨G, dx, pl, fl, ll, fas, s, f, hp, ?_⟩⟩
  have z := o.put 0 (rdO c.rd dx pl fl ll place (groups + 1)) rfl
  have ee : HO.ins c.rd dx (putF ("groups" : Str) (.int ((groups : Int) + 1)) (rdFs pl fl ll place groups)) = rdO c.rd dx pl fl ll place (groups + 1) := by
    show _ = HO.ins c.rd dx (rdFs pl fl ll place (groups + 1))
    rw [← rd_put_groups (groups + 1)]
    rfl
  rw [ee]
  exact z
theorem RS.wk {F' : Hp} (R : RS K c F H r p place groups fs lv M) (s : Same F' F) : RS K c F' H r p place groups fs lv M := by
  obtain ⟨G, dx, pl, fl, ll, fas, s1, f, hp, o⟩ := R
  exact ⟨G, dx, pl, fl, ll, fas, s.trans s1, f, hp, o⟩
theorem RS.same {H' : Hp} (R : RS K c F H r p place groups fs lv M) (s : Same H H') : RS K c F H' r p place groups fs lv M := by
  obtain ⟨G, dx, pl, fl, ll, fas, s1, f, hp, o⟩ := R
  exact ⟨G, dx, pl, fl, ll, fas, s1, f, hp, o.same s⟩
/-- F stands -/
theorem RS.stands (R : RS K c F H r p place groups fs lv M) : Same F H := by
  obtain ⟨G, dx, pl, fl, ll, fas, s1, f, hp, o⟩ := R
  exact s1.trans o.le
theorem perm3 {a b d : Addr × HO} {M M' : Mem} (h : M.Perm M') : (a :: b :: d :: M).Perm (a :: b :: d :: M') := ((h.cons d).cons b).cons a
theorem RS.perm {M' : Mem} (R : RS K c F H r p place groups fs lv M) (h : M.Perm M') : RS K c F H r p place groups fs lv M' := by
  obtain ⟨G, dx, pl, fl, ll, fas, s1, f, hp, o⟩ := R
  exact ⟨G, dx, pl, fl, ll, fas, s1, f, hp, o.perm (perm3 h)⟩
/-- what's owned besides, at its place -/
theorem RS.get (R : RS K c F H r p place groups fs lv M) (j : Nat) {a : Addr} {x : HO} (e : M[j]? = some (a, x)) : H a = some x := by
  obtain ⟨G, dx, pl, fl, ll, fas, s1, f, hp, o⟩ := R
  exact o.get (j + 3) e
theorem RS.put (R : RS K c F H r p place groups fs lv M) (j : Nat) {a : Addr} {x : HO} (y : HO) (e : M[j]? = some (a, x)) : RS K c F (upd H a y) r p place groups fs lv (M.set j (a, y)) := by
  obtain ⟨G, dx, pl, fl, ll, fas, s1, f, hp, o⟩ := R
  exact ⟨G, dx, pl, fl, ll, fas, s1, f, hp, o.put (j + 3) y e⟩
/-- a new object -/
theorem RS.add (R : RS K c F H r p place groups fs lv M) {q : Addr} (hq : H q = none) (x : HO) : RS K c F (upd H q x) r p place groups fs lv ((q, x) :: M) := by
  obtain ⟨G, dx, pl, fl, ll, fas, s1, f, hp, o⟩ := R
  refine ⟨G, dx, pl, fl, ll, fas, s1, f, hp, (o.add hq x).perm ?_⟩
  exact (List.Perm.swap _ _ _).trans (((List.Perm.swap _ _ _).trans ((List.Perm.swap _ _ _).cons _)).cons _)
theorem RS.drop {q : Addr × HO} (R : RS K c F H r p place groups fs lv (q :: M)) : RS K c F H r p place groups fs lv M := by
  obtain ⟨G, dx, pl, fl, ll, fas, s1, f, hp, o⟩ := R
  exact ⟨G, dx, pl, fl, ll, fas, s1, f, hp, o.sub (.cons₂ _ (.cons₂ _ (.cons₂ _ (.cons _ (List.Sublist.refl _)))))⟩
/-- an owned thing comes to stand -/
theorem RS.freeze {a : Addr} {x : HO} (R : RS K c F H r p place groups fs lv ((a, x) :: M)) : RS K c (upd F a x) H r p place groups fs lv M ∧ Same F (upd F a x) := by
  obtain ⟨G, dx, pl, fl, ll, fas, s1, f, hp, o⟩ := R
  have o2 := o.perm (M' := (a, x) :: (r, rdO c.rd dx pl fl ll place groups) :: (fl, .lst (fas.map V.ref)) :: (ll, .lst (lv.map V.ref)) :: M) ((((List.Perm.swap _ _ _).cons _).cons _).trans (((List.Perm.swap _ _ _).cons _).trans (List.Perm.swap _ _ _)))
  obtain ⟨o3, s3, e3⟩ := o2.freeze
  have fa : F a = none := s1.free (o2.fresh _ List.mem_cons_self)
  refine ⟨⟨upd G a x, dx, pl, fl, ll, fas, fun b z h => ?_, f.mono s3, s3.seq hp, o3⟩, same_upd fa⟩
  by_cases q : b = a
  · rw [q, upd_same] at h ⊢; exact h
  · rw [upd_ne q] at h ⊢; exact s1 b z h
end
end RM
/-! Part C3: reading a sign, keeping a form. -/
namespace RM
open PySem PySem.Spec PyProof.Rows L2 PF
/-- a Fault leaves: what stood in F stands -/
def FltE (c : Cs) (F : Hp) (E : XK) (e : Flt) : Prop := ∀ d H', Same F H' → H' d = some (.xd (flt (.int e.1) (.int e.2))) → E (.ref c.fl) (some d) H'
theorem FltE.at_ {c : Cs} {F H : Hp} {E : XK} {e : Flt} (h : FltE c F E e) (s : Same F H) {d : Addr} (n : H d = none) : E (.ref c.fl) (some d) (upd H d (.xd (flt (.int e.1) (.int e.2)))) := h d _ (s.trans (same_upd n)) upd_same
def one (z : Str) (k : Nat) : Prop := z.length = 1 ∧ z.cps.getD 0 0 = k
def spNow (K : PySem.W.Frag) (c : Cs) : Sp := fun vs H Q _ => ∃ F r p pl g fs lv M, vs = [.ref r] ∧ RS K c F H r p pl g fs lv M ∧ Q (.int (now p pl)) H
def spPasses (K : PySem.W.Frag) (c : Cs) : Sp := fun vs H Q _ => ∃ F r p pl g fs lv M z k, vs = [.ref r, .str z] ∧ one z k ∧ RS K c F H r p pl g fs lv M ∧
  (now p pl = k → ∀ H', RS K c F H' r p (pl + 1) g fs lv M → Q (.bl true) H') ∧ (now p pl ≠ k → Q (.bl false) H)
def spNeed (K : PySem.W.Frag) (c : Cs) : Sp := fun vs H Q E => ∃ F r p pl g fs lv M z k, vs = [.ref r, .str z] ∧ one z k ∧ RS K c F H r p pl g fs lv M ∧
  (∀ e, need p k pl = .error e → FltE c F E e) ∧ (∀ j, need p k pl = .ok j → ∀ H', RS K c F H' r p j g fs lv M → Q .non H')
/-- Form(kind, parts, told) -/
def spFormInit (c : Cs) : Sp := fun vs H Q _ => ∃ (x dx : Addr) (k : Str) (pa tv : V), vs = [.ref x, .str k, pa, tv] ∧ H x = some (.ins c.fm dx []) ∧
  ∀ H', H' x = some (.ins c.fm dx [("kind", .str k), ("parts", pa), ("told", tv)]) → (∀ b o, H b = some o → b ≠ x → H' b = some o) → Q .non H'
def spKeep (K : PySem.W.Frag) (c : Cs) : Sp := fun vs H Q _ => ∃ F r p pl g fs lv M kd pa js tv tl TM, vs = [.ref r, .str (kdS kd), .ref pa, tv] ∧ ToldM tv tl TM ∧ fs.length < 100000 ∧ RS K c F H r p pl g fs lv ((pa, .lst (nls js)) :: (TM ++ M)) ∧
  ∀ H', RS K c F H' r p pl g (fs ++ [⟨kd, js, tl⟩]) lv M → Q (.int fs.length) H'
section
variable {P : Program} {w : World} {K : PySem.W.Frag} {mg : Str → Option Value} {base : Heap} {c : Cs} {fI : Addr}
theorem ok_digit (T : Txt K mg c fI) : DOk P w K mg base CX0 1 "is_digit" ["byte"] spDigit := by
  obtain ⟨f, fd, mf, kf, F, b⟩ := T.t_is_digit
  refine ⟨f, fd, mf, kf, F.ok sc_is_digit (fun vs H Q E h => ?_) (fun cdv A outer s H vs Q E hr h => ⟨_, pss_one (ps_ret (pe_chain op_le op_le (pe_callB call_ord (by rfl) T.b_ord (by decide +kernel) (pa_cons pe_str pa_nil)) (pv 0) (pe_callB call_ord (by rfl) T.b_ord (by decide +kernel) (pa_cons pe_str pa_nil)))), ?_⟩), b⟩
  · obtain ⟨b, rfl, _⟩ := h; rfl
  · obtain ⟨b, rfl, q⟩ := h
    refine ⟨_, rfl, rfl, _, rfl, _, _, rfl, rfl, _, rfl, ?_⟩
    by_cases c1 : (48 : Int) ≤ b
    · refine if_true_of (decide_eq_true c1) ⟨_, rfl, rfl, _, _, rfl, rfl, ?_⟩
      have e : decide ((b : Int) ≤ 57) = digit b := by
        unfold digit
        rw [decide_eq_true (by omega : 48 ≤ b), Bool.true_and]
        by_cases h : b ≤ 57
        · rw [decide_eq_true h, decide_eq_true (by omega)]
        · rw [decide_eq_false h, decide_eq_false (by omega)]
      show Q (.bl (decide ((b : Int) ≤ 57))) H
      rw [e]; exact q
    · refine if_false_of (decide_eq_false c1) ?_
      have e : digit b = false := by
        unfold digit
        rw [decide_eq_false (by omega : ¬ 48 ≤ b)]; rfl
      rw [e] at q; exact q
theorem ok_now (T : Txt K mg c fI) : MOk P w K mg base CX0 1 c.rd "now" ["self"] (spNow K c) := by
  obtain ⟨f, fd, m, F, b⟩ := T.t_Reader_now
  refine ⟨f, fd, m, F.ok sc_Reader_now (fun vs H Q E h => ?_) (fun cdv A outer s H vs Q E hr h => ⟨_, pss_cons (ps_if (pt_cmpR op_lt (pe_fld (pv 0) rfl) (pe_callB call_len_seq (by rfl) T.b_len PySem.boot_len (pa_cons (pe_fld (pv 0) rfl) pa_nil)) (nomark _)) (pss_one (ps_ret (pe_ix ix_list (pe_fld (pv 0) rfl) (pe_fld (pv 0) rfl) (fun _ _ => rfl)))) pss_nil) (pss_one (ps_ret (pe_globI rfl T.g_PATTERN_ENDED))), ?_⟩), b⟩
  · obtain ⟨_, r, _, _, _, _, _, _, rfl, _⟩ := h; rfl
  · obtain ⟨F0, r, p, pl, g, fs, lv, M, rfl, R, q⟩ := h
    refine ⟨_, rfl, rd_f_place T R ⟨_, rfl, rd_f_pattern T R fun l hl => ⟨_, _, rfl, .inl hl, _, _, rfl, rfl, _, rfl, ?_⟩⟩⟩
    have el : (nls p).length = p.length := by unfold nls; rw [List.length_map]
    by_cases c1 : pl < p.length
    · refine if_true_of (decide_eq_true (by rw [el]; omega)) ?_
      refine ⟨_, rfl, rd_f_pattern T R fun l hl => ⟨_, rfl, rd_f_place T R ⟨_, _, _, _, rfl, rfl, hl, atI_nat (v := .int (now p pl)) ?_, q⟩⟩⟩
      unfold nls
      rw [List.getElem?_map, List.getElem?_eq_getElem c1, now_lt c1]
      rfl
    · refine if_false_of (decide_eq_false (by rw [el]; omega)) ?_
      rw [now_ge (Nat.le_of_not_lt c1)] at q
      exact q
theorem ok_passes (T : Txt K mg c fI) : MOk P w K mg base CX0 2 c.rd "passes" ["self", "sign"] (spPasses K c) := by
  obtain ⟨f, fd, m, F, b⟩ := T.t_Reader_passes
  obtain ⟨_, _, M_Reader_now, G_Reader_now, B_Reader_now⟩ := ok_now (P := P) (w := w) (base := base) T
  refine ⟨f, fd, m, F.ok sc_Reader_passes (fun vs H Q E h => ?_) (fun cdv A outer s H vs Q E hr h => ⟨_, pss_cons (ps_if (pt_cmpR op_eq (pe_meth0 (pv 0) T.c_Reader M_Reader_now G_Reader_now (hr.mono (by decide)) B_Reader_now .nil pass0) (pe_callB call_ord (by rfl) T.b_ord (by decide +kernel) (pa_cons (pv 1) pa_nil)) (nomark _)) (pss_cons (ps_fldaug (pv 0) pe_int in_add) (pss_one (ps_ret pe_bl))) pss_nil) (pss_one (ps_ret pe_bl)), ?_⟩), b⟩
  · obtain ⟨_, r, _, _, _, _, _, _, _, _, rfl, _⟩ := h; rfl
  · obtain ⟨F0, r, p, pl, g, fs, lv, M, z, k, rfl, ⟨z1, z2⟩, R, q1, q2⟩ := h
    refine ⟨_, rfl, rd_meth R (by decide +kernel) ⟨F0, r, p, pl, g, fs, lv, M, rfl, R, _, rfl, _, rfl, z1, rfl, _, rfl, ?_⟩⟩
    rw [z2]
    by_cases c1 : now p pl = k
    · refine if_true_of (decide_eq_true (by rw [c1])) ?_
      exact rd_inc T R (by rfl) fun H' R' => q1 c1 H' R'
    · refine if_false_of (decide_eq_false fun e => c1 ?_) (q2 c1)
      have := V.int.inj e
      omega
end
end RM
/-! Part C4: forms kept. -/
namespace RM
open PySem PySem.Spec PyProof.Rows L2 PF
theorem big_small {n : Nat} (h : n < 100000) : n < sizeLine := Nat.lt_trans h (by decide)
theorem Own.new {G H H1 : Hp} {M : Mem} {x : Addr} {o : HO} (w : Own G H M) (s : Same H H1) (nx : H x = none) (hx : H1 x = some o) : Own G H1 ((x, o) :: M) := by
  have gp : G x = none := w.le.free nx
  refine ⟨w.le.trans s, List.nodup_cons.mpr ⟨w.free nx, w.nd⟩, fun q hq => ?_, fun q hq => ?_⟩
  · rcases List.mem_cons.mp hq with h | h
    · rw [h]; exact hx
    · exact s _ _ (w.holds q h)
  · rcases List.mem_cons.mp hq with h | h
    · rw [h]; exact gp
    · exact w.fresh q h
/-- what's told, come to stand -/
theorem Own.told {G H : Hp} {M TM : Mem} {tv : V} {tl : Tl} (tm : ToldM tv tl TM) (o : Own G H (TM ++ M)) : ∃ G', Same G G' ∧ ToldAt G' tv tl ∧ Own G' H M := by
  cases tl with
  | non => obtain ⟨h, rfl⟩ := tm; exact ⟨G, Same.refl _, h, o⟩
  | num k => obtain ⟨h, rfl⟩ := tm; exact ⟨G, Same.refl _, h, o⟩
  | mem m =>
    obtain ⟨a, h, rfl⟩ := tm
    obtain ⟨o2, s2, e2⟩ := Own.freeze (M := M) o
    exact ⟨_, s2, ⟨a, h, e2⟩, o2⟩
  | cnt n m =>
    obtain ⟨a, h, rfl⟩ := tm
    obtain ⟨o2, s2, e2⟩ := Own.freeze (M := M) o
    exact ⟨_, s2, ⟨a, h, e2⟩, o2⟩
theorem same_made {H H1 : Hp} {x dx C : Addr} (nx : H x = none) (nd : H dx = none) (k : ∀ b o, (upd (upd H dx (.own x)) x (.ins C dx [])) b = some o → b ≠ x → H1 b = some o) : Same H H1 := Same.made nx nd k
section
variable {K : PySem.W.Frag} {mg : Str → Option Value} {c : Cs} {fI : Addr} {F H : Hp} {r : Addr} {p : List Nat} {place groups : Nat} {fs : List Fm} {lv : List Addr} {M : Mem}
theorem rd_f_forms {Q : V → Prop} (T : Txt K mg c fI) (R : RS K c F H r p place groups fs lv M) (q : ∀ (fl : Addr) (fas : List Addr), H fl = some (.lst (fas.map V.ref)) → fas.length = fs.length → Q (.ref fl)) : ∃ a C dx fs v, V.ref r = .ref a ∧ H a = some (.ins C dx fs) ∧ Cls K C ∧ NoAttr K C "forms" ∧ fs.lookup ("forms" : Str) = some v ∧ Q v := by
  obtain ⟨G, dx, pl, fl, ll, fas, _, f, _, o⟩ := R
  exact ⟨_, _, _, _, _, rfl, o.get 0 rfl, T.c_Reader, T.n_Reader_forms, rd_forms, q fl fas (o.get 1 rfl) f.1⟩
/-- the list of forms, and what a form more makes of the memory -/
theorem RS.keeping {pa : Addr} {js : List Nat} {TM : Mem} {kd : Kd} {tv : V} {tl : Tl} {Q : V → Prop} (T : Txt K mg c fI) (tm : ToldM tv tl TM) (R : RS K c F H r p place groups fs lv ((pa, .lst (nls js)) :: (TM ++ M)))
    (q : ∀ fl xs, H fl = some (.lst xs) → xs.length = fs.length → (∀ H1 x dx, Same H H1 → H x = none → H1 x = some (.ins c.fm dx [("kind", .str (kdS kd)), ("parts", .ref pa), ("told", tv)]) → H1 fl = some (.lst xs) ∧ RS K c F (upd H1 fl (.lst (xs ++ [.ref x]))) r p place groups (fs ++ [⟨kd, js, tl⟩]) lv M) → Q (.ref fl)) :
    ∃ a C dx fs v, V.ref r = .ref a ∧ H a = some (.ins C dx fs) ∧ Cls K C ∧ NoAttr K C "forms" ∧ fs.lookup ("forms" : Str) = some v ∧ Q v := by
  obtain ⟨G, dx, pl, fl, ll, fas, s0, f, hp, o⟩ := R
  refine ⟨_, _, _, _, _, rfl, o.get 0 rfl, T.c_Reader, T.n_Reader_forms, rd_forms, q fl _ (o.get 1 rfl) (by rw [List.length_map]; exact f.1) fun H1 x dx1 s nx hx => ?_⟩
  have o1 := o.new s nx hx
  refine ⟨o1.get 2 rfl, ?_⟩
  have o2 := o1.put 2 (.lst (fas.map V.ref ++ [.ref x])) rfl
  -- the new form, its parts, what's told, ahead
  have pm : ((x, HO.ins c.fm dx1 [("kind", .str (kdS kd)), ("parts", .ref pa), ("told", tv)]) :: (r, rdO c.rd dx pl fl ll place groups) :: (fl, HO.lst (fas.map V.ref ++ [.ref x])) :: (ll, .lst (lv.map V.ref)) :: (pa, .lst (nls js)) :: (TM ++ M)).Perm
      ((x, HO.ins c.fm dx1 [("kind", .str (kdS kd)), ("parts", .ref pa), ("told", tv)]) :: (pa, .lst (nls js)) :: (TM ++ ((r, rdO c.rd dx pl fl ll place groups) :: (fl, HO.lst (fas.map V.ref ++ [.ref x])) :: (ll, .lst (lv.map V.ref)) :: M))) := by
    refine List.Perm.cons _ ?_
    refine (((List.Perm.swap _ _ _).cons _).cons _).trans (((List.Perm.swap _ _ _).cons _).trans ((List.Perm.swap _ _ _).trans (List.Perm.cons _ ?_)))
    refine List.Perm.symm ?_
    exact List.perm_middle.trans ((List.perm_middle.trans (List.perm_middle.cons _)).cons _)
  obtain ⟨o3, s3, e3⟩ := (o2.perm pm).freeze
  obtain ⟨o4, s4, e4⟩ := o3.freeze
  obtain ⟨G5, s5, t5, o5⟩ := o4.told tm
  refine ⟨G5, dx, pl, fl, ll, fas ++ [x], s0.trans (s3.trans (s4.trans s5)), ?_, (s3.trans (s4.trans s5)).seq hp, by rw [List.map_append]; exact o5⟩
  exact (f.mono (s3.trans (s4.trans s5))).snoc ⟨dx1, pa, tv, s5 _ _ (s4 _ _ e3), s5 _ _ e4, t5⟩
end
section
variable {P : Program} {w : World} {K : PySem.W.Frag} {mg : Str → Option Value} {base : Heap} {c : Cs} {fI : Addr}
theorem ok_need (T : Txt K mg c fI) : MOk P w K mg base (L2.CX P w) 3 c.rd "need" ["self", "sign"] (spNeed K c) := by
  obtain ⟨f, fd, m, F, b⟩ := T.t_Reader_need
  obtain ⟨_, _, M_Reader_passes, G_Reader_passes, B_Reader_passes⟩ := ok_passes (P := P) (w := w) (base := base) T
  refine ⟨f, fd, m, F.okX sc_Reader_need (fun vs H Q E h => ?_) (fun cdv A outer s H vs Q E hr h => ⟨_, pss_one (ps_if (pt_not (pt_val (pe_meth (pv 0) T.c_Reader M_Reader_passes G_Reader_passes (hr.mono (by decide)) B_Reader_passes .nil pass0 (pa_cons (pv 1) pa_nil)))) (pss_one (ps_raiseFlt rfl T.flt hr (takes_of rfl rfl rfl rfl) (pa_cons (pe_globI rfl T.g_CANNOT_STAND) (pa_cons (pe_fld (pv 0) rfl) pa_nil)))) pss_nil), ?_⟩), b⟩
  · obtain ⟨_, r, _, _, _, _, _, _, _, _, rfl, _⟩ := h; rfl
  · obtain ⟨F0, r, p, pl, g, fs, lv, M, z, k, rfl, hz, R, q1, q2⟩ := h
    refine ⟨_, rfl, rd_meth R (by decide +kernel) ⟨_, rfl, F0, r, p, pl, g, fs, lv, M, z, k, rfl, hz, R, fun e H' R' => ⟨_, rfl, ?_⟩, fun e => ⟨_, rfl, ?_⟩⟩⟩
    · exact if_false_of rfl (q2 (pl + 1) (if_pos e) H' R')
    · refine if_true_of rfl ?_
      exact ⟨_, rfl, rd_f_place T R ⟨_, _, rfl, fun d nd => (q1 (1, pl) (if_neg e)).at_ R.stands nd⟩⟩
theorem fm_put1 {k : Str} {pa : V} : putF ("parts" : Str) pa (putF ("kind" : Str) (.str k) []) = [(("kind" : Str), V.str k), (("parts" : Str), pa)] := put_past (by decide +kernel)
theorem fm_put2 {k : Str} {pa tv : V} : putF ("told" : Str) tv [(("kind" : Str), V.str k), (("parts" : Str), pa)] = [(("kind" : Str), V.str k), (("parts" : Str), pa), (("told" : Str), tv)] := (put_past (by decide +kernel)).trans (congrArg _ (put_past (by decide +kernel)))
theorem ok_form (T : Txt K mg c fI) : IOk P w K mg base CX0 1 c.fm ["self", "kind", "parts", "told"] (spFormInit c) := by
  obtain ⟨f, fd, m, F, b⟩ := T.t_Form_init
  refine ⟨f, fd, m, F.ok sc_Form_init (fun vs H Q E h => ?_) (fun cdv A outer s H vs Q E hr h => ⟨_, pss_cons (ps_fld (pv 0) (pv 1) rfl) (pss_cons (ps_fld (pv 0) (pv 2) rfl) (pss_one (ps_fld (pv 0) (pv 3) rfl))), ?_⟩), b⟩
  · obtain ⟨x, dx, k, pa, tv, rfl, _⟩ := h; rfl
  · obtain ⟨x, dx, k, pa, tv, rfl, hx, q⟩ := h
    refine ⟨_, rfl, _, rfl, x, _, dx, _, rfl, hx, T.c_Form, T.n_Form_kind, (by decide), ?_⟩
    refine ⟨_, rfl, _, rfl, x, _, dx, _, rfl, upd_same, T.c_Form, T.n_Form_parts, (by show 1 < 1000; decide), ?_⟩
    refine ⟨_, rfl, _, rfl, x, _, dx, _, rfl, upd_same, T.c_Form, T.n_Form_told, (by rw [fm_put1]; show 2 < 1000; decide), ?_⟩
    refine q _ ?_ fun b o e ne => ?_
    · rw [fm_put1, fm_put2]
      exact upd_same
    · rw [upd_ne ne, upd_ne ne, upd_ne ne]; exact e
theorem ok_keep (T : Txt K mg c fI) : MOk P w K mg base CX0 3 c.rd "keep" ["self", "kind", "parts", "told"] (spKeep K c) := by
  obtain ⟨f, fd, m, F, b⟩ := T.t_Reader_keep
  obtain ⟨_, _, M_Form, G_Form, B_Form⟩ := ok_form (P := P) (w := w) (base := base) T
  refine ⟨f, fd, m, F.ok sc_Reader_keep (fun vs H Q E h => ?_) (fun cdv A outer s H vs Q E hr h => ⟨_, pss_cons (ps_expr (pe_bm PySem.F.plainAttrs_list PySem.F.slot_list_append PySem.F.type_list_append mt_append (pe_fld (pv 0) rfl) (pa_cons (pe_make M_Form G_Form (hr.mono (by decide)) rfl T.g_Form B_Form .nil pass0 (pa_cons (pv 1) (pa_cons (pv 2) (pa_cons (pv 3) pa_nil)))) pa_nil))) (pss_one (ps_ret (pe_op op_sub (pe_callB call_len_seq (by rfl) T.b_len PySem.boot_len (pa_cons (pe_fld (pv 0) rfl) pa_nil)) pe_int))), ?_⟩), b⟩
  · obtain ⟨_, r, _, _, _, _, _, _, _, _, _, _, _, _, rfl, _⟩ := h; rfl
  · obtain ⟨F0, r, p, pl, g, fs, lv, M, kd, pa, js, tv, tl, TM, rfl, tm, hb, R, q⟩ := h
    refine ⟨_, rfl, R.keeping (kd := kd) T tm fun fl xs hl hn k => ⟨.inl ⟨rfl, _, SqL.of hl⟩, _, rfl, _, rfl, _, rfl, fun x dx nx nd ne => ?_⟩⟩
    refine ⟨x, dx, kdS kd, .ref pa, tv, rfl, upd_same, fun H1 h1 keep => ⟨rfl, ?_⟩⟩
    have s1 : Same H H1 := same_made nx nd keep
    obtain ⟨k1, k2⟩ := k H1 x dx s1 nx h1
    refine ⟨fl, xs, .ref x, rfl, rfl, k1, by rw [hn]; exact big_small hb, ?_⟩
    refine ⟨_, rfl, rd_f_forms T k2 fun fl2 fas h2 n2 => ⟨fl2, _, rfl, .inl (SqL.of h2), _, _, rfl, rfl, ?_⟩⟩
    have e : (((fas.map V.ref).length : Nat) : Int) - 1 = (fs.length : Nat) := by
      rw [List.length_map, n2, List.length_append]
      show ((fs.length + 1 : Nat) : Int) - 1 = _
      omega
    show Q (.int (((fas.map V.ref).length : Int) - 1)) _
    rw [e]
    exact q _ k2
end
end RM
/-! Part C5: forms joined; levels made, their parts, rows, themselves ended. -/
namespace RM
open PySem PySem.Spec PyProof.Rows L2 PF
def Sz (n : Nat) : Prop := n < 100000
theorem Sz.lt {n : Nat} (h : Sz n) : n < sizeLine := big_small h
def spJoined (K : PySem.W.Frag) (c : Cs) : Sp := fun vs H Q _ => ∃ F r p pl g fs lv M kd pa js, vs = [.ref r, .str (kdS kd), .ref pa] ∧ Sz fs.length ∧ RS K c F H r p pl g fs lv ((pa, .lst (nls js)) :: M) ∧
  ∀ H', RS K c F H' r p pl g (keepJoined kd fs js).1 lv M → Q (.int (keepJoined kd fs js).2) H'
def spEndPart (K : PySem.W.Frag) (c : Cs) : Sp := fun vs H Q _ => ∃ F r p pl g fs lv M x L, vs = [.ref r, .ref x.a] ∧ Sz fs.length ∧ Sz L.parts.length ∧ RS K c F H r p pl g fs lv (lvM c.lv x L ++ M) ∧
  ∀ H' x', x'.a = x.a → RS K c F H' r p pl g (endPartL g fs L).1 lv (lvM c.lv x' (endPartL g fs L).2 ++ M) → Q .non H'
def spEndRow (K : PySem.W.Frag) (c : Cs) : Sp := fun vs H Q _ => ∃ F r p pl g fs lv M x L, vs = [.ref r, .ref x.a] ∧ Sz (fs.length + 1) ∧ Sz L.parts.length ∧ Sz L.rows.length ∧ RS K c F H r p pl g fs lv (lvM c.lv x L ++ M) ∧
  ∀ H' x', x'.a = x.a → RS K c F H' r p pl g (endRowL g fs L).1 lv (lvM c.lv x' (endRowL g fs L).2 ++ M) → Q .non H'
/-- the level's own lists are given up, but the level itself may be read on -/
def spEndLevel (K : PySem.W.Frag) (c : Cs) : Sp := fun vs H Q _ => ∃ F r p pl g fs lv M x L, vs = [.ref r, .ref x.a] ∧ Sz (fs.length + 2) ∧ Sz L.parts.length ∧ Sz L.rows.length ∧ RS K c F H r p pl g fs lv (lvM c.lv x L ++ M) ∧
  ∀ H' x' L', x'.a = x.a → L'.group = L.group → RS K c F H' r p pl g (endLevelL g fs L).1 lv ((x.a, lvO c.lv x' L') :: M) → Q (.int (endLevelL g fs L).2.2) H'
def spLevelInit (c : Cs) : Sp := fun vs H Q _ => ∃ (G : Hp) (M : Mem) (x dx : Addr) (sh : Bool) (g : Nat) (k : Option Nat), vs = [.ref x, .bl sh, .int g, optI k] ∧ Own G H ((x, .ins c.lv dx []) :: M) ∧
  ∀ H' (y : LvA), y.a = x → Own G H' (lvM c.lv y (Lv.new sh g k) ++ M) → Q .non H'
def spBars (c : Cs) : Sp := fun vs H Q _ => ∃ (x : LvA) (L : Lv), vs = [.ref x.a] ∧ H x.a = some (lvO c.lv x L) ∧ H x.q = some (.lst (nls L.parts)) ∧ Q (.bl L.bars) H
/-- an attribute of an object that stands in the heap -/
theorem obj_f {K : PySem.W.Frag} {H : Hp} {a C dx : Addr} {fs : List (Str × V)} {f : Str} {v : V} {Q : V → Prop} (h : H a = some (.ins C dx fs)) (cl : Cls K C) (n : NoAttr K C f) (l : fs.lookup f = some v) (q : Q v) :
    ∃ a' C dx fs v, V.ref a = .ref a' ∧ H a' = some (.ins C dx fs) ∧ Cls K C ∧ NoAttr K C f ∧ fs.lookup f = some v ∧ Q v := ⟨_, _, _, _, _, rfl, h, cl, n, l, q⟩
theorem obj_m {H : Hp} {a C dx : Addr} {fs : List (Str × V)} {m : Str} {X : Prop} (h : H a = some (.ins C dx fs)) (l : fs.lookup m = none) (q : X) : ∃ a' dx fs, V.ref a = .ref a' ∧ H a' = some (.ins C dx fs) ∧ fs.lookup m = none ∧ X := ⟨_, _, _, rfl, h, l, q⟩
section
variable {P : Program} {w : World} {K : PySem.W.Frag} {mg : Str → Option Value} {base : Heap} {c : Cs} {fI : Addr}
theorem ok_joined (T : Txt K mg c fI) : MOk P w K mg base CX0 4 c.rd "keep_joined" ["self", "kind", "parts"] (spJoined K c) := by
  obtain ⟨f, fd, m, F, b⟩ := T.t_Reader_keep_joined
  obtain ⟨_, _, M_Reader_keep, G_Reader_keep, B_Reader_keep⟩ := ok_keep (P := P) (w := w) (base := base) T
  refine ⟨f, fd, m, F.ok sc_Reader_keep_joined (fun vs H Q E h => ?_) (fun cdv A outer s H vs Q E hr h => ⟨_, pss_cons (ps_if (pt_cmpR op_eq (pe_callB call_len_seq (by rfl) T.b_len PySem.boot_len (pa_cons (pv 2) pa_nil)) pe_int (nomark _)) (pss_one (ps_ret (pe_ix ix_list (pv 2) pe_int (fun _ _ => rfl)))) pss_nil) (pss_one (ps_ret (pe_meth (pv 0) T.c_Reader M_Reader_keep G_Reader_keep (hr.mono (by decide)) B_Reader_keep .nil pass0 (pa_cons (pv 1) (pa_cons (pv 2) (pa_cons pe_non pa_nil)))))), ?_⟩), b⟩
  · obtain ⟨_, r, _, _, _, _, _, _, _, _, _, rfl, _⟩ := h; rfl
  · obtain ⟨F0, r, p, pl, g, fs, lv, M, kd, pa, js, rfl, hb, R, q⟩ := h
    have hpa := R.get 0 rfl
    have el : (nls js).length = js.length := by unfold nls; rw [List.length_map]
    refine ⟨_, rfl, _, _, rfl, .inl (SqL.of hpa), rfl, _, rfl, ?_⟩
    by_cases c1 : js.length = 1
    · refine if_true_of (decide_eq_true (by rw [el, c1]; rfl)) ?_
      match js, c1 with
      | [j], _ => exact ⟨_, rfl, _, _, _, _, rfl, rfl, SqL.of hpa, atI_nat (j := 0) rfl, q H R.drop⟩
    · refine if_false_of (decide_eq_false fun e => c1 ?_) ?_
      · have := V.int.inj e
        rw [el] at this; omega
      · have ek : keepJoined kd fs js = (fs ++ [⟨kd, js, .non⟩], fs.length) := by
          match js, c1 with
          | [], _ => rfl
          | [j], h => exact absurd rfl h
          | j :: j2 :: l, _ => rfl
        rw [ek] at q
        exact ⟨_, rfl, rd_meth R (by decide +kernel) ⟨_, rfl, _, rfl, F0, r, p, pl, g, fs, lv, M, kd, pa, js, .non, .non, [], rfl, ⟨rfl, rfl⟩, hb, R, q⟩⟩
theorem nls_app (l : List Nat) (n : Nat) : nls l ++ [V.int n] = nls (l ++ [n]) := by
  unfold nls; rw [List.map_append]; rfl
theorem nls_len (l : List Nat) : (nls l).length = l.length := by unfold nls; rw [List.length_map]
theorem ok_endPart (T : Txt K mg c fI) : MOk P w K mg base CX0 5 c.rd "end_part" ["self", "level"] (spEndPart K c) := by
  obtain ⟨f, fd, m, F, b⟩ := T.t_Reader_end_part
  obtain ⟨_, _, M_Reader_keep_joined, G_Reader_keep_joined, B_Reader_keep_joined⟩ := ok_joined (P := P) (w := w) (base := base) T
  refine ⟨f, fd, m, F.ok sc_Reader_end_part (fun vs H Q E h => ?_) (fun cdv A outer s H vs Q E hr h => ⟨_, pss_cons (ps_expr (pe_bm PySem.F.plainAttrs_list PySem.F.slot_list_append PySem.F.type_list_append mt_append (pe_fld (pv 1) rfl) (pa_cons (pe_meth (pv 0) T.c_Reader M_Reader_keep_joined G_Reader_keep_joined (hr.mono (by decide)) B_Reader_keep_joined .nil pass0 (pa_cons (pe_globS rfl T.g_ROW) (pa_cons (pe_fld (pv 1) rfl) pa_nil))) pa_nil))) (pss_cons (ps_fld (pv 1) (pe_lst pa_nil) rfl) (pss_one (ps_fld (pv 1) (pe_fld (pv 0) rfl) rfl))), ?_⟩), b⟩
  · obtain ⟨_, r, _, _, _, _, _, _, _, _, rfl, _⟩ := h; rfl
  · obtain ⟨F0, r, p, pl, g, fs, lv, M, x, L, rfl, hb, hb2, R, q⟩ := h
    -- level.parts.append(self.keep_joined(ROW, level.pieces))
    refine ⟨_, rfl, obj_f (R.get 0 rfl) T.c_Level T.n_Level_parts lv_parts ⟨.inl ⟨rfl, _, SqL.of (R.get 2 rfl)⟩, _, rfl, rd_meth R (by decide +kernel) ⟨_, rfl, obj_f (R.get 0 rfl) T.c_Level T.n_Level_pieces lv_pieces ?_⟩⟩⟩
    have R1 : RS K c F0 H r p pl g fs lv ((x.c, .lst (nls L.pieces)) :: ([(x.a, lvO c.lv x L), (x.r, .lst (nls L.rows)), (x.q, .lst (nls L.parts))] ++ M)) := R.perm (List.perm_middle (l₁ := [(x.a, lvO c.lv x L), (x.r, .lst (nls L.rows)), (x.q, .lst (nls L.parts))]))
    refine ⟨F0, r, p, pl, g, fs, lv, _, .row, x.c, L.pieces, rfl, hb, R1, fun H1 R2 => ?_⟩
    refine ⟨x.q, _, _, rfl, rfl, R2.get 2 rfl, by rw [nls_len]; exact hb2.lt, ?_⟩
    have R3 := R2.put 2 (.lst (nls (L.parts ++ [(keepJoined .row fs L.pieces).2]))) rfl
    rw [← nls_app] at R3
    -- level.pieces = []
    refine ⟨Nat.zero_le _, fun t nt => ?_⟩
    have R4 := R3.add nt (.lst [])
    refine ⟨_, rfl, x.a, _, x.dx, _, rfl, R4.get 1 rfl, T.c_Level, T.n_Level_pieces, (by show 7 < 1000; decide), ?_⟩
    rw [lv_put_pieces t]
    have R5 := R4.put 1 (lvO c.lv { x with c := t } L) rfl
    -- level.groups_before_part = self.groups
    refine ⟨_, rfl, rd_f_groups T R5 ⟨_, rfl, x.a, _, x.dx, _, rfl, R5.get 1 rfl, T.c_Level, T.n_Level_groups_before_part, (by show 7 < 1000; decide), ?_⟩⟩
    have e : putF ("groups_before_part" : Str) (.int g) (lvFs { x with c := t } L) = lvFs { x with c := t } { L with gbp := g } := lv_put_groups_before_part g
    have R6 := R5.put 1 (lvO c.lv { x with c := t } { L with gbp := g }) rfl
    refine q _ { x with c := t } rfl ?_
    have R7 := R6.perm (M' := lvM c.lv { x with c := t } (endPartL g fs L).2 ++ M) ?_
    · have ee : HO.ins c.lv x.dx (putF ("groups_before_part" : Str) (.int g) (lvFs { x with c := t } L)) = lvO c.lv { x with c := t } { L with gbp := g } := by rw [e]; rfl
      show RS K c F0 (upd _ x.a (HO.ins c.lv x.dx (putF ("groups_before_part" : Str) (.int g) (lvFs { x with c := t } L)))) r p pl g _ lv _
      rw [ee]
      exact R7
    · show List.Perm ((t, HO.lst []) :: (x.a, lvO c.lv { x with c := t } { L with gbp := g }) :: (x.r, .lst (nls L.rows)) :: (x.q, .lst (nls L.parts ++ [V.int (keepJoined .row fs L.pieces).2])) :: M) _
      rw [nls_app]
      exact (List.perm_middle (l₁ := [(x.a, lvO c.lv { x with c := t } { L with gbp := g }), (x.r, HO.lst (nls L.rows)), (x.q, .lst (nls (L.parts ++ [(keepJoined .row fs L.pieces).2])))]) (l₂ := M) (a := (t, HO.lst []))).symm
end
end RM
/-! Part C6: rows and levels ended, levels made. -/
namespace RM
open PySem PySem.Spec PyProof.Rows L2 PF
theorem endPartL_parts {g : Nat} {fs : List Fm} {L : Lv} : (endPartL g fs L).2.parts.length = L.parts.length + 1 := by
  show (L.parts ++ _).length = _
  rw [List.length_append]; rfl
theorem keepJoined_len {kd : Kd} {fs : List Fm} : ∀ {js : List Nat}, (keepJoined kd fs js).1.length ≤ fs.length + 1
  | [] => by show (fs ++ _).length ≤ _; rw [List.length_append]; exact Nat.le_refl _
  | [_] => Nat.le_succ _
  | _ :: _ :: _ => by show (fs ++ _).length ≤ _; rw [List.length_append]; exact Nat.le_refl _
theorem putF_new {f : Str} {v : V} : ∀ {fs : List (Str × V)}, (fs.map (·.1)).contains f = false → putF f v fs = fs ++ [(f, v)]
  | [], _ => rfl
  | (g, x) :: fs, h => by
    rw [List.map_cons, List.contains_cons, Bool.or_eq_false_iff] at h
    have ne : ¬ g = f := fun z => by
      have := h.1
      rw [z, beq_self_eq_true] at this
      cases this
    rw [put_past ne, putF_new h.2]
    rfl
section
variable {P : Program} {w : World} {K : PySem.W.Frag} {mg : Str → Option Value} {base : Heap} {c : Cs} {fI : Addr}
theorem ok_endRow (T : Txt K mg c fI) : MOk P w K mg base CX0 6 c.rd "end_row" ["self", "level"] (spEndRow K c) := by
  obtain ⟨f, fd, m, F, b⟩ := T.t_Reader_end_row
  obtain ⟨_, _, M_Reader_keep_joined, G_Reader_keep_joined, B_Reader_keep_joined⟩ := ok_joined (P := P) (w := w) (base := base) T
  obtain ⟨_, _, M_Reader_end_part, G_Reader_end_part, B_Reader_end_part⟩ := ok_endPart (P := P) (w := w) (base := base) T
  refine ⟨f, fd, m, F.ok sc_Reader_end_row (fun vs H Q E h => ?_) (fun cdv A outer s H vs Q E hr h => ⟨_, pss_cons (ps_expr (pe_meth (pv 0) T.c_Reader M_Reader_end_part G_Reader_end_part (hr.mono (by decide)) B_Reader_end_part .nil pass0 (pa_cons (pv 1) pa_nil))) (pss_cons (ps_expr (pe_bm PySem.F.plainAttrs_list PySem.F.slot_list_append PySem.F.type_list_append mt_append (pe_fld (pv 1) rfl) (pa_cons (pe_meth (pv 0) T.c_Reader M_Reader_keep_joined G_Reader_keep_joined (hr.mono (by decide)) B_Reader_keep_joined .nil pass0 (pa_cons (pe_globS rfl T.g_BOTH) (pa_cons (pe_fld (pv 1) rfl) pa_nil))) pa_nil))) (pss_one (ps_fld (pv 1) (pe_lst pa_nil) rfl))), ?_⟩), b⟩
  · obtain ⟨_, r, _, _, _, _, _, _, _, _, rfl, _⟩ := h; rfl
  · obtain ⟨F0, r, p, pl, g, fs, lv, M, x, L, rfl, hb, hb2, hb3, R, q⟩ := h
    have hfs : Sz fs.length := Nat.lt_of_le_of_lt (Nat.le_succ _) hb
    refine ⟨_, rfl, rd_meth R (by decide +kernel) ⟨_, rfl, F0, r, p, pl, g, fs, lv, M, x, L, rfl, hfs, hb2, R, fun H1 y hy R1 => ?_⟩⟩
    rw [← hy]
    have hlen : (endPartL g fs L).1.length ≤ fs.length + 1 := keepJoined_len
    -- level.rows.append(self.keep_joined(BOTH, level.parts))
    refine ⟨_, rfl, obj_f (R1.get 0 rfl) T.c_Level T.n_Level_rows lv_rows ⟨.inl ⟨rfl, _, SqL.of (R1.get 1 rfl)⟩, _, rfl, rd_meth R1 (by decide +kernel) ⟨_, rfl, obj_f (R1.get 0 rfl) T.c_Level T.n_Level_parts lv_parts ?_⟩⟩⟩
    have R2 : RS K c F0 H1 r p pl g (endPartL g fs L).1 lv ((y.q, .lst (nls (endPartL g fs L).2.parts)) :: ([(y.a, lvO c.lv y (endPartL g fs L).2), (y.r, .lst (nls L.rows)), (y.c, .lst (nls []))] ++ M)) :=
      R1.perm (List.perm_middle (l₁ := [(y.a, lvO c.lv y (endPartL g fs L).2), (y.r, .lst (nls L.rows))]))
    refine ⟨F0, r, p, pl, g, _, lv, _, .both, y.q, _, rfl, Nat.lt_of_le_of_lt hlen hb, R2, fun H2 R3 => ?_⟩
    refine ⟨y.r, _, _, rfl, rfl, R3.get 1 rfl, by rw [nls_len]; exact hb3.lt, ?_⟩
    have R4 := R3.put 1 (.lst (nls (L.rows ++ [(keepJoined .both (endPartL g fs L).1 (endPartL g fs L).2.parts).2]))) rfl
    rw [← nls_app] at R4
    -- level.parts = []
    refine ⟨Nat.zero_le _, fun t nt => ?_⟩
    have R5 := R4.add nt (.lst [])
    refine ⟨_, rfl, y.a, _, y.dx, _, rfl, R5.get 1 rfl, T.c_Level, T.n_Level_parts, (by show 7 < 1000; decide), ?_⟩
    rw [lv_put_parts t]
    have R6 := R5.put 1 (lvO c.lv { y with q := t } (endPartL g fs L).2) rfl
    refine q _ { y with q := t } hy (R6.perm ?_)
    show List.Perm ((t, HO.lst []) :: (y.a, lvO c.lv { y with q := t } (endRowL g fs L).2) :: (y.r, .lst (nls L.rows ++ [V.int (keepJoined .both (endPartL g fs L).1 (endPartL g fs L).2.parts).2])) :: (y.c, .lst (nls [])) :: M) _
    rw [nls_app]
    exact (List.perm_middle (l₁ := [(y.a, lvO c.lv { y with q := t } (endRowL g fs L).2), (y.r, HO.lst (nls (L.rows ++ [(keepJoined .both (endPartL g fs L).1 (endPartL g fs L).2.parts).2])))]) (l₂ := (y.c, HO.lst (nls [])) :: M) (a := (t, HO.lst []))).symm
theorem endRowL_len {g : Nat} {fs : List Fm} {L : Lv} : (endRowL g fs L).1.length ≤ fs.length + 2 := by
  have h1 : (endPartL g fs L).1.length ≤ fs.length + 1 := keepJoined_len
  have h2 : (endRowL g fs L).1.length ≤ (endPartL g fs L).1.length + 1 := keepJoined_len
  omega
theorem ok_endLevel (T : Txt K mg c fI) : MOk P w K mg base CX0 7 c.rd "end_level" ["self", "level"] (spEndLevel K c) := by
  obtain ⟨f, fd, m, F, b⟩ := T.t_Reader_end_level
  obtain ⟨_, _, M_Reader_keep_joined, G_Reader_keep_joined, B_Reader_keep_joined⟩ := ok_joined (P := P) (w := w) (base := base) T
  obtain ⟨_, _, M_Reader_end_row, G_Reader_end_row, B_Reader_end_row⟩ := ok_endRow (P := P) (w := w) (base := base) T
  refine ⟨f, fd, m, F.ok sc_Reader_end_level (fun vs H Q E h => ?_) (fun cdv A outer s H vs Q E hr h => ⟨_, pss_cons (ps_expr (pe_meth (pv 0) T.c_Reader M_Reader_end_row G_Reader_end_row (hr.mono (by decide)) B_Reader_end_row .nil pass0 (pa_cons (pv 1) pa_nil))) (pss_one (ps_ret (pe_meth (pv 0) T.c_Reader M_Reader_keep_joined G_Reader_keep_joined (hr.mono (by decide)) B_Reader_keep_joined .nil pass0 (pa_cons (pe_globS rfl T.g_EITHER) (pa_cons (pe_fld (pv 1) rfl) pa_nil))))), ?_⟩), b⟩
  · obtain ⟨_, r, _, _, _, _, _, _, _, _, rfl, _⟩ := h; rfl
  · obtain ⟨F0, r, p, pl, g, fs, lv, M, x, L, rfl, hb, hb2, hb3, R, q⟩ := h
    have hfs : Sz (fs.length + 1) := Nat.lt_of_le_of_lt (Nat.le_succ _) hb
    refine ⟨_, rfl, rd_meth R (by decide +kernel) ⟨_, rfl, F0, r, p, pl, g, fs, lv, M, x, L, rfl, hfs, hb2, hb3, R, fun H1 y hy R1 => ?_⟩⟩
    rw [← hy]
    refine ⟨_, rfl, rd_meth R1 (by decide +kernel) ⟨_, rfl, obj_f (R1.get 0 rfl) T.c_Level T.n_Level_rows lv_rows ?_⟩⟩
    have R2 : RS K c F0 H1 r p pl g (endRowL g fs L).1 lv ((y.r, .lst (nls (endRowL g fs L).2.rows)) :: ([(y.a, lvO c.lv y (endRowL g fs L).2), (y.q, .lst (nls (endRowL g fs L).2.parts)), (y.c, .lst (nls (endRowL g fs L).2.pieces))] ++ M)) :=
      R1.perm (List.perm_middle (l₁ := [(y.a, lvO c.lv y (endRowL g fs L).2)]))
    refine ⟨F0, r, p, pl, g, _, lv, _, .either, y.r, _, rfl, Nat.lt_of_le_of_lt endRowL_len hb, R2, fun H2 R3 => ?_⟩
    have R4 : RS K c F0 H2 r p pl g (endLevelL g fs L).1 lv ((y.a, lvO c.lv y (endRowL g fs L).2) :: M) := by
      have z := R3.perm (M' := (y.q, .lst (nls (endRowL g fs L).2.parts)) :: (y.c, .lst (nls (endRowL g fs L).2.pieces)) :: (y.a, lvO c.lv y (endRowL g fs L).2) :: M) ((List.Perm.swap _ _ _).trans ((List.Perm.swap _ _ _).cons _))
      exact z.drop.drop
    exact q H2 y (endRowL g fs L).2 hy rfl (by rw [hy] at R4; exact R4)
theorem ok_bars (T : Txt K mg c fI) : MOk P w K mg base CX0 1 c.lv "bars_groups" ["self"] (spBars c) := by
  obtain ⟨f, fd, m, F, b⟩ := T.t_Level_bars_groups
  refine ⟨f, fd, m, F.ok sc_Level_bars_groups (fun vs H Q E h => ?_) (fun cdv A outer s H vs Q E hr h => ⟨_, pss_one (ps_ret (pe_or (pe_fld (pv 0) rfl) (pe_or (pe_fld (pv 0) rfl) (pe_one (pe_cmpR op_gt (pe_callB call_len_seq (by rfl) T.b_len PySem.boot_len (pa_cons (pe_fld (pv 0) rfl) pa_nil)) pe_int (nomark _)))))), ?_⟩), b⟩
  · obtain ⟨x, L, rfl, _⟩ := h; rfl
  · obtain ⟨x, L, rfl, h1, h2, q⟩ := h
    unfold Lv.bars at q
    refine ⟨_, rfl, obj_f h1 T.c_Level T.n_Level_shut lv_shut ⟨_, rfl, ?_⟩⟩
    cases e1 : L.shut with
    | true => rw [e1] at q; exact if_true_of rfl q
    | false =>
      rw [e1] at q
      refine if_false_of rfl ⟨_, rfl, obj_f h1 T.c_Level T.n_Level_turned lv_turned ⟨_, rfl, ?_⟩⟩
      cases e2 : L.turned with
      | true => rw [e2] at q; exact if_true_of rfl q
      | false =>
        rw [e2] at q
        refine if_false_of rfl ⟨_, rfl, obj_f h1 T.c_Level T.n_Level_parts lv_parts ⟨_, _, rfl, .inl (SqL.of h2), _, _, rfl, rfl, ?_⟩⟩
        have e : decide ((0 : Int) < ((nls L.parts).length : Nat)) = (false || (false || decide (0 < L.parts.length))) := by
          rw [nls_len, Bool.false_or, Bool.false_or]
          by_cases h : 0 < L.parts.length
          · rw [decide_eq_true h, decide_eq_true (by omega)]
          · rw [decide_eq_false h, decide_eq_false (by omega)]
        show Q (.bl (decide ((0 : Int) < ((nls L.parts).length : Nat)))) H
        rw [e]
        exact q
theorem ok_level (T : Txt K mg c fI) : IOk P w K mg base CX0 1 c.lv ["self", "shut", "groups", "group"] (spLevelInit c) := by
  obtain ⟨f, fd, m, F, b⟩ := T.t_Level_init
  refine ⟨f, fd, m, F.ok sc_Level_init (fun vs H Q E h => ?_) (fun cdv A outer s H vs Q E hr h => ⟨_, pss_cons (ps_fld (pv 0) (pe_lst pa_nil) rfl) (pss_cons (ps_fld (pv 0) (pe_lst pa_nil) rfl) (pss_cons (ps_fld (pv 0) (pe_lst pa_nil) rfl) (pss_cons (ps_fld (pv 0) pe_bl rfl) (pss_cons (ps_fld (pv 0) (pv 1) rfl) (pss_cons (ps_fld (pv 0) (pv 2) rfl) (pss_one (ps_fld (pv 0) (pv 3) rfl))))))), ?_⟩), b⟩
  · obtain ⟨_, _, x, dx, sh, g, k, rfl, _⟩ := h; rfl
  · obtain ⟨G, M, x, dx, sh, g, k, rfl, o, q⟩ := h
    -- self.rows = []
    refine ⟨Nat.zero_le _, fun t1 n1 => ?_⟩
    have o1 := o.add n1 (.lst [])
    refine ⟨_, rfl, x, _, dx, _, rfl, o1.get 1 rfl, T.c_Level, T.n_Level_rows, (by decide), ?_⟩
    rw [putF_new (by decide +kernel)]
    have o2 := o1.put 1 (.ins c.lv dx [("rows", .ref t1)]) rfl
    -- self.parts = []
    refine ⟨Nat.zero_le _, fun t2 n2 => ?_⟩
    have o3 := o2.add n2 (.lst [])
    refine ⟨_, rfl, x, _, dx, _, rfl, o3.get 2 rfl, T.c_Level, T.n_Level_parts, (by show 1 < 1000; decide), ?_⟩
    rw [putF_new (by show (["rows"] : List Str).contains "parts" = false; decide +kernel)]
    have o4 := o3.put 2 (.ins c.lv dx [("rows", .ref t1), ("parts", .ref t2)]) rfl
    -- self.pieces = []
    refine ⟨Nat.zero_le _, fun t3 n3 => ?_⟩
    have o5 := o4.add n3 (.lst [])
    refine ⟨_, rfl, x, _, dx, _, rfl, o5.get 3 rfl, T.c_Level, T.n_Level_pieces, (by show 2 < 1000; decide), ?_⟩
    rw [putF_new (by show (["rows", "parts"] : List Str).contains "pieces" = false; decide +kernel)]
    have o6 := o5.put 3 (.ins c.lv dx [("rows", .ref t1), ("parts", .ref t2), ("pieces", .ref t3)]) rfl
    -- self.turned = False
    refine ⟨_, rfl, x, _, dx, _, rfl, o6.get 3 rfl, T.c_Level, T.n_Level_turned, (by show 3 < 1000; decide), ?_⟩
    rw [putF_new (by show (["rows", "parts", "pieces"] : List Str).contains "turned" = false; decide +kernel)]
    have o7 := o6.put 3 (.ins c.lv dx [("rows", .ref t1), ("parts", .ref t2), ("pieces", .ref t3), ("turned", .bl false)]) rfl
    -- self.shut = shut
    refine ⟨_, rfl, _, rfl, x, _, dx, _, rfl, o7.get 3 rfl, T.c_Level, T.n_Level_shut, (by show 4 < 1000; decide), ?_⟩
    rw [putF_new (by show (["rows", "parts", "pieces", "turned"] : List Str).contains "shut" = false; decide +kernel)]
    have o8 := o7.put 3 (.ins c.lv dx [("rows", .ref t1), ("parts", .ref t2), ("pieces", .ref t3), ("turned", .bl false), ("shut", .bl sh)]) rfl
    -- self.groups_before_part = groups
    refine ⟨_, rfl, _, rfl, x, _, dx, _, rfl, o8.get 3 rfl, T.c_Level, T.n_Level_groups_before_part, (by show 5 < 1000; decide), ?_⟩
    rw [putF_new (by show (["rows", "parts", "pieces", "turned", "shut"] : List Str).contains "groups_before_part" = false; decide +kernel)]
    have o9 := o8.put 3 (.ins c.lv dx [("rows", .ref t1), ("parts", .ref t2), ("pieces", .ref t3), ("turned", .bl false), ("shut", .bl sh), ("groups_before_part", .int g)]) rfl
    -- self.group = group
    refine ⟨_, rfl, _, rfl, x, _, dx, _, rfl, o9.get 3 rfl, T.c_Level, T.n_Level_group, (by show 6 < 1000; decide), ?_⟩
    rw [putF_new (by show (["rows", "parts", "pieces", "turned", "shut", "groups_before_part"] : List Str).contains "group" = false; decide +kernel)]
    have oa := o9.put 3 (lvO c.lv ⟨x, dx, t1, t2, t3⟩ (Lv.new sh g k)) rfl
    refine q _ ⟨x, dx, t1, t2, t3⟩ rfl (oa.perm ?_)
    refine ((List.reverse_perm [(x, lvO c.lv ⟨x, dx, t1, t2, t3⟩ (Lv.new sh g k)), (t1, HO.lst []), (t2, .lst []), (t3, .lst [])]).append_right M)
end
end RM
/-! Part C7: bytes read: plain ones, those behind a backslash, those of sets. -/
namespace RM
open PySem PySem.Spec PyProof.Rows L2 PF
/-- a reader that gives a number -/
def spVal (K : PySem.W.Frag) (c : Cs) (mir : List Nat → Nat → Except Flt (Nat × Nat)) : Sp := fun vs H Q E => ∃ F r p pl g fs lv M, vs = [.ref r] ∧ RS K c F H r p pl g fs lv M ∧
  (∀ e, mir p pl = .error e → FltE c F E e) ∧ (∀ v j, mir p pl = .ok (v, j) → ∀ H', RS K c F H' r p j g fs lv M → Q (.int v) H')
def spPlain (K : PySem.W.Frag) (c : Cs) : Sp := fun vs H Q E => ∃ F r p pl g fs lv M z, vs = [.ref r, .str z] ∧ z.cps.size ≤ 100 ∧ RS K c F H r p pl g fs lv M ∧
  (∀ e, readPlain (codes z) p pl = .error e → FltE c F E e) ∧ (∀ v j, readPlain (codes z) p pl = .ok (v, j) → ∀ H', RS K c F H' r p j g fs lv M → Q (.int v) H')
section
variable {P : Program} {w : World} {K : PySem.W.Frag} {mg : Str → Option Value} {base : Heap} {c : Cs} {fI : Addr}
theorem ok_plain (T : Txt K mg c fI) : MOk P w K mg base (L2.CX P w) 3 c.rd "read_plain" ["self", "barred"] (spPlain K c) := by
  obtain ⟨f, fd, m, F, b⟩ := T.t_Reader_read_plain
  obtain ⟨_, _, M_Reader_now, G_Reader_now, B_Reader_now⟩ := ok_now (P := P) (w := w) (base := base) T
  obtain ⟨_, _, g_is_printed, k_is_printed, G_is_printed, B_is_printed⟩ := ok_printed (P := P) (w := w) (base := base) T
  obtain ⟨_, _, g_among, k_among, G_among, B_among⟩ := ok_among (P := P) (w := w) (base := base) T
  refine ⟨f, fd, m, F.okX sc_Reader_read_plain (fun vs H Q E h => ?_) (fun cdv A outer s H vs Q E hr h => ⟨_, pss_cons (ps_set (i := 2) sc_Reader_read_plain.nd rfl (Or.inl rfl) (pe_meth0 (pv 0) T.c_Reader M_Reader_now G_Reader_now (hr.mono (by decide)) B_Reader_now .nil pass0)) (pss_cons (ps_if (PW.pt (pw_or (pt_not (pt_val (pe_call G_is_printed (hr.mono (by decide)) rfl g_is_printed k_is_printed B_is_printed .nil pass0 (pa_cons (pv 2) pa_nil)))) (pw_or1 (pt_val (pe_call G_among (hr.mono (by decide)) rfl g_among k_among B_among .nil pass0 (pa_cons (pv 2) (pa_cons (pv 1) pa_nil))))))) (pss_one (ps_raiseFlt rfl T.flt hr (takes_of rfl rfl rfl rfl) (pa_cons (pe_globI rfl T.g_CANNOT_STAND) (pa_cons (pe_fld (pv 0) rfl) pa_nil)))) pss_nil) (pss_cons (ps_fldaug (pv 0) pe_int in_add) (pss_one (ps_ret (pv 2))))), ?_⟩), b⟩
  · obtain ⟨_, r, _, _, _, _, _, _, _, rfl, _⟩ := h; rfl
  · obtain ⟨F0, r, p, pl, g, fs, lv, M, z, rfl, hz, R, q1, q2⟩ := h
    refine ⟨_, rfl, rd_meth R (by decide +kernel) ⟨F0, r, p, pl, g, fs, lv, M, rfl, R, ?_⟩⟩
    refine ⟨_, rfl, _, rfl, _, rfl, ?_⟩
    have bad : ¬ (printed (now p pl) = true ∧ (codes z).contains (now p pl) = false) → ∀ H1, RS K c F0 H1 r p pl g fs lv M → ∀ d, H1 d = none → E (.ref c.fl) (some d) (upd H1 d (.xd (flt (.int (1 : Nat)) (.int pl)))) := fun h H1 R1 d nd =>
      (q1 (1, pl) (if_neg h)).at_ R1.stands nd
    cases e1 : printed (now p pl) with
    | false =>
      refine if_true_of rfl (if_true_of rfl ?_)
      exact ⟨_, rfl, rd_f_place T R ⟨_, _, rfl, fun d nd => bad (fun z => by rw [e1] at z; cases z.1) H R d nd⟩⟩
    | true =>
      refine if_false_of rfl ⟨_, rfl, _, rfl, _, z, rfl, hz, fun H1 s1 => ⟨_, rfl, ?_⟩⟩
      have R1 := R.same s1
      cases e2 : (codes z).contains (now p pl) with
      | true =>
        refine if_true_of rfl ?_
        exact ⟨_, rfl, rd_f_place T R1 ⟨_, _, rfl, fun d nd => bad (fun z => by rw [e2] at z; cases z.2) H1 R1 d nd⟩⟩
      | false =>
        refine if_false_of rfl ?_
        refine rd_inc T R1 (by rfl) fun H2 R2 => ?_
        exact ⟨_, rfl, q2 _ _ (if_pos ⟨e1, e2⟩) H2 R2⟩
theorem hex_test {z : Str} {k : Nat} (h : one z k) : z.length = 1 ∧ (z.cps.getD 0 0) = k := h
theorem ok_hex (T : Txt K mg c fI) : MOk P w K mg base (L2.CX P w) 3 c.rd "read_hex" ["self"] (spVal K c readHex) := by
  obtain ⟨f, fd, m, F, b⟩ := T.t_Reader_read_hex
  obtain ⟨_, _, M_Reader_now, G_Reader_now, B_Reader_now⟩ := ok_now (P := P) (w := w) (base := base) T
  refine ⟨f, fd, m, F.okX sc_Reader_read_hex (fun vs H Q E h => ?_) (fun cdv A outer s H vs Q E hr h => ⟨_, pss_cons (ps_set (i := 1) sc_Reader_read_hex.nd rfl (Or.inl rfl) (pe_meth0 (pv 0) T.c_Reader M_Reader_now G_Reader_now (hr.mono (by decide)) B_Reader_now .nil pass0)) (pss_cons (ps_for (passes_of rfl) rfl (pi_tup (pe_tup (pa_cons (pe_tup (pa_cons pe_str (pa_cons pe_str (pa_cons pe_int pa_nil)))) (pa_cons (pe_tup (pa_cons pe_str (pa_cons pe_str (pa_cons pe_int pa_nil)))) (pa_cons (pe_tup (pa_cons pe_str (pa_cons pe_str (pa_cons pe_int pa_nil)))) pa_nil))))) (pg_tup (by rfl) (pgs_cons (pg_name (i := 2) sc_Reader_read_hex.nd rfl (Or.inl rfl)) (pgs_cons (pg_name (i := 3) sc_Reader_read_hex.nd rfl (Or.inl rfl)) (pgs_cons (pg_name (i := 4) sc_Reader_read_hex.nd rfl (Or.inl rfl)) pgs_nil)))) (pss_one (ps_if (pt_chain op_le op_le (pe_callB call_ord (by rfl) T.b_ord (by decide +kernel) (pa_cons (pv 2) pa_nil)) (pv 1) (pe_callB call_ord (by rfl) T.b_ord (by decide +kernel) (pa_cons (pv 3) pa_nil))) (pss_cons (ps_fldaug (pv 0) pe_int in_add) (pss_one (ps_ret (pe_op op_sub (pe_op op_add (pv 4) (pv 1)) (pe_callB call_ord (by rfl) T.b_ord (by decide +kernel) (pa_cons (pv 2) pa_nil)))))) pss_nil))) (pss_one (ps_raiseFlt rfl T.flt hr (takes_of rfl rfl rfl rfl) (pa_cons (pe_globI rfl T.g_CANNOT_STAND) (pa_cons (pe_fld (pv 0) rfl) pa_nil))))), ?_⟩), b⟩
  · obtain ⟨_, r, _, _, _, _, _, _, rfl, _⟩ := h; rfl
  · obtain ⟨F0, r, p, pl, g, fs, lv, M, rfl, R, q1, q2⟩ := h
    refine ⟨_, rfl, rd_meth R (by decide +kernel) ⟨F0, r, p, pl, g, fs, lv, M, rfl, R, ?_⟩⟩
    have three : (3 : Nat) ≤ sizeLine := by decide
    refine ⟨three, fun t1 n1 => ⟨three, fun t2 n2 => ⟨three, fun t3 n3 => ⟨three, fun t4 n4 => ?_⟩⟩⟩⟩
    -- the heap of the loop
    generalize hH1 : upd H t1 (.tup [.str "0", .str "9", .int 0]) = H1 at n2 n3 n4 ⊢
    generalize hH2 : upd H1 t2 (.tup [.str "A", .str "F", .int 10]) = H2 at n3 n4 ⊢
    generalize hH3 : upd H2 t3 (.tup [.str "a", .str "f", .int 10]) = H3 at n4 ⊢
    generalize hH4 : upd H3 t4 (.tup [.ref t1, .ref t2, .ref t3]) = H4
    have s1 : Same H H1 := by rw [← hH1]; exact same_upd n1
    have s2 : Same H1 H2 := by rw [← hH2]; exact same_upd n2
    have s3 : Same H2 H3 := by rw [← hH3]; exact same_upd n3
    have s4 : Same H3 H4 := by rw [← hH4]; exact same_upd n4
    have R4 : RS K c F0 H4 r p pl g fs lv M := R.same (s1.trans (s2.trans (s3.trans s4)))
    have e1 : H4 t1 = some (.tup [.str "0", .str "9", .int 0]) := s4 _ _ (s3 _ _ (s2 _ _ (by rw [← hH1]; exact upd_same)))
    have e2 : H4 t2 = some (.tup [.str "A", .str "F", .int 10]) := s4 _ _ (s3 _ _ (by rw [← hH2]; exact upd_same))
    have e3 : H4 t3 = some (.tup [.str "a", .str "f", .int 10]) := s4 _ _ (by rw [← hH3]; exact upd_same)
    have e4 : H4 t4 = some (.tup [.ref t1, .ref t2, .ref t3]) := by rw [← hH4]; exact upd_same
    refine ⟨t4, rfl, ⟨_, SqT.of e4⟩, for_tup (K := K) (a := t4) (xs := [.ref t1, .ref t2, .ref t3])
      (fun i σ H' => H' = H4 ∧ (∃ x y z, σ = [some (.ref r), some (.int (now p pl)), x, y, z]) ∧ (0 < i → ¬ (48 ≤ now p pl ∧ now p pl ≤ 57)) ∧ (1 < i → ¬ (65 ≤ now p pl ∧ now p pl ≤ 70)) ∧ (2 < i → ¬ (97 ≤ now p pl ∧ now p pl ≤ 102)))
      ⟨rfl, ⟨none, none, none, rfl⟩, fun h => absurd h (Nat.lt_irrefl _), fun h => absurd h (by decide), fun h => absurd h (by decide)⟩ (fun i σ H' _ h => by rw [h.1]; exact SqT.of e4) ?_ ?_⟩
    · -- a turn
      have turn : ∀ (t : Addr) (z1 z2 : Str) (v lo hi : Nat) (σ : L2.St) (Pn : L2.St → Hp → Prop) (D : Ends), D.rt = Q → H4 t = some (.tup [.str z1, .str z2, .int v]) → one z1 lo → one z2 hi → (∃ x y z, σ = [some (.ref r), some (.int (now p pl)), x, y, z]) →
          (lo ≤ now p pl ∧ now p pl ≤ hi → hexv (now p pl) = some (v + now p pl - lo)) → (∀ σ', (∃ x y z, σ' = [some (.ref r), some (.int (now p pl)), x, y, z]) → ¬ (lo ≤ now p pl ∧ now p pl ≤ hi) → Pn σ' H4) → D.nx = Pn →
          gTup K 3 (gCons (gName 2) (gCons (gName 3) (gCons (gName 4) gNil))) (.ref t) σ H4 fun σ2 H2 =>
            tIfS (tTest (tChain (rI0 fun i j => .bl (decide (i ≤ j))) (rI0 fun i j => .bl (decide (i ≤ j))) (tCB (fun xs H Q => ∃ x, xs = [V.str x] ∧ x.length = 1 ∧ Q (V.int (x.cps.getD 0 0 : Nat)) H) (tCons (tVar 2) tNil)) (tVar 1) (tCB (fun xs H Q => ∃ x, xs = [V.str x] ∧ x.length = 1 ∧ Q (V.int (x.cps.getD 0 0 : Nat)) H) (tCons (tVar 3) tNil))))
              (tSeq (sFldAug K (tVar 0) (tC (.int 1)) rAdd "place") (tRet (tOp (rI0 fun i j => .int (i - j)) (tOp (rI0 fun i j => .int (i + j)) (tVar 4) (tVar 1)) (tCB (fun xs H Q => ∃ x, xs = [V.str x] ∧ x.length = 1 ∧ Q (V.int (x.cps.getD 0 0 : Nat)) H) (tCons (tVar 2) tNil)))))
              tNext D σ2 H2 := by
        intro t z1 z2 v lo hi σ Pn D hD ht o1 o2 hσ hv hP hn
        obtain ⟨x, y, z, rfl⟩ := hσ
        refine ⟨t, _, rfl, SqT.of ht, rfl, _, _, rfl, _, _, rfl, _, _, rfl, rfl, ?_⟩
        refine ⟨_, rfl, _, rfl, o1.1, _, rfl, _, _, rfl, rfl, _, rfl, ?_⟩
        rw [o1.2]
        by_cases c1 : lo ≤ now p pl
        · refine if_true_of (decide_eq_true (by omega)) ⟨_, rfl, _, rfl, o2.1, _, _, rfl, rfl, _, rfl, ?_⟩
          rw [o2.2]
          by_cases c2 : now p pl ≤ hi
          · refine if_true_of (decide_eq_true (by omega)) ?_
            refine rd_inc T R4 (by rfl) fun H5 R5 => ?_
            refine ⟨_, rfl, _, rfl, _, _, rfl, rfl, _, rfl, _, rfl, o1.1, _, _, rfl, rfl, ?_⟩
            rw [hD, o1.2]
            have hh := hv ⟨c1, c2⟩
            have hm : readHex p pl = .ok (v + now p pl - lo, pl + 1) := by unfold readHex; rw [hh]
            have q := q2 _ _ hm H5 R5
            have e : ((v + now p pl - lo : Nat) : Int) = (v : Int) + (now p pl : Int) - (lo : Int) := by omega
            rw [e] at q
            exact q
          · refine if_false_of (decide_eq_false (by omega)) ?_
            show D.nx _ _
            rw [hn]
            exact hP _ ⟨_, _, _, rfl⟩ (fun h => c2 h.2)
        · refine if_false_of (decide_eq_false (by omega)) ⟨_, rfl, ?_⟩
          refine if_false_of rfl ?_
          show D.nx _ _
          rw [hn]
          exact hP _ ⟨_, _, _, rfl⟩ (fun h => c1 h.1)
      rintro i x σ H' hx ⟨rfl, hσ, h1, h2, h3⟩
      match i, hx with
      | 0, hx =>
        cases hx
        exact turn t1 "0" "9" 0 48 57 σ _ _ rfl e1 ⟨by decide +kernel, by decide +kernel⟩ ⟨by decide +kernel, by decide +kernel⟩ hσ (fun h => by unfold hexv; rw [if_pos h, Nat.zero_add])
          (fun σ' h4 h5 => ⟨rfl, h4, fun _ => h5, fun h => absurd h (by decide), fun h => absurd h (by decide)⟩) rfl
      | 1, hx =>
        cases hx
        exact turn t2 "A" "F" 10 65 70 σ _ _ rfl e2 ⟨by decide +kernel, by decide +kernel⟩ ⟨by decide +kernel, by decide +kernel⟩ hσ (fun h => by unfold hexv; rw [if_neg (h1 (by decide)), if_pos h])
          (fun σ' h4 h5 => ⟨rfl, h4, fun _ => h1 (by decide), fun _ => h5, fun h => absurd h (by decide)⟩) rfl
      | 2, hx =>
        cases hx
        exact turn t3 "a" "f" 10 97 102 σ _ _ rfl e3 ⟨by decide +kernel, by decide +kernel⟩ ⟨by decide +kernel, by decide +kernel⟩ hσ (fun h => by unfold hexv; rw [if_neg (h1 (by decide)), if_neg (h2 (by decide)), if_pos h])
          (fun σ' h4 h5 => ⟨rfl, h4, fun _ => h1 (by decide), fun _ => h2 (by decide), fun _ => h5⟩) rfl
      | _ + 3, hx => cases hx
    · rintro σ H' ⟨rfl, ⟨x, y, z, rfl⟩, h1, h2, h3⟩
      refine ⟨_, rfl, rd_f_place T R4 ⟨_, _, rfl, fun d nd => (q1 (1, pl) ?_).at_ R4.stands nd⟩⟩
      unfold readHex hexv
      rw [if_neg (h1 (by show 0 < 3; decide)), if_neg (h2 (by show 1 < 3; decide)), if_neg (h3 (by show 2 < 3; decide))]
end
end RM
/-! Part C8: bytes behind a backslash, of sets; items, sets. -/
namespace RM
open PySem PySem.Spec PyProof.Rows L2 PF
/-- self.passes(sign), both ways -/
theorem rd_passes {K : PySem.W.Frag} {c : Cs} {F H : Hp} {r : Addr} {p : List Nat} {pl g : Nat} {fs : List Fm} {lv : List Addr} {M : Mem} {z : Str} {k : Nat} {Q : VK} {E : XK} {σ : L2.St} (R : RS K c F H r p pl g fs lv M) (hz : one z k)
    (h1 : now p pl = k → ∀ H', RS K c F H' r p (pl + 1) g fs lv M → Q (.bl true) H') (h2 : now p pl ≠ k → Q (.bl false) H) :
    ∃ a dx fs, V.ref r = .ref a ∧ H a = some (.ins c.rd dx fs) ∧ fs.lookup ("passes" : Str) = none ∧ tCons (tC (.str z)) tNil σ H fun vs H2 => spPasses K c (.ref r :: (vs ++ [])) H2 Q E :=
  rd_meth R (by decide +kernel) ⟨F, r, p, pl, g, fs, lv, M, z, k, rfl, hz, R, h1, h2⟩
section
variable {P : Program} {w : World} {K : PySem.W.Frag} {mg : Str → Option Value} {base : Heap} {c : Cs} {fI : Addr}
theorem codes_specials : codes "\\|&~*+?{}.^$()[]-:" = specials := by decide +kernel
theorem codes_notPlain : codes "\\|&~*+?{}.^$()[]" = notPlain := by decide +kernel
theorem codes_notPlainSet : codes "]-^" = notPlainSet := by decide +kernel
theorem codes_notAtoms : codes "~|&)" = notAtoms := by decide +kernel
theorem ok_escaped (T : Txt K mg c fI) : MOk P w K mg base (L2.CX P w) 4 c.rd "read_escaped" ["self"] (spVal K c readEscaped) := by
  obtain ⟨f, fd, m, F, b⟩ := T.t_Reader_read_escaped
  obtain ⟨_, _, M_Reader_now, G_Reader_now, B_Reader_now⟩ := ok_now (P := P) (w := w) (base := base) T
  obtain ⟨_, _, M_Reader_passes, G_Reader_passes, B_Reader_passes⟩ := ok_passes (P := P) (w := w) (base := base) T
  obtain ⟨_, _, M_Reader_read_hex, G_Reader_read_hex, B_Reader_read_hex⟩ := ok_hex (P := P) (w := w) (base := base) T
  obtain ⟨_, _, g_among, k_among, G_among, B_among⟩ := ok_among (P := P) (w := w) (base := base) T
  refine ⟨f, fd, m, F.okX sc_Reader_read_escaped (fun vs H Q E h => ?_) (fun cdv A outer s H vs Q E hr h => ⟨_, pss_cons (ps_if (pt_val (pe_meth (pv 0) T.c_Reader M_Reader_passes G_Reader_passes (hr.mono (by decide)) B_Reader_passes .nil pass0 (pa_cons pe_str pa_nil))) (pss_one (ps_ret (pe_callB call_ord (by rfl) T.b_ord (by decide +kernel) (pa_cons pe_str pa_nil)))) pss_nil) (pss_cons (ps_if (pt_val (pe_meth (pv 0) T.c_Reader M_Reader_passes G_Reader_passes (hr.mono (by decide)) B_Reader_passes .nil pass0 (pa_cons pe_str pa_nil))) (pss_one (ps_ret (pe_callB call_ord (by rfl) T.b_ord (by decide +kernel) (pa_cons pe_str pa_nil)))) pss_nil) (pss_cons (ps_if (pt_val (pe_meth (pv 0) T.c_Reader M_Reader_passes G_Reader_passes (hr.mono (by decide)) B_Reader_passes .nil pass0 (pa_cons pe_str pa_nil))) (pss_cons (ps_set (i := 1) sc_Reader_read_escaped.nd rfl (Or.inl rfl) (pe_meth0 (pv 0) T.c_Reader M_Reader_read_hex G_Reader_read_hex (hr.mono (by decide)) B_Reader_read_hex .nil (passes_call (takes_of rfl rfl rfl rfl) fun _ _ _ _ z => z))) (pss_one (ps_ret (pe_op op_add (pe_op op_mul pe_int (pv 1)) (pe_meth0 (pv 0) T.c_Reader M_Reader_read_hex G_Reader_read_hex (hr.mono (by decide)) B_Reader_read_hex .nil (passes_call (takes_of rfl rfl rfl rfl) fun _ _ _ _ z => z)))))) pss_nil) (pss_cons (ps_set (i := 2) sc_Reader_read_escaped.nd rfl (Or.inl rfl) (pe_meth0 (pv 0) T.c_Reader M_Reader_now G_Reader_now (hr.mono (by decide)) B_Reader_now .nil pass0)) (pss_cons (ps_if (pt_not (pt_val (pe_call G_among (hr.mono (by decide)) rfl g_among k_among B_among .nil pass0 (pa_cons (pv 2) (pa_cons (pe_globS rfl T.g_SPECIALS) pa_nil))))) (pss_one (ps_raiseFlt rfl T.flt hr (takes_of rfl rfl rfl rfl) (pa_cons (pe_globI rfl T.g_CANNOT_STAND) (pa_cons (pe_fld (pv 0) rfl) pa_nil)))) pss_nil) (pss_cons (ps_fldaug (pv 0) pe_int in_add) (pss_one (ps_ret (pv 2)))))))), ?_⟩), b⟩
  · obtain ⟨_, r, _, _, _, _, _, _, rfl, _⟩ := h; rfl
  · obtain ⟨F0, r, p, pl, g, fs, lv, M, rfl, R, q1, q2⟩ := h
    unfold readEscaped at q1 q2
    -- n
    refine ⟨_, rfl, rd_passes R (k := 110) ⟨by decide +kernel, by decide +kernel⟩ (fun e H' R' => ⟨_, rfl, ?_⟩) fun c1 => ⟨_, rfl, ?_⟩⟩
    · exact if_true_of rfl ⟨_, rfl, by decide +kernel, q2 10 (pl + 1) (if_pos e) H' R'⟩
    rw [if_neg c1] at q1
    have q2 := fun v j h => q2 v j ((if_neg c1).trans h)
    refine if_false_of rfl ?_
    -- t
    refine ⟨_, rfl, rd_passes R (k := 116) ⟨by decide +kernel, by decide +kernel⟩ (fun e H' R' => ⟨_, rfl, ?_⟩) fun c2 => ⟨_, rfl, ?_⟩⟩
    · exact if_true_of rfl ⟨_, rfl, by decide +kernel, q2 9 (pl + 1) (if_pos e) H' R'⟩
    rw [if_neg c2] at q1
    have q2 := fun v j h => q2 v j ((if_neg c2).trans h)
    refine if_false_of rfl ?_
    -- x
    refine ⟨_, rfl, rd_passes R (k := 120) ⟨by decide +kernel, by decide +kernel⟩ (fun e H' R' => ⟨_, rfl, ?_⟩) fun c3 => ⟨_, rfl, ?_⟩⟩
    · refine if_true_of rfl ?_
      rw [if_pos e] at q1
      have q2 := fun v j h => q2 v j ((if_pos e).trans h)
      unfold readHex2 at q1 q2
      refine ⟨_, rfl, rd_meth R' (by decide +kernel) ⟨F0, r, p, pl + 1, g, fs, lv, M, rfl, R', fun e h => q1 e (by rw [h]), fun u j h1 H2 R2 => ?_⟩⟩
      refine ⟨_, rfl, _, _, rfl, rfl, .inl (by decide), _, rfl, rd_meth R2 (by decide +kernel) ⟨F0, r, p, j, g, fs, lv, M, rfl, R2, fun e h => q1 e (by rw [h1]; dsimp only; rw [h]), fun l k h2 H3 R3 => ?_⟩⟩
      refine ⟨_, _, rfl, rfl, ?_⟩
      exact q2 (16 * u + l) k (by rw [h1]; dsimp only; rw [h2]) H3 R3
    rw [if_neg c3] at q1
    have q2 := fun v j h => q2 v j ((if_neg c3).trans h)
    refine if_false_of rfl ?_
    -- a special
    refine ⟨_, rfl, rd_meth R (by decide +kernel) ⟨F0, r, p, pl, g, fs, lv, M, rfl, R, ?_⟩⟩
    refine ⟨_, rfl, _, _, rfl, (by decide +kernel), fun H1 s1 => ⟨_, rfl, ?_⟩⟩
    have R1 := R.same s1
    rw [codes_specials]
    cases e2 : specials.contains (now p pl) with
    | false =>
      refine if_true_of rfl ?_
      refine ⟨_, rfl, rd_f_place T R1 ⟨_, _, rfl, fun d nd => (q1 (1, pl) (if_neg (by rw [e2]; exact Bool.false_ne_true))).at_ R1.stands nd⟩⟩
    | true =>
      refine if_false_of rfl ?_
      refine rd_inc T R1 (by rfl) fun H2 R2 => ?_
      exact ⟨_, rfl, q2 _ _ (if_pos e2) H2 R2⟩
theorem ok_setByte (T : Txt K mg c fI) : MOk P w K mg base (L2.CX P w) 5 c.rd "read_set_byte" ["self"] (spVal K c readSetByte) := by
  obtain ⟨f, fd, m, F, b⟩ := T.t_Reader_read_set_byte
  obtain ⟨_, _, M_Reader_passes, G_Reader_passes, B_Reader_passes⟩ := ok_passes (P := P) (w := w) (base := base) T
  obtain ⟨_, _, M_Reader_read_escaped, G_Reader_read_escaped, B_Reader_read_escaped⟩ := ok_escaped (P := P) (w := w) (base := base) T
  obtain ⟨_, _, M_Reader_read_plain, G_Reader_read_plain, B_Reader_read_plain⟩ := ok_plain (P := P) (w := w) (base := base) T
  refine ⟨f, fd, m, F.okX sc_Reader_read_set_byte (fun vs H Q E h => ?_) (fun cdv A outer s H vs Q E hr h => ⟨_, pss_cons (ps_if (pt_val (pe_meth (pv 0) T.c_Reader M_Reader_passes G_Reader_passes (hr.mono (by decide)) B_Reader_passes .nil pass0 (pa_cons pe_str pa_nil))) (pss_one (ps_ret (pe_meth0 (pv 0) T.c_Reader M_Reader_read_escaped G_Reader_read_escaped (hr.mono (by decide)) B_Reader_read_escaped .nil (passes_call (takes_of rfl rfl rfl rfl) fun _ _ _ _ z => z)))) pss_nil) (pss_one (ps_ret (pe_meth (pv 0) T.c_Reader M_Reader_read_plain G_Reader_read_plain (hr.mono (by decide)) B_Reader_read_plain .nil (passes_call (takes_of rfl rfl rfl rfl) fun _ _ _ _ z => z) (pa_cons (pe_globS rfl T.g_NOT_PLAIN_IN_SET) pa_nil)))), ?_⟩), b⟩
  · obtain ⟨_, r, _, _, _, _, _, _, rfl, _⟩ := h; rfl
  · obtain ⟨F0, r, p, pl, g, fs, lv, M, rfl, R, q1, q2⟩ := h
    unfold readSetByte at q1 q2
    refine ⟨_, rfl, rd_passes R (k := 92) ⟨by decide +kernel, by decide +kernel⟩ (fun e H' R' => ⟨_, rfl, ?_⟩) fun c1 => ⟨_, rfl, ?_⟩⟩
    · refine if_true_of rfl ⟨_, rfl, rd_meth R' (by decide +kernel) ⟨F0, r, p, pl + 1, g, fs, lv, M, rfl, R', fun e' h => q1 e' ((if_pos e).trans h), fun v j h H2 R2 => q2 v j ((if_pos e).trans h) H2 R2⟩⟩
    · refine if_false_of rfl ⟨_, rfl, rd_meth R (by decide +kernel) ⟨F0, r, p, pl, g, fs, lv, M, _, rfl, by decide +kernel, R, fun e' h => q1 e' ((if_neg c1).trans ?_), fun v j h H2 R2 => q2 v j ((if_neg c1).trans ?_) H2 R2⟩⟩
      · rw [codes_notPlainSet] at h; exact h
      · rw [codes_notPlainSet] at h; exact h
end
end RM
/-! Part C9: items and sets. -/
namespace RM
open PySem PySem.Spec PyProof.Rows L2 PF
theorem hexv_lt {n v : Nat} (h : hexv n = some v) : v < 16 := by
  unfold hexv at h
  split at h
  · cases h; omega
  · split at h
    · cases h; omega
    · split at h
      · cases h; omega
      · cases h
theorem readHex_val {p : List Nat} {i v j : Nat} (h : readHex p i = .ok (v, j)) : v < 16 := by
  unfold readHex at h
  cases e : hexv (now p i) with
  | none => rw [e] at h; cases h
  | some u => rw [e] at h; cases h; exact hexv_lt e
theorem specials_lt {n : Nat} (h : specials.contains n = true) : n < 256 := by
  have m : n ∈ specials := List.contains_iff_mem.mp h
  have all : ∀ x ∈ specials, x < 256 := by decide
  exact all n m
theorem readEscaped_val {p : List Nat} {i v j : Nat} (h : readEscaped p i = .ok (v, j)) : v < 256 := by
  unfold readEscaped at h
  split at h
  · cases h; decide
  split at h
  · cases h; decide
  split at h
  · unfold readHex2 at h
    cases e : readHex p (i + 1) with
    | error _ => rw [e] at h; cases h
    | ok x =>
      obtain ⟨u, k⟩ := x
      rw [e] at h
      dsimp only at h
      cases e2 : readHex p k with
      | error _ => rw [e2] at h; cases h
      | ok y =>
        obtain ⟨l, m⟩ := y
        rw [e2] at h
        cases h
        have := readHex_val e
        have := readHex_val e2
        omega
  split at h
  · rename_i hc; cases h; exact specials_lt hc
  · cases h
theorem readPlain_val {b p : List Nat} {i v j : Nat} (h : readPlain b p i = .ok (v, j)) : v < 256 := by
  unfold readPlain at h
  split at h
  · rename_i hc
    cases h
    have := hc.1
    unfold printed at this
    rw [Bool.and_eq_true, decide_eq_true_eq, decide_eq_true_eq] at this
    omega
  · cases h
theorem readSetByte_val {p : List Nat} {i v j : Nat} (h : readSetByte p i = .ok (v, j)) : v < 256 := by
  unfold readSetByte at h
  split at h
  · exact readEscaped_val h
  · exact readPlain_val h
theorem memOf_len {f : Nat → Bool} : (memOf f).length = 256 := by unfold memOf; rw [List.length_map, List.length_range]
theorem memOf_at {f : Nat → Bool} {i : Nat} (h : i < (memOf f).length) : (memOf f)[i] = f i := by
  have e := memOf_get (f := f) (c := i) (by rw [memOf_len] at h; exact h)
  rw [List.getElem?_eq_getElem h] at e
  exact Option.some.inj e
theorem memOf_congr {f g : Nat → Bool} (h : ∀ c, c < 256 → f c = g c) : memOf f = memOf g := by
  unfold memOf
  exact List.map_congr_left fun c hc => h c (List.mem_range.mp hc)
theorem memOf_set {f : Nat → Bool} (j : Nat) : (memOf f).set j true = memOf fun c => f c || decide (c = j) := by
  refine List.ext_getElem (by rw [List.length_set, memOf_len, memOf_len]) fun i h1 h2 => ?_
  rw [List.getElem_set, memOf_at h2]
  by_cases c : j = i
  · rw [if_pos c, decide_eq_true c.symm, Bool.or_true]
  · rw [if_neg c, memOf_at, decide_eq_false (fun z => c z.symm), Bool.or_false]
theorem bls_len (l : List Bool) : (bls l).length = l.length := by unfold bls; rw [List.length_map]
theorem bls_set (l : List Bool) (j : Nat) (b : Bool) : (bls l).set j (.bl b) = bls (l.set j b) := by unfold bls; rw [List.map_set]
def cov (l : List (Nat × Nat)) (c : Nat) : Bool := l.any fun x => decide (x.1 ≤ c) && decide (c ≤ x.2)
def spItem (K : PySem.W.Frag) (c : Cs) : Sp := fun vs H Q E => ∃ F r p pl g fs lv M ma fn, vs = [.ref r, .ref ma] ∧ RS K c F H r p pl g fs lv ((ma, .lst (bls (memOf fn))) :: M) ∧
  (∀ e, readItem p pl = .error e → FltE c F E e) ∧ (∀ x j, readItem p pl = .ok (x, j) → ∀ H', RS K c F H' r p j g fs lv ((ma, .lst (bls (memOf fun b => fn b || (decide (x.1 ≤ b) && decide (b ≤ x.2))))) :: M) → Q .non H')
def spSet (K : PySem.W.Frag) (c : Cs) : Sp := fun vs H Q E => ∃ F r p pl g fs lv M, vs = [.ref r] ∧ RS K c F H r p pl g fs lv M ∧
  (∀ e, readSet p pl = .error e → FltE c F E e) ∧ (∀ x j, readSet p pl = .ok (x, j) → ∀ H' ta, RS K c F H' r p j g fs lv ((ta, .lst (bls (memOf (inSetN x.1 x.2)))) :: M) → Q (.ref ta) H')
section
variable {P : Program} {w : World} {K : PySem.W.Frag} {mg : Str → Option Value} {base : Heap} {c : Cs} {fI : Addr}
theorem ok_item (T : Txt K mg c fI) : MOk P w K mg base (L2.CX P w) 6 c.rd "read_item" ["self", "members"] (spItem K c) := by
  obtain ⟨f, fd, m, F, b⟩ := T.t_Reader_read_item
  obtain ⟨_, _, M_Reader_passes, G_Reader_passes, B_Reader_passes⟩ := ok_passes (P := P) (w := w) (base := base) T
  obtain ⟨_, _, M_Reader_read_set_byte, G_Reader_read_set_byte, B_Reader_read_set_byte⟩ := ok_setByte (P := P) (w := w) (base := base) T
  refine ⟨f, fd, m, F.okX sc_Reader_read_item (fun vs H Q E h => ?_) (fun cdv A outer s H vs Q E hr h => ⟨_, pss_cons (ps_set (i := 2) sc_Reader_read_item.nd rfl (Or.inl rfl) (pe_meth0 (pv 0) T.c_Reader M_Reader_read_set_byte G_Reader_read_set_byte (hr.mono (by decide)) B_Reader_read_set_byte .nil (passes_call (takes_of rfl rfl rfl rfl) fun _ _ _ _ z => z))) (pss_cons (ps_set (i := 3) sc_Reader_read_item.nd rfl (Or.inl rfl) (pv 2)) (pss_cons (ps_if (pt_val (pe_meth (pv 0) T.c_Reader M_Reader_passes G_Reader_passes (hr.mono (by decide)) B_Reader_passes .nil pass0 (pa_cons pe_str pa_nil))) (pss_cons (ps_set (i := 4) sc_Reader_read_item.nd rfl (Or.inl rfl) (pe_fld (pv 0) rfl)) (pss_cons (ps_set (i := 3) sc_Reader_read_item.nd rfl (Or.inl rfl) (pe_meth0 (pv 0) T.c_Reader M_Reader_read_set_byte G_Reader_read_set_byte (hr.mono (by decide)) B_Reader_read_set_byte .nil (passes_call (takes_of rfl rfl rfl rfl) fun _ _ _ _ z => z))) (pss_one (ps_if (pt_cmpR op_lt (pv 3) (pv 2) (nomark _)) (pss_one (ps_raiseFlt rfl T.flt hr (takes_of rfl rfl rfl rfl) (pa_cons (pe_globI rfl T.g_WRONG_ITEM) (pa_cons (pv 4) pa_nil)))) pss_nil)))) pss_nil) (pss_one (ps_for (passes_of rfl) rfl (pi_range2 (by rfl) T.b_range (pa_cons (pv 2) (pa_cons (pe_op op_add (pv 3) pe_int) pa_nil))) (pg_name (i := 5) sc_Reader_read_item.nd rfl (Or.inl rfl)) (pss_one (ps_asg pe_bl (pg_sub (pv 1) (pv 5) set_list))))))), ?_⟩), b⟩
  · obtain ⟨_, r, _, _, _, _, _, _, _, _, rfl, _⟩ := h; rfl
  · obtain ⟨F0, r, p, pl, g, fs, lv, M, ma, fn, rfl, R, q1, q2⟩ := h
    unfold readItem at q1 q2
    refine ⟨_, rfl, rd_meth R (by decide +kernel) ⟨F0, r, p, pl, g, fs, lv, _, rfl, R, fun e h => q1 e (by rw [h]), fun a j ha H1 R1 => ?_⟩⟩
    have a256 := readSetByte_val ha
    rw [ha] at q1
    have q2 := fun x k h => q2 x k (by rw [ha]; exact h)
    dsimp only at q1 q2
    refine ⟨_, rfl, ?_⟩
    -- the loop over the bytes from a to b
    have loop : ∀ (b k : Nat) (pv : Option V) (H2 : Hp), b < 256 → RS K c F0 H2 r p k g fs lv ((ma, .lst (bls (memOf fn))) :: M) → (∀ H', RS K c F0 H' r p k g fs lv ((ma, .lst (bls (memOf fun x => fn x || (decide (a ≤ x) && decide (x ≤ b))))) :: M) → Q .non H') →
        tFor (iRng2 (tCons (tVar 2) (tCons (tOp (rI0 fun i j => .int (i + j)) (tVar 3) (tC (.int 1))) tNil))) (gName 5) (tAsg (tC (.bl true)) (gSub (tVar 1) (tVar 5) rSetL)) ⟨fun _ H' => Q .non H', Q, fun _ _ => False, fun _ _ => False⟩ [some (.ref r), some (.ref ma), some (.int a), some (.int b), pv, none] H2 := by
      intro b k pv H2 hb R2 hq
      refine ⟨_, rfl, _, rfl, _, _, rfl, rfl, a, (b : Int) + 1, rfl, ⟨by omega, by omega, by omega, by omega⟩, ?_⟩
      refine for_range (lo := a) (n := ((b : Int) + 1 - a).toNat) (fun i σ H' => (∃ y, σ = [some (.ref r), some (.ref ma), some (.int a), some (.int b), pv, y]) ∧ RS K c F0 H' r p k g fs lv ((ma, .lst (bls (memOf fun x => fn x || (decide (a ≤ x) && decide (x < a + i))))) :: M))
        ⟨⟨none, rfl⟩, ?_⟩ ?_ ?_
      · have e : memOf (fun x => fn x || (decide (a ≤ x) && decide (x < a + 0))) = memOf fn := memOf_congr fun x _ => by
          have : (decide (a ≤ x) && decide (x < a + 0)) = false := by
            rw [Bool.and_eq_false_iff, decide_eq_false_iff_not, decide_eq_false_iff_not]; omega
          rw [this, Bool.or_false]
        rw [e]; exact R2
      · rintro i σ H' hi ⟨⟨y, rfl⟩, R3⟩
        refine ⟨_, rfl, _, rfl, ma, _, _, a + i, rfl, rfl, R3.get 0 rfl, ?_, ⟨_, rfl⟩, ?_⟩
        · rw [bls_len, memOf_len]
          unfold ixN
          rw [if_pos (by omega), if_pos (by omega)]
          congr 1
        · have R4 := R3.put 0 (.lst (bls (memOf fun x => fn x || (decide (a ≤ x) && decide (x < a + (i + 1)))))) rfl
          have e : (bls (memOf fun x => fn x || (decide (a ≤ x) && decide (x < a + i)))).set (a + i) (.bl true) = bls (memOf fun x => fn x || (decide (a ≤ x) && decide (x < a + (i + 1)))) := by
            rw [bls_set, memOf_set]
            congr 1
            refine memOf_congr fun x _ => ?_
            rw [Bool.or_assoc]
            congr 1
            by_cases h1 : a ≤ x
            · by_cases h2 : x < a + i
              · rw [decide_eq_true h1, decide_eq_true h2, decide_eq_true (by omega : x < a + (i + 1))]; rfl
              · by_cases h3 : x = a + i
                · rw [decide_eq_true h1, decide_eq_false h2, decide_eq_true h3, decide_eq_true (by omega : x < a + (i + 1))]; rfl
                · rw [decide_eq_true h1, decide_eq_false h2, decide_eq_false h3, decide_eq_false (by omega : ¬ x < a + (i + 1))]; rfl
            · rw [decide_eq_false h1, decide_eq_false (by omega : ¬ x = a + i)]; rfl
          rw [e]
          exact R4
      · rintro σ H' ⟨⟨y, rfl⟩, R3⟩
        refine hq H' ?_
        have e : memOf (fun x => fn x || (decide (a ≤ x) && decide (x < a + ((b : Int) + 1 - a).toNat))) = memOf fun x => fn x || (decide (a ≤ x) && decide (x ≤ b)) := memOf_congr fun x _ => by
          congr 1
          by_cases h1 : a ≤ x
          · by_cases h2 : x ≤ b
            · rw [decide_eq_true h2, decide_eq_true (by omega : x < a + ((b : Int) + 1 - a).toNat)]
            · rw [decide_eq_false h2, decide_eq_false (by omega : ¬ x < a + ((b : Int) + 1 - a).toNat)]
          · rw [decide_eq_false h1]; rfl
        rw [← e]
        exact R3
    refine ⟨_, rfl, rd_passes R1 (k := 45) ⟨by decide +kernel, by decide +kernel⟩ (fun c1 H2 R2 => ⟨_, rfl, ?_⟩) fun c1 => ⟨_, rfl, ?_⟩⟩
    · rw [if_pos c1] at q1
      have q2 := fun x k h => q2 x k ((if_pos c1).trans h)
      refine if_true_of rfl ?_
      refine ⟨_, rfl, rd_f_place T R2 ?_⟩
      refine ⟨_, rfl, rd_meth R2 (by decide +kernel) ⟨F0, r, p, j + 1, g, fs, lv, _, rfl, R2, fun e h => q1 e (by rw [h]), fun b k hb H3 R3 => ?_⟩⟩
      have b256 := readSetByte_val hb
      rw [hb] at q1
      have q2 := fun x k' h => q2 x k' (by rw [hb]; exact h)
      dsimp only at q1 q2
      refine ⟨_, rfl, _, rfl, _, _, rfl, rfl, _, rfl, ?_⟩
      by_cases c2 : b < a
      · refine if_true_of (decide_eq_true (by omega)) ?_
        exact ⟨_, rfl, _, _, rfl, fun d nd => (q1 (3, j + 1) (if_pos c2)).at_ R3.stands nd⟩
      · refine if_false_of (decide_eq_false (by omega)) ?_
        exact loop b k _ H3 b256 R3 (q2 (a, b) k (if_neg c2))
    · have q2 := fun x k h => q2 x k ((if_neg c1).trans h)
      refine if_false_of rfl ?_
      exact loop a j none H1 a256 R1 (q2 (a, a) j rfl)
end
end RM
/-! Part CA: sets, atoms. -/
namespace RM
open PySem PySem.Spec PyProof.Rows L2 PF
def spKeepByte (K : PySem.W.Frag) (c : Cs) : Sp := fun vs H Q _ => ∃ F r p pl g fs lv M, ∃ v : Nat, vs = [.ref r, .int v] ∧ Sz fs.length ∧ RS K c F H r p pl g fs lv M ∧
  ∀ H', RS K c F H' r p pl g (fs ++ [byteF fun b => decide (b = v)]) lv M → Q (.int fs.length) H'
def spAtom (K : PySem.W.Frag) (c : Cs) (mir : List Nat → Nat → Except Flt (Fm × Nat)) : Sp := fun vs H Q E => ∃ F r p pl g fs lv M, vs = [.ref r] ∧ Sz fs.length ∧ RS K c F H r p pl g fs lv M ∧
  (∀ e, mir p pl = .error e → FltE c F E e) ∧ (∀ fm j, mir p pl = .ok (fm, j) → ∀ H', RS K c F H' r p j g (fs ++ [fm]) lv M → Q (.int fs.length) H')
theorem take_memOf {f : Nat → Bool} {i : Nat} (h : i < 256) : (memOf f).take (i + 1) = (memOf f).take i ++ [f i] := by
  rw [List.take_add_one, memOf_get h]; rfl
theorem bls_app (l : List Bool) (b : Bool) : bls l ++ [V.bl b] = bls (l ++ [b]) := by unfold bls; rw [List.map_append]; rfl
theorem take_all {f : Nat → Bool} : (memOf f).take 256 = memOf f := List.take_of_length_le (by rw [memOf_len]; exact Nat.le_refl _)
theorem ne_bool (a b : Bool) : (!decide (V.bl a = V.bl b)) = (a != b) := by cases a <;> cases b <;> rfl
theorem rep256 : (List.replicate (256 : Int).toNat [V.bl false]).flatten = bls (memOf fun _ => false) := by decide +kernel
theorem rd_passes2 {K : PySem.W.Frag} {c : Cs} {F H : Hp} {r : Addr} {p : List Nat} {pl g : Nat} {fs : List Fm} {lv : List Addr} {M : Mem} {z : Str} {k : Nat} {Q : VK} {E : XK} {σ : L2.St} (R : RS K c F H r p pl g fs lv M) (hz : one z k)
    (h : ∀ (t : Bool) (i : Nat) H', t = decide (now p pl = k) → i = (if now p pl = k then pl + 1 else pl) → RS K c F H' r p i g fs lv M → Q (.bl t) H') :
    ∃ a dx fs, V.ref r = .ref a ∧ H a = some (.ins c.rd dx fs) ∧ fs.lookup ("passes" : Str) = none ∧ tCons (tC (.str z)) tNil σ H fun vs H2 => spPasses K c (.ref r :: (vs ++ [])) H2 Q E :=
  rd_passes R hz (fun e H' R' => h true (pl + 1) H' (decide_eq_true e).symm (if_pos e).symm R') fun e => h false pl H (decide_eq_false e).symm (if_neg e).symm R
section
variable {P : Program} {w : World} {K : PySem.W.Frag} {mg : Str → Option Value} {base : Heap} {c : Cs} {fI : Addr}
theorem ok_set (T : Txt K mg c fI) : MOk P w K mg base (L2.CX P w) 7 c.rd "read_set" ["self"] (spSet K c) := by
  obtain ⟨f, fd, m, F, b⟩ := T.t_Reader_read_set
  obtain ⟨_, _, M_Reader_passes, G_Reader_passes, B_Reader_passes⟩ := ok_passes (P := P) (w := w) (base := base) T
  obtain ⟨_, _, M_Reader_read_item, G_Reader_read_item, B_Reader_read_item⟩ := ok_item (P := P) (w := w) (base := base) T
  refine ⟨f, fd, m, F.okX sc_Reader_read_set (fun vs H Q E h => ?_) (fun cdv A outer s H vs Q E hr h => ⟨_, pss_cons (ps_set (i := 1) sc_Reader_read_set.nd rfl (Or.inr rfl) (pe_meth (pv 0) T.c_Reader M_Reader_passes G_Reader_passes (hr.mono (by decide)) B_Reader_passes .nil pass0 (pa_cons pe_str pa_nil))) (pss_cons (ps_set (i := 2) sc_Reader_read_set.nd rfl (Or.inl rfl) (pe_op op_rep (pe_lst (pa_cons pe_bl pa_nil)) pe_int)) (pss_cons (ps_expr (pe_meth (pv 0) T.c_Reader M_Reader_read_item G_Reader_read_item (hr.mono (by decide)) B_Reader_read_item .nil (passes_call (takes_of rfl rfl rfl rfl) fun _ _ _ _ z => z) (pa_cons (pv 2) pa_nil))) (pss_cons (ps_while (passes_of rfl) (pt_not (pt_val (pe_meth (pv 0) T.c_Reader M_Reader_passes G_Reader_passes (hr.mono (by decide)) B_Reader_passes .nil pass0 (pa_cons pe_str pa_nil)))) (pss_one (ps_expr (pe_meth (pv 0) T.c_Reader M_Reader_read_item G_Reader_read_item (hr.mono (by decide)) B_Reader_read_item .nil (passes_call (takes_of rfl rfl rfl rfl) fun _ _ _ _ z => z) (pa_cons (pv 2) pa_nil))))) (pss_one (ps_ret (pe_lc (own := [("member", 3)]) (g := gName 3) (tt := tYes) rfl sc_Reader_read_set.nd (pi_list (pv 2)) (blkOk_by (N := ["self", "turned", "members", "member"]) (sc := defScope s_Reader_read_set) (by decide +kernel)) (fun _ _ _ _ _ => (pg_name (i := 3) sc_Reader_read_set.nd rfl (Or.inl rfl))) (fun _ _ _ _ _ => pts_nil) (fun _ _ _ _ _ => (pe_cmpR op_ne (pv 3) (pv 1) (nomark _))))))))), ?_⟩), b⟩
  · obtain ⟨_, r, _, _, _, _, _, _, rfl, _⟩ := h; rfl
  · obtain ⟨F0, r, p, pl, g, fs, lv, M, rfl, R, q1, q2⟩ := h
    unfold readSet at q1 q2
    refine ⟨_, rfl, rd_passes2 R (k := 94) ⟨by decide +kernel, by decide +kernel⟩ fun neg i H1 hneg hi R1 => ?_⟩
    rw [← hi, ← hneg] at q2
    rw [← hi] at q1
    refine ⟨(by decide : 1 ≤ sizeLine), fun t0 n0 => ?_⟩
    have R2 := R1.add n0 (.lst [V.bl false])
    refine ⟨t0, 256, _, rfl, rfl, R2.get 0 rfl, by decide, by decide, by decide, fun ma nma => ?_⟩
    have R3 := R2.add nma (.lst (List.replicate (256 : Int).toNat [V.bl false]).flatten)
    rw [rep256] at R3 ⊢
    have R4 : RS K c F0 _ r p i g fs lv ((ma, .lst (bls (memOf fun _ => false))) :: M) := (R3.perm (List.Perm.swap _ _ _)).drop
    -- the first item
    refine ⟨_, rfl, rd_meth R4 (by decide +kernel) ⟨_, rfl, F0, r, p, i, g, fs, lv, M, ma, _, rfl, R4, fun e h => q1 e (by rw [h]), fun x j hx H2 R5 => ?_⟩⟩
    rw [hx] at q1
    have q2 := fun z k h => q2 z k (by rw [hx]; exact h)
    dsimp only at q1 q2
    have hj := readItem_lt hx
    have R6 : RS K c F0 H2 r p j g fs lv ((ma, .lst (bls (memOf (cov [x])))) :: M) := by
      have e : memOf (fun b => false || (decide (x.1 ≤ b) && decide (b ≤ x.2))) = memOf (cov [x]) := memOf_congr fun b _ => by
        unfold cov
        rw [List.any_cons, List.any_nil, Bool.or_false, Bool.false_or]
      rw [← e]; exact R5
    -- the further ones
    refine ⟨fun f σ H' => ∃ j l, p.length - j < f ∧ σ = [some (.ref r), some (.bl neg), some (.ref ma), none] ∧ RS K c F0 H' r p j g fs lv ((ma, .lst (bls (memOf (cov l)))) :: M) ∧ (∀ e, readItems p f j = .error e → FltE c F0 E e) ∧
      (∀ l2 k, readItems p f j = .ok (l2, k) → ∀ H' ta, RS K c F0 H' r p k g fs lv ((ta, .lst (bls (memOf (inSetN neg (l ++ l2))))) :: M) → Q (.ref ta) H'), ⟨p.length + 1, j, [x], by omega, rfl, R6, fun e h => q1 e (by rw [h]), fun l2 k h H' ta R => q2 (neg, x :: l2) k (by rw [h]) H' ta R⟩, ?_⟩
    rintro f σ H3 ⟨j, l, hf, rfl, R7, w1, w2⟩
    obtain ⟨f', rfl⟩ : ∃ f', f = f' + 1 := ⟨f - 1, by omega⟩
    rw [readItems] at w1
    have w2 := fun l2 k h => w2 l2 k (by rw [readItems]; exact h)
    refine ⟨_, rfl, rd_passes R7 (k := 93) ⟨by decide +kernel, by decide +kernel⟩ (fun c1 H4 R8 => ⟨_, rfl, ?_⟩) fun c1 => ⟨_, rfl, ?_⟩⟩
    · -- the ] : the list of truths
      refine if_false_of rfl ?_
      have w2 := w2 [] (j + 1) (if_pos c1)
      rw [List.append_nil] at w2
      refine ⟨_, rfl, ma, rfl, ⟨_, SqL.of (R8.get 0 rfl)⟩, fun D nD => ?_⟩
      have R9 := R8.add nD (.lst [])
      refine lc_list (K := K) (a := ma) (xs := bls (memOf (cov l))) (fun i H' => RS K c F0 H' r p (j + 1) g fs lv ((D, .lst (bls ((memOf (inSetN neg l)).take i))) :: (ma, .lst (bls (memOf (cov l)))) :: M)) R9 (fun i H' _ R => SqL.of (R.get 1 rfl)) ?_ ?_
      · intro i y H' hy R
        have hi : i < 256 := by
          have := (List.getElem?_eq_some_iff.mp hy).1
          rw [bls_len, memOf_len] at this; exact this
        have ey : y = .bl (cov l i) := by
          unfold bls at hy
          rw [List.getElem?_map, memOf_get hi] at hy
          exact (Option.some.inj hy).symm
        subst ey
        refine ⟨rfl, _, rfl, _, rfl, rfl, _, R.get 0 rfl, ?_, ?_⟩
        · rw [bls_len, List.length_take, memOf_len]
          exact Nat.lt_of_le_of_lt (Nat.min_le_right _ _) (by decide)
        · have R10 := R.put 0 (.lst (bls ((memOf (inSetN neg l)).take (i + 1)))) rfl
          rw [take_memOf hi, ← bls_app] at R10
          have e : (!decide (V.bl (cov l i) = V.bl neg)) = inSetN neg l i := ne_bool _ _
          show RS K c F0 (upd H' D (.lst (bls ((memOf (inSetN neg l)).take i) ++ [V.bl (!decide (V.bl (cov l i) = V.bl neg))]))) r p (j + 1) g fs lv _
          rw [e]
          have z := R10
          rw [take_memOf hi, ← bls_app]
          exact z
      · intro H' R
        rw [bls_len, memOf_len, take_all] at R
        exact w2 H' D ((R.perm (List.Perm.swap _ _ _)).drop)
    · -- an item more
      rw [if_neg c1] at w1
      have w2 := fun l2 k h => w2 l2 k ((if_neg c1).trans h)
      refine if_true_of rfl ?_
      refine ⟨_, fun σ' H' z => ⟨f', Nat.lt_succ_self _, z⟩, ?_⟩
      refine ⟨_, rfl, rd_meth R7 (by decide +kernel) ⟨_, rfl, F0, r, p, j, g, fs, lv, M, ma, _, rfl, R7, fun e h => w1 e (by rw [h]), fun y k hy H4 R8 => ?_⟩⟩
      have hk := readItem_lt hy
      rw [hy] at w1
      have w2 := fun l2 k' h => w2 l2 k' (by rw [hy]; exact h)
      dsimp only at w1 w2
      refine ⟨k, l ++ [y], by omega, rfl, ?_, fun e h => w1 e (by rw [h]), fun l2 k' h H' ta R => w2 (y :: l2) k' (by rw [h]) H' ta ?_⟩
      · have e : memOf (fun b => cov l b || (decide (y.1 ≤ b) && decide (b ≤ y.2))) = memOf (cov (l ++ [y])) := memOf_congr fun b _ => by
          unfold cov
          rw [List.any_append, List.any_cons, List.any_nil, Bool.or_false]
        rw [← e]; exact R8
      · have e : l ++ y :: l2 = l ++ [y] ++ l2 := by rw [List.append_assoc]; rfl
        rw [e]; exact R
end
end RM
/-! Part CB: atoms. -/
namespace RM
open PySem PySem.Spec PyProof.Rows L2 PF
section
variable {P : Program} {w : World} {K : PySem.W.Frag} {mg : Str → Option Value} {base : Heap} {c : Cs} {fI : Addr}
/-- self.keep(BYTE, [], D), the lists owned -/
theorem RS.keepByte {F H : Hp} {r : Addr} {p : List Nat} {pl g : Nat} {fs : List Fm} {lv : List Addr} {M : Mem} {pa D : Addr} {f : Nat → Bool} {Q : VK} (hb : Sz fs.length)
    (R : RS K c F H r p pl g fs lv ((pa, .lst []) :: (D, .lst (bls (memOf f))) :: M)) (q : ∀ H', RS K c F H' r p pl g (fs ++ [byteF f]) lv M → Q (.int fs.length) H') : spKeep K c [.ref r, .str "byte", .ref pa, .ref D] H Q E0 :=
  ⟨F, r, p, pl, g, fs, lv, M, .byte, pa, [], .ref D, .mem (memOf f), [(D, .lst (bls (memOf f)))], rfl, ⟨D, rfl, rfl⟩, hb, R, q⟩
theorem RS.keepNon {F H : Hp} {r : Addr} {p : List Nat} {pl g : Nat} {fs : List Fm} {lv : List Addr} {M : Mem} {pa : Addr} {Q : VK} {kd : Kd} {js : List Nat} (hb : Sz fs.length)
    (R : RS K c F H r p pl g fs lv ((pa, .lst (nls js)) :: M)) (q : ∀ H', RS K c F H' r p pl g (fs ++ [⟨kd, js, .non⟩]) lv M → Q (.int fs.length) H') : spKeep K c [.ref r, .str (kdS kd), .ref pa, .non] H Q E0 :=
  ⟨F, r, p, pl, g, fs, lv, M, kd, pa, js, .non, .non, [], rfl, ⟨rfl, rfl⟩, hb, R, q⟩
theorem sz256 {n : Nat} (f : Nat → Bool) (n : Nat) : (bls ((memOf f).take n)).length < sizeLine := by
  rw [bls_len, List.length_take, memOf_len]
  exact Nat.lt_of_le_of_lt (Nat.min_le_right _ _) (by decide)
theorem eq_int (a b : Nat) : decide (V.int (0 + (a : Nat)) = V.int (b : Nat)) = decide (a = b) := by
  by_cases h : a = b
  · rw [decide_eq_true h, decide_eq_true (by rw [h, Int.zero_add])]
  · rw [decide_eq_false h, decide_eq_false (fun z => h (by have := V.int.inj z; omega))]
theorem ok_keepByte (T : Txt K mg c fI) : MOk P w K mg base CX0 4 c.rd "keep_byte" ["self", "only"] (spKeepByte K c) := by
  obtain ⟨f, fd, m, F, b⟩ := T.t_Reader_keep_byte
  obtain ⟨_, _, M_Reader_keep, G_Reader_keep, B_Reader_keep⟩ := ok_keep (P := P) (w := w) (base := base) T
  refine ⟨f, fd, m, F.ok sc_Reader_keep_byte (fun vs H Q E h => ?_) (fun cdv A outer s H vs Q E hr h => ⟨_, pss_one (ps_ret (pe_meth (pv 0) T.c_Reader M_Reader_keep G_Reader_keep (hr.mono (by decide)) B_Reader_keep .nil pass0 (pa_cons (pe_globS rfl T.g_BYTE) (pa_cons (pe_lst pa_nil) (pa_cons (pe_lc (own := [("byte", 2)]) (g := gName 2) (tt := tYes) rfl sc_Reader_keep_byte.nd (pi_range1 (by rfl) T.b_range (pa_cons pe_int pa_nil)) (blkOk_by (N := ["self", "only", "byte"]) (sc := defScope s_Reader_keep_byte) (by decide +kernel)) (fun _ _ _ _ _ => (pg_name (i := 2) sc_Reader_keep_byte.nd rfl (Or.inl rfl))) (fun _ _ _ _ _ => pts_nil) (fun _ _ _ _ _ => (pe_cmpR op_eq (pv 2) (pv 1) (nomark _)))) pa_nil))))), ?_⟩), b⟩
  · obtain ⟨_, r, _, _, _, _, _, _, _, rfl, _⟩ := h; rfl
  · obtain ⟨F0, r, p, pl, g, fs, lv, M, v, rfl, hb, R, q⟩ := h
    refine ⟨_, rfl, rd_meth R (by decide +kernel) ⟨Nat.zero_le _, fun pa npa => ?_⟩⟩
    have R1 := R.add npa (.lst [])
    refine ⟨256, rfl, by decide, by decide, fun D nD => ?_⟩
    have R2 := R1.add nD (.lst [])
    refine lc_range (lo := 0) (n := 256) (fun i H' => RS K c F0 H' r p pl g fs lv ((D, .lst (bls ((memOf fun b => decide (b = v)).take i))) :: (pa, .lst []) :: M)) R2 ?_ ?_
    · intro i H' hi R
      refine ⟨rfl, _, rfl, _, rfl, rfl, _, R.get 0 rfl, sz256 (n := 0) _ _, ?_⟩
      have R3 := R.put 0 (.lst (bls ((memOf fun b => decide (b = v)).take (i + 1)))) rfl
      have e : bls ((memOf fun b => decide (b = v)).take i) ++ [V.bl (decide (V.int (0 + (i : Nat)) = V.int (v : Nat)))] = bls ((memOf fun b => decide (b = v)).take (i + 1)) := by
        rw [eq_int, take_memOf hi, ← bls_app]
      show RS K c F0 (upd H' D (.lst (bls ((memOf fun b => decide (b = v)).take i) ++ [V.bl (decide (V.int (0 + (i : Nat)) = V.int (v : Nat)))]))) r p pl g fs lv _
      rw [e]
      exact R3
    · intro H' R
      rw [take_all] at R
      exact RS.keepByte hb (R.perm (List.Perm.swap _ _ _)) q
theorem ok_escAtom (T : Txt K mg c fI) : MOk P w K mg base (L2.CX P w) 5 c.rd "read_escaped_atom" ["self"] (spAtom K c readEscAtom) := by
  obtain ⟨f, fd, m, F, b⟩ := T.t_Reader_read_escaped_atom
  obtain ⟨_, _, M_Reader_passes, G_Reader_passes, B_Reader_passes⟩ := ok_passes (P := P) (w := w) (base := base) T
  obtain ⟨_, _, M_Reader_keep, G_Reader_keep, B_Reader_keep⟩ := ok_keep (P := P) (w := w) (base := base) T
  obtain ⟨_, _, M_Reader_keep_byte, G_Reader_keep_byte, B_Reader_keep_byte⟩ := ok_keepByte (P := P) (w := w) (base := base) T
  obtain ⟨_, _, M_Reader_read_escaped, G_Reader_read_escaped, B_Reader_read_escaped⟩ := ok_escaped (P := P) (w := w) (base := base) T
  refine ⟨f, fd, m, F.okX sc_Reader_read_escaped_atom (fun vs H Q E h => ?_) (fun cdv A outer s H vs Q E hr h => ⟨_, pss_cons (ps_if (pt_val (pe_meth (pv 0) T.c_Reader M_Reader_passes G_Reader_passes (hr.mono (by decide)) B_Reader_passes .nil pass0 (pa_cons pe_str pa_nil))) (pss_one (ps_ret (pe_meth (pv 0) T.c_Reader M_Reader_keep G_Reader_keep (hr.mono (by decide)) B_Reader_keep .nil pass0 (pa_cons (pe_globS rfl T.g_EDGE) (pa_cons (pe_lst pa_nil) (pa_cons pe_non pa_nil)))))) pss_nil) (pss_cons (ps_if (pt_val (pe_meth (pv 0) T.c_Reader M_Reader_passes G_Reader_passes (hr.mono (by decide)) B_Reader_passes .nil pass0 (pa_cons pe_str pa_nil))) (pss_one (ps_ret (pe_meth (pv 0) T.c_Reader M_Reader_keep G_Reader_keep (hr.mono (by decide)) B_Reader_keep .nil pass0 (pa_cons (pe_globS rfl T.g_NO_EDGE) (pa_cons (pe_lst pa_nil) (pa_cons pe_non pa_nil)))))) pss_nil) (pss_one (ps_ret (pe_meth (pv 0) T.c_Reader M_Reader_keep_byte G_Reader_keep_byte (hr.mono (by decide)) B_Reader_keep_byte .nil pass0 (pa_cons (pe_meth0 (pv 0) T.c_Reader M_Reader_read_escaped G_Reader_read_escaped (hr.mono (by decide)) B_Reader_read_escaped .nil (passes_call (takes_of rfl rfl rfl rfl) fun _ _ _ _ z => z)) pa_nil))))), ?_⟩), b⟩
  · obtain ⟨_, r, _, _, _, _, _, _, rfl, _⟩ := h; rfl
  · obtain ⟨F0, r, p, pl, g, fs, lv, M, rfl, hb, R, q1, q2⟩ := h
    unfold readEscAtom at q1 q2
    refine ⟨_, rfl, rd_passes R (k := 98) ⟨by decide +kernel, by decide +kernel⟩ (fun c1 H1 R1 => ⟨_, rfl, if_true_of rfl ?_⟩) fun c1 => ⟨_, rfl, if_false_of rfl ?_⟩⟩
    · exact ⟨_, rfl, rd_meth R1 (by decide +kernel) ⟨Nat.zero_le _, fun pa npa => RS.keepNon (kd := .edge) (js := []) hb (R1.add npa (.lst [])) fun H' R' => q2 _ _ (if_pos c1) H' R'⟩⟩
    rw [if_neg c1] at q1
    have q2 := fun v j h => q2 v j ((if_neg c1).trans h)
    refine ⟨_, rfl, rd_passes R (k := 66) ⟨by decide +kernel, by decide +kernel⟩ (fun c2 H1 R1 => ⟨_, rfl, if_true_of rfl ?_⟩) fun c2 => ⟨_, rfl, if_false_of rfl ?_⟩⟩
    · exact ⟨_, rfl, rd_meth R1 (by decide +kernel) ⟨Nat.zero_le _, fun pa npa => RS.keepNon (kd := .noEdge) (js := []) hb (R1.add npa (.lst [])) fun H' R' => q2 _ _ (if_pos c2) H' R'⟩⟩
    rw [if_neg c2] at q1
    have q2 := fun v j h => q2 v j ((if_neg c2).trans h)
    refine ⟨_, rfl, rd_meth R (by decide +kernel) ⟨_, rfl, rd_meth R (by decide +kernel) ⟨F0, r, p, pl, g, fs, lv, M, rfl, R, fun e h => q1 e (by rw [h]), fun v j h H1 R1 => ?_⟩⟩⟩
    exact ⟨F0, r, p, j, g, fs, lv, M, v, rfl, hb, R1, fun H' R' => q2 _ _ (by rw [h]) H' R'⟩
theorem ok_atom (T : Txt K mg c fI) : MOk P w K mg base (L2.CX P w) 8 c.rd "read_atom" ["self"] (spAtom K c readAtom) := by
  obtain ⟨f, fd, m, F, b⟩ := T.t_Reader_read_atom
  obtain ⟨_, _, M_Reader_passes, G_Reader_passes, B_Reader_passes⟩ := ok_passes (P := P) (w := w) (base := base) T
  obtain ⟨_, _, M_Reader_keep, G_Reader_keep, B_Reader_keep⟩ := ok_keep (P := P) (w := w) (base := base) T
  obtain ⟨_, _, M_Reader_keep_byte, G_Reader_keep_byte, B_Reader_keep_byte⟩ := ok_keepByte (P := P) (w := w) (base := base) T
  obtain ⟨_, _, M_Reader_read_escaped_atom, G_Reader_read_escaped_atom, B_Reader_read_escaped_atom⟩ := ok_escAtom (P := P) (w := w) (base := base) T
  obtain ⟨_, _, M_Reader_read_plain, G_Reader_read_plain, B_Reader_read_plain⟩ := ok_plain (P := P) (w := w) (base := base) T
  obtain ⟨_, _, M_Reader_read_set, G_Reader_read_set, B_Reader_read_set⟩ := ok_set (P := P) (w := w) (base := base) T
  refine ⟨f, fd, m, F.okX sc_Reader_read_atom (fun vs H Q E h => ?_) (fun cdv A outer s H vs Q E hr h => ⟨_, pss_cons (ps_if (pt_val (pe_meth (pv 0) T.c_Reader M_Reader_passes G_Reader_passes (hr.mono (by decide)) B_Reader_passes .nil pass0 (pa_cons pe_str pa_nil))) (pss_one (ps_ret (pe_meth (pv 0) T.c_Reader M_Reader_keep G_Reader_keep (hr.mono (by decide)) B_Reader_keep .nil pass0 (pa_cons (pe_globS rfl T.g_BYTE) (pa_cons (pe_lst pa_nil) (pa_cons (pe_meth0 (pv 0) T.c_Reader M_Reader_read_set G_Reader_read_set (hr.mono (by decide)) B_Reader_read_set .nil (passes_call (takes_of rfl rfl rfl rfl) fun _ _ _ _ z => z)) pa_nil)))))) pss_nil) (pss_cons (ps_if (pt_val (pe_meth (pv 0) T.c_Reader M_Reader_passes G_Reader_passes (hr.mono (by decide)) B_Reader_passes .nil pass0 (pa_cons pe_str pa_nil))) (pss_one (ps_ret (pe_meth (pv 0) T.c_Reader M_Reader_keep G_Reader_keep (hr.mono (by decide)) B_Reader_keep .nil pass0 (pa_cons (pe_globS rfl T.g_BEGIN) (pa_cons (pe_lst pa_nil) (pa_cons pe_non pa_nil)))))) pss_nil) (pss_cons (ps_if (pt_val (pe_meth (pv 0) T.c_Reader M_Reader_passes G_Reader_passes (hr.mono (by decide)) B_Reader_passes .nil pass0 (pa_cons pe_str pa_nil))) (pss_one (ps_ret (pe_meth (pv 0) T.c_Reader M_Reader_keep G_Reader_keep (hr.mono (by decide)) B_Reader_keep .nil pass0 (pa_cons (pe_globS rfl T.g_END) (pa_cons (pe_lst pa_nil) (pa_cons pe_non pa_nil)))))) pss_nil) (pss_cons (ps_if (pt_val (pe_meth (pv 0) T.c_Reader M_Reader_passes G_Reader_passes (hr.mono (by decide)) B_Reader_passes .nil pass0 (pa_cons pe_str pa_nil))) (pss_one (ps_ret (pe_meth (pv 0) T.c_Reader M_Reader_keep G_Reader_keep (hr.mono (by decide)) B_Reader_keep .nil pass0 (pa_cons (pe_globS rfl T.g_BYTE) (pa_cons (pe_lst pa_nil) (pa_cons (pe_lc (own := [("byte", 1)]) (g := gName 1) (tt := tYes) rfl sc_Reader_read_atom.nd (pi_range1 (by rfl) T.b_range (pa_cons pe_int pa_nil)) (blkOk_by (N := ["self", "byte"]) (sc := defScope s_Reader_read_atom) (by decide +kernel)) (fun _ _ _ _ _ => (pg_name (i := 1) sc_Reader_read_atom.nd rfl (Or.inl rfl))) (fun _ _ _ _ _ => pts_nil) (fun _ _ _ _ _ => (pe_cmpR op_ne (pv 1) (pe_callB call_ord (by rfl) T.b_ord (by decide +kernel) (pa_cons pe_str pa_nil)) (nomark _)))) pa_nil)))))) pss_nil) (pss_cons (ps_if (pt_val (pe_meth (pv 0) T.c_Reader M_Reader_passes G_Reader_passes (hr.mono (by decide)) B_Reader_passes .nil pass0 (pa_cons pe_str pa_nil))) (pss_one (ps_ret (pe_meth0 (pv 0) T.c_Reader M_Reader_read_escaped_atom G_Reader_read_escaped_atom (hr.mono (by decide)) B_Reader_read_escaped_atom .nil (passes_call (takes_of rfl rfl rfl rfl) fun _ _ _ _ z => z)))) pss_nil) (pss_one (ps_ret (pe_meth (pv 0) T.c_Reader M_Reader_keep_byte G_Reader_keep_byte (hr.mono (by decide)) B_Reader_keep_byte .nil pass0 (pa_cons (pe_meth (pv 0) T.c_Reader M_Reader_read_plain G_Reader_read_plain (hr.mono (by decide)) B_Reader_read_plain .nil (passes_call (takes_of rfl rfl rfl rfl) fun _ _ _ _ z => z) (pa_cons (pe_globS rfl T.g_NOT_PLAIN) pa_nil)) pa_nil)))))))), ?_⟩), b⟩
  · obtain ⟨_, r, _, _, _, _, _, _, rfl, _⟩ := h; rfl
  · obtain ⟨F0, r, p, pl, g, fs, lv, M, rfl, hb, R, q1, q2⟩ := h
    unfold readAtom at q1 q2
    -- a set
    refine ⟨_, rfl, rd_passes R (k := 91) ⟨by decide +kernel, by decide +kernel⟩ (fun c1 H1 R1 => ⟨_, rfl, if_true_of rfl ?_⟩) fun c1 => ⟨_, rfl, if_false_of rfl ?_⟩⟩
    · rw [if_pos c1] at q1
      have q2 := fun v j h => q2 v j ((if_pos c1).trans h)
      refine ⟨_, rfl, rd_meth R1 (by decide +kernel) ⟨Nat.zero_le _, fun pa npa => ?_⟩⟩
      have R2 := R1.add npa (.lst [])
      refine ⟨_, rfl, rd_meth R2 (by decide +kernel) ⟨F0, r, p, pl + 1, g, fs, lv, _, rfl, R2, fun e h => q1 e (by rw [h]), fun x j h H2 ta R3 => ?_⟩⟩
      exact RS.keepByte hb (R3.perm (List.Perm.swap _ _ _)) fun H' R' => q2 _ j (by rw [h]) H' R'
    rw [if_neg c1] at q1
    have q2 := fun v j h => q2 v j ((if_neg c1).trans h)
    -- the beginning
    refine ⟨_, rfl, rd_passes R (k := 94) ⟨by decide +kernel, by decide +kernel⟩ (fun c2 H1 R1 => ⟨_, rfl, if_true_of rfl ?_⟩) fun c2 => ⟨_, rfl, if_false_of rfl ?_⟩⟩
    · exact ⟨_, rfl, rd_meth R1 (by decide +kernel) ⟨Nat.zero_le _, fun pa npa => RS.keepNon (kd := .begin_) (js := []) hb (R1.add npa (.lst [])) fun H' R' => q2 _ _ (if_pos c2) H' R'⟩⟩
    rw [if_neg c2] at q1
    have q2 := fun v j h => q2 v j ((if_neg c2).trans h)
    -- the end
    refine ⟨_, rfl, rd_passes R (k := 36) ⟨by decide +kernel, by decide +kernel⟩ (fun c3 H1 R1 => ⟨_, rfl, if_true_of rfl ?_⟩) fun c3 => ⟨_, rfl, if_false_of rfl ?_⟩⟩
    · exact ⟨_, rfl, rd_meth R1 (by decide +kernel) ⟨Nat.zero_le _, fun pa npa => RS.keepNon (kd := .end_) (js := []) hb (R1.add npa (.lst [])) fun H' R' => q2 _ _ (if_pos c3) H' R'⟩⟩
    rw [if_neg c3] at q1
    have q2 := fun v j h => q2 v j ((if_neg c3).trans h)
    -- any byte but a line feed
    refine ⟨_, rfl, rd_passes R (k := 46) ⟨by decide +kernel, by decide +kernel⟩ (fun c4 H1 R1 => ⟨_, rfl, if_true_of rfl ?_⟩) fun c4 => ⟨_, rfl, if_false_of rfl ?_⟩⟩
    · have q2 := q2 _ _ (if_pos c4)
      refine ⟨_, rfl, rd_meth R1 (by decide +kernel) ⟨Nat.zero_le _, fun pa npa => ?_⟩⟩
      have R2 := R1.add npa (.lst [])
      refine ⟨256, rfl, by decide, by decide, fun D nD => ?_⟩
      have R3 := R2.add nD (.lst [])
      refine lc_range (lo := 0) (n := 256) (fun i H' => RS K c F0 H' r p (pl + 1) g fs lv ((D, .lst (bls ((memOf fun b => decide (b ≠ 10)).take i))) :: (pa, .lst []) :: M)) R3 ?_ ?_
      · intro i H' hi R
        refine ⟨rfl, _, rfl, _, rfl, by decide +kernel, rfl, _, R.get 0 rfl, sz256 (n := 0) _ _, ?_⟩
        have R4 := R.put 0 (.lst (bls ((memOf fun b => decide (b ≠ 10)).take (i + 1)))) rfl
        have e : bls ((memOf fun b => decide (b ≠ 10)).take i) ++ [V.bl (!decide (V.int (0 + (i : Nat)) = V.int ((Str.cps "\n").getD 0 0 : Nat)))] = bls ((memOf fun b => decide (b ≠ 10)).take (i + 1)) := by
          have e10 : (Str.cps "\n").getD 0 0 = 10 := by decide +kernel
          rw [e10, eq_int, take_memOf hi, ← bls_app]
          congr 3
          by_cases h : i = 10
          · rw [decide_eq_true h, decide_eq_false (fun z => z h)]; rfl
          · rw [decide_eq_false h, decide_eq_true h]; rfl
        show RS K c F0 (upd H' D (.lst (bls ((memOf fun b => decide (b ≠ 10)).take i) ++ [V.bl (!decide (V.int (0 + (i : Nat)) = V.int ((Str.cps "\n").getD 0 0 : Nat)))]))) r p (pl + 1) g fs lv _
        rw [e]
        exact R4
      · intro H' R
        rw [take_all] at R
        exact RS.keepByte hb (R.perm (List.Perm.swap _ _ _)) q2
    rw [if_neg c4] at q1
    have q2 := fun v j h => q2 v j ((if_neg c4).trans h)
    -- a backslash
    refine ⟨_, rfl, rd_passes R (k := 92) ⟨by decide +kernel, by decide +kernel⟩ (fun c5 H1 R1 => ⟨_, rfl, if_true_of rfl ?_⟩) fun c5 => ⟨_, rfl, if_false_of rfl ?_⟩⟩
    · exact ⟨_, rfl, rd_meth R1 (by decide +kernel) ⟨F0, r, p, pl + 1, g, fs, lv, M, rfl, hb, R1, fun e h => q1 e ((if_pos c5).trans h), fun v j h H' R' => q2 v j ((if_pos c5).trans h) H' R'⟩⟩
    rw [if_neg c5] at q1
    have q2 := fun v j h => q2 v j ((if_neg c5).trans h)
    -- a plain byte
    refine ⟨_, rfl, rd_meth R (by decide +kernel) ⟨_, rfl, rd_meth R (by decide +kernel) ⟨F0, r, p, pl, g, fs, lv, M, _, rfl, by decide +kernel, R, fun e h => q1 e ?_, fun v j h H1 R1 => ?_⟩⟩⟩
    · rw [codes_notPlain] at h
      rw [h]
    · rw [codes_notPlain] at h
      exact ⟨F0, r, p, j, g, fs, lv, M, v, rfl, hb, R1, fun H' R' => q2 _ _ (by rw [h]) H' R'⟩
end
end RM
/-! Part CC: numbers, counts. -/
namespace RM
open PySem PySem.Spec PyProof.Rows L2 PF
def numEnd (least i : Nat) (q : Except Flt (Nat × Nat)) : Except Flt (Nat × Nat) := match q with
  | .error e => .error e
  | .ok (n, j) => if j = i then .error (1, i) else if 100 < n ∨ n < least then .error (2, i) else .ok (n, j)
theorem readNumber_eq (p : List Nat) (least i : Nat) : readNumber p least i = numEnd least i (readDigits p i (p.length + 1) 0 i) := rfl
def spNumber (K : PySem.W.Frag) (c : Cs) : Sp := fun vs H Q E => ∃ F r p pl g fs lv M, ∃ least : Nat, vs = [.ref r, .int least] ∧ RS K c F H r p pl g fs lv M ∧
  (∀ e, readNumber p least pl = .error e → FltE c F E e) ∧ (∀ v j, readNumber p least pl = .ok (v, j) → ∀ H', RS K c F H' r p j g fs lv M → Q (.int v) H')
def spNumbers (K : PySem.W.Frag) (c : Cs) : Sp := fun vs H Q E => ∃ F r p pl g fs lv M, vs = [.ref r] ∧ RS K c F H r p pl g fs lv M ∧
  (∀ e, readNumbers p pl = .error e → FltE c F E e) ∧ (∀ x j, readNumbers p pl = .ok (x, j) → ∀ H' ta, RS K c F H' r p j g fs lv ((ta, .tup [.int x.1, optI x.2]) :: M) → Q (.ref ta) H')
def spCount (K : PySem.W.Frag) (c : Cs) : Sp := fun vs H Q E => ∃ F r p pl g fs lv M, vs = [.ref r] ∧ RS K c F H r p pl g fs lv M ∧
  (∀ e, readCount p pl = .error e → FltE c F E e) ∧ (∀ j, readCount p pl = .ok (none, j) → ∀ H', RS K c F H' r p j g fs lv M → Q .non H') ∧
  (∀ x j, readCount p pl = .ok (some x, j) → ∀ H' ta, RS K c F H' r p j g fs lv ((ta, .tup [.int x.1, optI x.2]) :: M) → Q (.ref ta) H')
theorem eq_nat (a b : Nat) : decide (V.int (a : Nat) = V.int (b : Nat)) = decide (a = b) := by
  by_cases h : a = b
  · rw [decide_eq_true h, decide_eq_true (by rw [h])]
  · rw [decide_eq_false h, decide_eq_false (fun z => h (by have := V.int.inj z; omega))]
section
variable {P : Program} {w : World} {K : PySem.W.Frag} {mg : Str → Option Value} {base : Heap} {c : Cs} {fI : Addr}
theorem ok_number (T : Txt K mg c fI) : MOk P w K mg base (L2.CX P w) 3 c.rd "read_number" ["self", "least"] (spNumber K c) := by
  obtain ⟨f, fd, m, F, b⟩ := T.t_Reader_read_number
  obtain ⟨_, _, M_Reader_now, G_Reader_now, B_Reader_now⟩ := ok_now (P := P) (w := w) (base := base) T
  obtain ⟨_, _, g_is_digit, k_is_digit, G_is_digit, B_is_digit⟩ := ok_digit (P := P) (w := w) (base := base) T
  refine ⟨f, fd, m, F.okX sc_Reader_read_number (fun vs H Q E h => ?_) (fun cdv A outer s H vs Q E hr h => ⟨_, pss_cons (ps_set (i := 2) sc_Reader_read_number.nd rfl (Or.inl rfl) (pe_fld (pv 0) rfl)) (pss_cons (ps_set (i := 3) sc_Reader_read_number.nd rfl (Or.inl rfl) pe_int) (pss_cons (ps_while (passes_of rfl) (pt_val (pe_call G_is_digit (hr.mono (by decide)) rfl g_is_digit k_is_digit B_is_digit .nil pass0 (pa_cons (pe_meth0 (pv 0) T.c_Reader M_Reader_now G_Reader_now (hr.mono (by decide)) B_Reader_now .nil pass0) pa_nil))) (pss_cons (ps_if (PW.pt (pw_and (pt_cmpR op_eq (pv 3) pe_int (nomark _)) (pw_and1 (pt_cmpR op_gt (pe_fld (pv 0) rfl) (pv 2) (nomark _))))) (pss_one (ps_raiseFlt rfl T.flt hr (takes_of rfl rfl rfl rfl) (pa_cons (pe_globI rfl T.g_CANNOT_STAND) (pa_cons (pe_fld (pv 0) rfl) pa_nil)))) pss_nil) (pss_cons (ps_set (i := 3) sc_Reader_read_number.nd rfl (Or.inl rfl) (pe_op op_sub (pe_op op_add (pe_op op_mul (pv 3) pe_int) (pe_meth0 (pv 0) T.c_Reader M_Reader_now G_Reader_now (hr.mono (by decide)) B_Reader_now .nil pass0)) (pe_callB call_ord (by rfl) T.b_ord (by decide +kernel) (pa_cons pe_str pa_nil)))) (pss_one (ps_fldaug (pv 0) pe_int in_add))))) (pss_cons (ps_if (pt_cmpR op_eq (pe_fld (pv 0) rfl) (pv 2) (nomark _)) (pss_one (ps_raiseFlt rfl T.flt hr (takes_of rfl rfl rfl rfl) (pa_cons (pe_globI rfl T.g_CANNOT_STAND) (pa_cons (pv 2) pa_nil)))) pss_nil) (pss_cons (ps_if (PW.pt (pw_or (pt_cmpR op_gt (pv 3) (pe_globI rfl T.g_MOST_TIMES) (nomark _)) (pw_or1 (pt_cmpR op_lt (pv 3) (pv 1) (nomark _))))) (pss_one (ps_raiseFlt rfl T.flt hr (takes_of rfl rfl rfl rfl) (pa_cons (pe_globI rfl T.g_WRONG_NUMBER) (pa_cons (pv 2) pa_nil)))) pss_nil) (pss_one (ps_ret (pv 3))))))), ?_⟩), b⟩
  · obtain ⟨_, r, _, _, _, _, _, _, _, rfl, _⟩ := h; rfl
  · obtain ⟨F0, r, p, pl, g, fs, lv, M, least, rfl, R, q1, q2⟩ := h
    rw [readNumber_eq] at q1 q2
    refine ⟨_, rfl, rd_f_place T R ?_⟩
    -- the loop over the digits
    refine ⟨fun f σ H' => ∃ n i : Nat, p.length - i < f ∧ pl ≤ i ∧ σ = [some (.ref r), some (.int least), some (.int pl), some (.int n)] ∧ RS K c F0 H' r p i g fs lv M ∧ (∀ e, numEnd least pl (readDigits p pl f n i) = .error e → FltE c F0 E e) ∧
      (∀ v j, numEnd least pl (readDigits p pl f n i) = .ok (v, j) → ∀ H', RS K c F0 H' r p j g fs lv M → Q (.int v) H'), ⟨p.length + 1, 0, pl, by omega, Nat.le_refl _, rfl, R, q1, q2⟩, ?_⟩
    rintro f σ H1 ⟨n, i, hf, hi, rfl, R1, w1, w2⟩
    obtain ⟨f', rfl⟩ : ∃ f', f = f' + 1 := ⟨f - 1, by omega⟩
    rw [readDigits] at w1 w2
    refine ⟨_, rfl, rd_meth R1 (by decide +kernel) ⟨F0, r, p, i, g, fs, lv, M, rfl, R1, _, rfl, ?_⟩⟩
    refine ⟨_, rfl, ?_⟩
    cases ed : digit (now p i) with
    | true =>
      rw [if_pos ed] at w1 w2
      have db := digit_bounds ed
      have hlt : i < p.length := lt_of_now (by omega)
      refine if_true_of rfl ⟨_, fun σ' H' z => ⟨f', Nat.lt_succ_self _, z⟩, ?_⟩
      -- a digit behind a 0
      have goOn : ¬ (n = 0 ∧ pl < i) → ∀ (D : Ends), (∀ σ H', (∃ n i : Nat, p.length - i < f' ∧ pl ≤ i ∧ σ = [some (.ref r), some (.int least), some (.int pl), some (.int n)] ∧ RS K c F0 H' r p i g fs lv M ∧ (∀ e, numEnd least pl (readDigits p pl f' n i) = .error e → FltE c F0 E e) ∧
            (∀ v j, numEnd least pl (readDigits p pl f' n i) = .ok (v, j) → ∀ H', RS K c F0 H' r p j g fs lv M → Q (.int v) H')) → D.nx σ H') →
          tSeq (tAsg (tOp (rI0 fun i j => .int (i - j)) (tOp (rI0 fun i j => .int (i + j)) (tOp (rI CMul fun i j => .int (i * j)) (tVar 3) (tC (.int 10))) (tMeth c.rd "now" (spNow K c) [] E0 (tVar 0) tNil)) (tCB (fun xs H Q => ∃ x, xs = [V.str x] ∧ x.length = 1 ∧ Q (V.int (x.cps.getD 0 0 : Nat)) H) (tCons (tC (.str "0")) tNil))) (gName 3)) (sFldAug K (tVar 0) (tC (.int 1)) rAdd "place")
            D [some (.ref r), some (.int least), some (.int pl), some (.int n)] H1 := by
        intro hn D hD
        rw [if_neg hn] at w1 w2
        refine ⟨_, rfl, _, _, rfl, rfl, .inr (by decide), _, rfl, rd_meth R1 (by decide +kernel) ⟨F0, r, p, i, g, fs, lv, M, rfl, R1, _, _, rfl, rfl, ?_⟩⟩
        refine ⟨_, rfl, by decide +kernel, _, _, rfl, rfl, ?_⟩
        refine rd_inc T R1 (by rfl) fun H2 R2 => ?_
        refine hD _ _ ⟨n * 10 + now p i - 48, i + 1, by omega, by omega, ?_, R2, w1, w2⟩
        have e48 : (Str.cps "0").getD 0 0 = 48 := by decide +kernel
        have e : (n : Int) * 10 + (now p i : Nat) - ((48 : Nat) : Int) = ((n * 10 + now p i - 48 : Nat) : Int) := by omega
        rw [e48]
        show [some (V.ref r), some (.int least), some (.int pl), some (.int ((n : Int) * 10 + (now p i : Nat) - ((48 : Nat) : Int)))] = _
        rw [e]
      refine ⟨_, rfl, rfl, _, rfl, ?_⟩
      by_cases c1 : n = 0
      · refine if_true_of (decide_eq_true (by rw [c1]; rfl)) ?_
        refine ⟨_, rfl, rd_f_place T R1 ⟨_, rfl, _, _, rfl, rfl, _, rfl, ?_⟩⟩
        by_cases c2 : pl < i
        · refine if_true_of (decide_eq_true (by omega)) ?_
          exact ⟨_, rfl, rd_f_place T R1 ⟨_, _, rfl, fun d nd => (w1 (1, i) (by rw [if_pos ⟨c1, c2⟩]; rfl)).at_ R1.stands nd⟩⟩
        · refine if_false_of (decide_eq_false (by omega)) ?_
          exact goOn (fun z => c2 z.2) _ fun σ H' z => z
      · refine if_false_of (decide_eq_false fun e => c1 (by have := V.int.inj e; omega)) ?_
        exact if_false_of rfl (goOn (fun z => c1 z.1) _ fun σ H' z => z)
    | false =>
      rw [if_neg (by rw [ed]; exact Bool.false_ne_true)] at w1 w2
      unfold numEnd at w1 w2
      dsimp only at w1 w2
      refine if_false_of rfl ?_
      refine ⟨_, rfl, rd_f_place T R1 ⟨_, rfl, rfl, _, rfl, ?_⟩⟩
      rw [eq_nat]
      by_cases c1 : i = pl
      · refine if_true_of (decide_eq_true c1) ?_
        exact ⟨_, rfl, _, _, rfl, fun d nd => (w1 (1, pl) (if_pos c1)).at_ R1.stands nd⟩
      · rw [if_neg c1] at w1 w2
        refine if_false_of (decide_eq_false c1) ?_
        refine ⟨_, rfl, _, _, rfl, rfl, _, rfl, ?_⟩
        by_cases c2 : 100 < n
        · refine if_true_of (decide_eq_true (by omega)) (if_true_of rfl ?_)
          exact ⟨_, rfl, _, _, rfl, fun d nd => (w1 (2, pl) (if_pos (.inl c2))).at_ R1.stands nd⟩
        · refine if_false_of (decide_eq_false (by omega)) ?_
          refine ⟨_, rfl, _, rfl, _, _, rfl, rfl, _, rfl, ?_⟩
          by_cases c3 : n < least
          · refine if_true_of (decide_eq_true (by omega)) ?_
            exact ⟨_, rfl, _, _, rfl, fun d nd => (w1 (2, pl) (if_pos (.inr c3))).at_ R1.stands nd⟩
          · refine if_false_of (decide_eq_false (by omega)) ?_
            exact ⟨_, rfl, w2 n i (if_neg (fun z => z.elim c2 c3)) H1 R1⟩
theorem tup2 {K : PySem.W.Frag} {F H : Hp} {r : Addr} {p : List Nat} {pl g : Nat} {fs : List Fm} {lv : List Addr} {M : Mem} {a b : V} {Q : VK} (R : RS K c F H r p pl g fs lv M) (q : ∀ H' ta, RS K c F H' r p pl g fs lv ((ta, .tup [a, b]) :: M) → Q (.ref ta) H') :
    [a, b].length ≤ sizeLine ∧ ∀ t, H t = none → Q (.ref t) (upd H t (.tup [a, b])) := ⟨by show 2 ≤ sizeLine; decide, fun t nt => q _ t (R.add nt _)⟩
theorem ok_numbers (T : Txt K mg c fI) : MOk P w K mg base (L2.CX P w) 4 c.rd "read_numbers" ["self"] (spNumbers K c) := by
  obtain ⟨f, fd, m, F, b⟩ := T.t_Reader_read_numbers
  obtain ⟨_, _, M_Reader_now, G_Reader_now, B_Reader_now⟩ := ok_now (P := P) (w := w) (base := base) T
  obtain ⟨_, _, M_Reader_passes, G_Reader_passes, B_Reader_passes⟩ := ok_passes (P := P) (w := w) (base := base) T
  obtain ⟨_, _, M_Reader_need, G_Reader_need, B_Reader_need⟩ := ok_need (P := P) (w := w) (base := base) T
  obtain ⟨_, _, M_Reader_read_number, G_Reader_read_number, B_Reader_read_number⟩ := ok_number (P := P) (w := w) (base := base) T
  refine ⟨f, fd, m, F.okX sc_Reader_read_numbers (fun vs H Q E h => ?_) (fun cdv A outer s H vs Q E hr h => ⟨_, pss_cons (ps_set (i := 1) sc_Reader_read_numbers.nd rfl (Or.inl rfl) (pe_meth (pv 0) T.c_Reader M_Reader_read_number G_Reader_read_number (hr.mono (by decide)) B_Reader_read_number .nil (passes_call (takes_of rfl rfl rfl rfl) fun _ _ _ _ z => z) (pa_cons pe_int pa_nil))) (pss_cons (ps_set (i := 2) sc_Reader_read_numbers.nd rfl (Or.inl rfl) (pv 1)) (pss_cons (ps_if (pt_val (pe_meth (pv 0) T.c_Reader M_Reader_passes G_Reader_passes (hr.mono (by decide)) B_Reader_passes .nil pass0 (pa_cons pe_str pa_nil))) (pss_cons (ps_set (i := 2) sc_Reader_read_numbers.nd rfl (Or.inl rfl) pe_non) (pss_one (ps_if (pt_cmpR op_ne (pe_meth0 (pv 0) T.c_Reader M_Reader_now G_Reader_now (hr.mono (by decide)) B_Reader_now .nil pass0) (pe_callB call_ord (by rfl) T.b_ord (by decide +kernel) (pa_cons pe_str pa_nil)) (nomark _)) (pss_one (ps_set (i := 2) sc_Reader_read_numbers.nd rfl (Or.inl rfl) (pe_meth (pv 0) T.c_Reader M_Reader_read_number G_Reader_read_number (hr.mono (by decide)) B_Reader_read_number .nil (passes_call (takes_of rfl rfl rfl rfl) fun _ _ _ _ z => z) (pa_cons (pv 1) pa_nil)))) pss_nil))) pss_nil) (pss_cons (ps_expr (pe_meth (pv 0) T.c_Reader M_Reader_need G_Reader_need (hr.mono (by decide)) B_Reader_need .nil (passes_call (takes_of rfl rfl rfl rfl) fun _ _ _ _ z => z) (pa_cons pe_str pa_nil))) (pss_one (ps_ret (pe_tup (pa_cons (pv 1) (pa_cons (pv 2) pa_nil)))))))), ?_⟩), b⟩
  · obtain ⟨_, r, _, _, _, _, _, _, rfl, _⟩ := h; rfl
  · obtain ⟨F0, r, p, pl, g, fs, lv, M, rfl, R, q1, q2⟩ := h
    unfold readNumbers at q1 q2
    refine ⟨_, rfl, rd_meth R (by decide +kernel) ⟨F0, r, p, pl, g, fs, lv, M, 0, rfl, R, fun e h => q1 e (by rw [h]), fun n j hn H1 R1 => ?_⟩⟩
    rw [hn] at q1
    have q2 := fun v j h => q2 v j (by rw [hn]; exact h)
    dsimp only at q1 q2
    refine ⟨_, rfl, _, rfl, rd_passes R1 (k := 44) ⟨by decide +kernel, by decide +kernel⟩ (fun c1 H2 R2 => ⟨_, rfl, if_true_of rfl ?_⟩) fun c1 => ⟨_, rfl, if_false_of rfl ?_⟩⟩
    · rw [if_pos c1] at q1
      have q2 := fun v j h => q2 v j ((if_pos c1).trans h)
      refine ⟨_, rfl, rd_meth R2 (by decide +kernel) ⟨F0, r, p, j + 1, g, fs, lv, M, rfl, R2, _, rfl, by decide +kernel, rfl, _, rfl, ?_⟩⟩
      have e125 : (Str.cps "}").getD 0 0 = 125 := by decide +kernel
      rw [e125, eq_nat]
      by_cases c2 : now p (j + 1) = 125
      · refine if_false_of (by rw [decide_eq_true c2]; rfl) ?_
        refine ⟨_, rfl, rd_meth R2 (by decide +kernel) ⟨F0, r, p, j + 1, g, fs, lv, M, _, 125, rfl, ⟨by decide +kernel, by decide +kernel⟩, R2, fun e h => ?_, fun l hl H3 R3 => ?_⟩⟩
        · unfold need at h; rw [if_pos c2] at h; cases h
        · unfold need at hl; rw [if_pos c2] at hl; cases hl
          exact ⟨_, rfl, _, rfl, tup2 R3 fun H' ta R' => q2 (n, none) _ (if_pos c2) H' ta R'⟩
      · refine if_true_of (by rw [decide_eq_false c2]; rfl) ?_
        rw [if_neg c2] at q1
        have q2 := fun v j h => q2 v j ((if_neg c2).trans h)
        refine ⟨_, rfl, rd_meth R2 (by decide +kernel) ⟨_, rfl, F0, r, p, j + 1, g, fs, lv, M, n, rfl, R2, fun e h => q1 e (by rw [h]), fun k l hk H3 R3 => ?_⟩⟩
        rw [hk] at q1
        have q2 := fun v j h => q2 v j (by rw [hk]; exact h)
        dsimp only at q1 q2
        refine ⟨_, rfl, rd_meth R3 (by decide +kernel) ⟨F0, r, p, l, g, fs, lv, M, _, 125, rfl, ⟨by decide +kernel, by decide +kernel⟩, R3, fun e h => q1 e (by rw [h]), fun t ht H4 R4 => ?_⟩⟩
        exact ⟨_, rfl, _, rfl, tup2 R4 fun H' ta R' => q2 (n, some k) _ (by rw [ht]) H' ta R'⟩
    · rw [if_neg c1] at q1
      have q2 := fun v j h => q2 v j ((if_neg c1).trans h)
      refine ⟨_, rfl, rd_meth R1 (by decide +kernel) ⟨F0, r, p, j, g, fs, lv, M, _, 125, rfl, ⟨by decide +kernel, by decide +kernel⟩, R1, fun e h => q1 e (by rw [h]), fun t ht H4 R4 => ?_⟩⟩
      exact ⟨_, rfl, _, rfl, tup2 R4 fun H' ta R' => q2 (n, some n) _ (by rw [ht]) H' ta R'⟩
theorem ok_count (T : Txt K mg c fI) : MOk P w K mg base (L2.CX P w) 5 c.rd "read_count" ["self"] (spCount K c) := by
  obtain ⟨f, fd, m, F, b⟩ := T.t_Reader_read_count
  obtain ⟨_, _, M_Reader_passes, G_Reader_passes, B_Reader_passes⟩ := ok_passes (P := P) (w := w) (base := base) T
  obtain ⟨_, _, M_Reader_read_numbers, G_Reader_read_numbers, B_Reader_read_numbers⟩ := ok_numbers (P := P) (w := w) (base := base) T
  refine ⟨f, fd, m, F.okX sc_Reader_read_count (fun vs H Q E h => ?_) (fun cdv A outer s H vs Q E hr h => ⟨_, pss_cons (ps_if (pt_val (pe_meth (pv 0) T.c_Reader M_Reader_passes G_Reader_passes (hr.mono (by decide)) B_Reader_passes .nil pass0 (pa_cons pe_str pa_nil))) (pss_one (ps_ret (pe_tup (pa_cons pe_int (pa_cons pe_non pa_nil))))) pss_nil) (pss_cons (ps_if (pt_val (pe_meth (pv 0) T.c_Reader M_Reader_passes G_Reader_passes (hr.mono (by decide)) B_Reader_passes .nil pass0 (pa_cons pe_str pa_nil))) (pss_one (ps_ret (pe_tup (pa_cons pe_int (pa_cons pe_non pa_nil))))) pss_nil) (pss_cons (ps_if (pt_val (pe_meth (pv 0) T.c_Reader M_Reader_passes G_Reader_passes (hr.mono (by decide)) B_Reader_passes .nil pass0 (pa_cons pe_str pa_nil))) (pss_one (ps_ret (pe_tup (pa_cons pe_int (pa_cons pe_int pa_nil))))) pss_nil) (pss_cons (ps_if (pt_val (pe_meth (pv 0) T.c_Reader M_Reader_passes G_Reader_passes (hr.mono (by decide)) B_Reader_passes .nil pass0 (pa_cons pe_str pa_nil))) (pss_one (ps_ret (pe_meth0 (pv 0) T.c_Reader M_Reader_read_numbers G_Reader_read_numbers (hr.mono (by decide)) B_Reader_read_numbers .nil (passes_call (takes_of rfl rfl rfl rfl) fun _ _ _ _ z => z)))) pss_nil) (pss_one (ps_ret pe_non))))), ?_⟩), b⟩
  · obtain ⟨_, r, _, _, _, _, _, _, rfl, _⟩ := h; rfl
  · obtain ⟨F0, r, p, pl, g, fs, lv, M, rfl, R, q1, q2, q3⟩ := h
    unfold readCount at q1 q2 q3
    refine ⟨_, rfl, rd_passes R (k := 42) ⟨by decide +kernel, by decide +kernel⟩ (fun c1 H1 R1 => ⟨_, rfl, if_true_of rfl (tup2 R1 fun H' ta R' => q3 (0, none) _ (if_pos c1) H' ta R')⟩) fun c1 => ⟨_, rfl, if_false_of rfl ?_⟩⟩
    rw [if_neg c1] at q1
    have q2 := fun j h => q2 j ((if_neg c1).trans h)
    have q3 := fun x j h => q3 x j ((if_neg c1).trans h)
    refine ⟨_, rfl, rd_passes R (k := 43) ⟨by decide +kernel, by decide +kernel⟩ (fun c2 H1 R1 => ⟨_, rfl, if_true_of rfl (tup2 R1 fun H' ta R' => q3 (1, none) _ (if_pos c2) H' ta R')⟩) fun c2 => ⟨_, rfl, if_false_of rfl ?_⟩⟩
    rw [if_neg c2] at q1
    have q2 := fun j h => q2 j ((if_neg c2).trans h)
    have q3 := fun x j h => q3 x j ((if_neg c2).trans h)
    refine ⟨_, rfl, rd_passes R (k := 63) ⟨by decide +kernel, by decide +kernel⟩ (fun c3 H1 R1 => ⟨_, rfl, if_true_of rfl (tup2 R1 fun H' ta R' => q3 (0, some 1) _ (if_pos c3) H' ta R')⟩) fun c3 => ⟨_, rfl, if_false_of rfl ?_⟩⟩
    rw [if_neg c3] at q1
    have q2 := fun j h => q2 j ((if_neg c3).trans h)
    have q3 := fun x j h => q3 x j ((if_neg c3).trans h)
    refine ⟨_, rfl, rd_passes R (k := 123) ⟨by decide +kernel, by decide +kernel⟩ (fun c4 H1 R1 => ⟨_, rfl, if_true_of rfl ?_⟩) fun c4 => ⟨_, rfl, if_false_of rfl ?_⟩⟩
    · exact ⟨_, rfl, rd_meth R1 (by decide +kernel) ⟨F0, r, p, pl + 1, g, fs, lv, M, rfl, R1, fun e h => q1 e (by rw [if_pos c4, h]), fun x j h H' ta R' => q3 x j (by rw [if_pos c4, h]) H' ta R'⟩⟩
    · exact q2 pl (if_neg c4) H R
end
end RM
/-! Part CD: pieces ended. -/
namespace RM
open PySem PySem.Spec PyProof.Rows L2 PF
/-- what a count's reading gives, and its memory -/
def CntM (v : V) : Option (Nat × Option Nat) → Mem → Prop
  | none, l => v = .non ∧ l = []
  | some x, l => ∃ a, v = .ref a ∧ l = [(a, .tup [.int x.1, optI x.2])]
theorem rd_count {K : PySem.W.Frag} {c : Cs} {F H : Hp} {r : Addr} {p : List Nat} {pl g : Nat} {fs : List Fm} {lv : List Addr} {M : Mem} {Q : VK} {E : XK} {σ : L2.St} (R : RS K c F H r p pl g fs lv M)
    (h1 : ∀ e, readCount p pl = .error e → FltE c F E e) (h2 : ∀ t j, readCount p pl = .ok (t, j) → ∀ H' tv TM, CntM tv t TM → RS K c F H' r p j g fs lv (TM ++ M) → Q tv H') :
    ∃ a dx fs, V.ref r = .ref a ∧ H a = some (.ins c.rd dx fs) ∧ fs.lookup ("read_count" : Str) = none ∧ tNil σ H fun vs H2 => spCount K c (.ref r :: (vs ++ [])) H2 Q E :=
  rd_meth R (by decide +kernel) ⟨F, r, p, pl, g, fs, lv, M, rfl, R, h1, fun j h H' R' => h2 none j h H' .non [] ⟨rfl, rfl⟩ R', fun x j h H' ta R' => h2 (some x) j h H' (.ref ta) [_] ⟨ta, rfl, rfl⟩ R'⟩
def pieceTail (L : Lv) (q : Except Flt (List Fm × Nat × Nat)) : Except Flt (List Fm × Nat × Lv) := match q with
  | .error e => .error e
  | .ok (fs, j, pl) => .ok ((turnF L.turned fs j).1, pl, { L with turned := false, pieces := L.pieces ++ [(turnF L.turned fs j).2] })
def endPieceL (p : List Nat) (i : Nat) (fs : List Fm) (pl : Nat) (L : Lv) : Except Flt (List Fm × Nat × Lv) := pieceTail L (countLoop p (p.length + 1) fs i pl)
theorem endPiece_eq (p : List Nat) (i : Nat) (S : Rd) : endPiece p i S = match endPieceL p i S.forms S.place S.top with
    | .error e => .error e
    | .ok (fs, pl, L) => .ok { S with place := pl, forms := fs, top := L } := by
  unfold endPiece endPieceL pieceTail
  cases countLoop p (p.length + 1) S.forms i S.place with
  | error e => rfl
  | ok y => obtain ⟨fs, j, pl⟩ := y; rfl
def contd (p : List Nat) (m : Nat) (t : Option (Nat × Option Nat)) (fs : List Fm) (i pl : Nat) : Except Flt (List Fm × Nat × Nat) := match t with
  | none => .ok (fs, i, pl)
  | some x => countLoop p m (fs ++ [⟨.counted, [i], .cnt x.1 x.2⟩]) fs.length pl
theorem countLoop_eq (p : List Nat) (m : Nat) (fs : List Fm) (i pl : Nat) : countLoop p (m + 1) fs i pl = match readCount p pl with
    | .error e => .error e
    | .ok (t, j) => contd p m t fs i j := by
  rw [countLoop]
  cases readCount p pl with
  | error e => rfl
  | ok y =>
    obtain ⟨t, j⟩ := y
    cases t <;> rfl
def spEndPiece (K : PySem.W.Frag) (c : Cs) : Sp := fun vs H Q E => ∃ F r p pl g fs lv M x L, ∃ i : Nat, vs = [.ref r, .int i] ∧ Ok8 p ∧ pl ≤ p.length ∧ Sz (fs.length + p.length + 5) ∧ Sz L.pieces.length ∧ RS K c F H r p pl g fs (lv ++ [x.a]) (lvM c.lv x L ++ M) ∧
  (∀ e, endPieceL p i fs pl L = .error e → FltE c F E e) ∧ (∀ fs' pl' L', endPieceL p i fs pl L = .ok (fs', pl', L') → ∀ H', RS K c F H' r p pl' g fs' (lv ++ [x.a]) (lvM c.lv x L' ++ M) → Q .non H')
theorem last_lv (lv : List Addr) (a : Addr) : atI ((lv ++ [a]).map V.ref) (-1) = some (.ref a) := by
  rw [List.map_append]; exact atI_last _ _
section
variable {P : Program} {w : World} {K : PySem.W.Frag} {mg : Str → Option Value} {base : Heap} {c : Cs} {fI : Addr}
/-- self.levels[-1] -/
theorem rd_last {F H : Hp} {r : Addr} {p : List Nat} {pl g : Nat} {fs : List Fm} {lv : List Addr} {M : Mem} {x : Addr} {Q : V → Prop} (T : Txt K mg c fI) (R : RS K c F H r p pl g fs (lv ++ [x]) M) (q : Q (.ref x)) :
    ∃ a C dx fs v, V.ref r = .ref a ∧ H a = some (.ins C dx fs) ∧ Cls K C ∧ NoAttr K C "levels" ∧ fs.lookup ("levels" : Str) = some v ∧ ∃ i, V.int 1 = .int i ∧ ∃ p xs j y, v = .ref p ∧ V.int (-i) = .int j ∧ SqL K H p xs ∧ atI xs j = some y ∧ Q y :=
  rd_f_levels T R fun ll hl => ⟨_, rfl, ll, _, -1, _, rfl, rfl, SqL.of hl, last_lv lv x, q⟩
theorem ok_endPiece (T : Txt K mg c fI) : MOk P w K mg base (L2.CX P w) 6 c.rd "end_piece" ["self", "atom"] (spEndPiece K c) := by
  obtain ⟨f, fd, m, F, b⟩ := T.t_Reader_end_piece
  obtain ⟨_, _, M_Reader_keep, G_Reader_keep, B_Reader_keep⟩ := ok_keep (P := P) (w := w) (base := base) T
  obtain ⟨_, _, M_Reader_read_count, G_Reader_read_count, B_Reader_read_count⟩ := ok_count (P := P) (w := w) (base := base) T
  refine ⟨f, fd, m, F.okX sc_Reader_end_piece (fun vs H Q E h => ?_) (fun cdv A outer s H vs Q E hr h => ⟨_, pss_cons (ps_set (i := 2) sc_Reader_end_piece.nd rfl (Or.inl rfl) (pe_ix ix_list (pe_fld (pv 0) rfl) (pe_un un_neg pe_int) (fun _ _ => rfl))) (pss_cons (ps_set (i := 3) sc_Reader_end_piece.nd rfl (Or.inl rfl) (pv 1)) (pss_cons (ps_set (i := 4) sc_Reader_end_piece.nd rfl (Or.inl rfl) (pe_meth0 (pv 0) T.c_Reader M_Reader_read_count G_Reader_read_count (hr.mono (by decide)) B_Reader_read_count .nil (passes_call (takes_of rfl rfl rfl rfl) fun _ _ _ _ z => z))) (pss_cons (ps_while (passes_of rfl) (pt_cmpR op_notN (pv 4) pe_non (nomark _)) (pss_cons (ps_set (i := 3) sc_Reader_end_piece.nd rfl (Or.inl rfl) (pe_meth (pv 0) T.c_Reader M_Reader_keep G_Reader_keep (hr.mono (by decide)) B_Reader_keep .nil pass0 (pa_cons (pe_globS rfl T.g_COUNTED) (pa_cons (pe_lst (pa_cons (pv 3) pa_nil)) (pa_cons (pv 4) pa_nil))))) (pss_one (ps_set (i := 4) sc_Reader_end_piece.nd rfl (Or.inl rfl) (pe_meth0 (pv 0) T.c_Reader M_Reader_read_count G_Reader_read_count (hr.mono (by decide)) B_Reader_read_count .nil (passes_call (takes_of rfl rfl rfl rfl) fun _ _ _ _ z => z)))))) (pss_cons (ps_if (pt_val (pe_fld (pv 2) rfl)) (pss_cons (ps_set (i := 3) sc_Reader_end_piece.nd rfl (Or.inl rfl) (pe_meth (pv 0) T.c_Reader M_Reader_keep G_Reader_keep (hr.mono (by decide)) B_Reader_keep .nil pass0 (pa_cons (pe_globS rfl T.g_TURNED) (pa_cons (pe_lst (pa_cons (pv 3) pa_nil)) (pa_cons pe_non pa_nil))))) (pss_one (ps_fld (pv 2) pe_bl rfl))) pss_nil) (pss_one (ps_expr (pe_bm PySem.F.plainAttrs_list PySem.F.slot_list_append PySem.F.type_list_append mt_append (pe_fld (pv 2) rfl) (pa_cons (pv 3) pa_nil)))))))), ?_⟩), b⟩
  · obtain ⟨_, r, _, _, _, _, _, _, _, _, _, rfl, _⟩ := h; rfl
  · obtain ⟨F0, r, p, pl, g, fs, lv, M, x, L, i, rfl, hp, hpl, hb, hb2, R, q1, q2⟩ := h
    unfold endPieceL at q1 q2
    rw [countLoop_eq] at q1 q2
    refine ⟨_, rfl, rd_last T R ⟨_, rfl, _, rfl, rd_count R (fun e h => q1 e (by rw [h]; rfl)) fun t j ht H1 tv TM hc R1 => ?_⟩⟩
    rw [ht] at q1 q2
    dsimp only at q1 q2
    -- the loop over the counts
    refine ⟨fun m σ H' => ∃ t tv TM fs1, ∃ i1 pl1 : Nat, σ = [some (.ref r), some (.int i), some (.ref x.a), some (.int i1), some tv] ∧ CntM tv t TM ∧ pl1 ≤ p.length ∧ (t ≠ none → p.length - pl1 < m) ∧ RS K c F0 H' r p pl1 g fs1 (lv ++ [x.a]) (TM ++ (lvM c.lv x L ++ M)) ∧
      fs1.length + (p.length - pl1) + (if t = none then 0 else 1) ≤ fs.length + (p.length - pl) ∧ (∀ e, pieceTail L (contd p m t fs1 i1 pl1) = .error e → FltE c F0 E e) ∧
      (∀ fs' pl' L', pieceTail L (contd p m t fs1 i1 pl1) = .ok (fs', pl', L') → ∀ H', RS K c F0 H' r p pl' g fs' (lv ++ [x.a]) (lvM c.lv x L' ++ M) → Q .non H'), ⟨p.length, t, tv, TM, fs, i, j, rfl, hc, ?_, ?_, R1, ?_, q1, q2⟩, ?_⟩
    · cases t with
      | none => have := readCount_none ht; omega
      | some y => exact (readCount_lt hp ht).2.1
    · intro hn
      cases t with
      | none => exact absurd rfl hn
      | some y => have := readCount_lt hp ht; omega
    · cases t with
      | none => have := readCount_none ht; rw [if_pos rfl]; omega
      | some y => have := readCount_lt hp ht; rw [if_neg (fun z => by cases z)]; omega
    rintro m σ H2 ⟨t, tv, TM, fs1, i1, pl1, rfl, hc, hl, hm, R2, hn, w1, w2⟩
    cases t with
    | some y =>
      obtain ⟨m', rfl⟩ : ∃ m', m = m' + 1 := ⟨m - 1, by have := hm (fun z => by cases z); omega⟩
      have tm : ToldM tv (.cnt y.1 y.2) TM := hc
      obtain ⟨ta, rfl, rfl⟩ := hc
      refine ⟨_, rfl, rfl, _, rfl, ?_⟩
      refine if_true_of (c := !decide (V.ref ta = V.non)) rfl ⟨_, fun σ' H' z => ⟨m', Nat.lt_succ_self _, z⟩, ?_⟩
      rw [if_neg (fun z => by cases z)] at hn
      have hsz : Sz fs1.length := Nat.lt_of_le_of_lt (by omega) hb
      refine ⟨_, rfl, rd_meth R2 (by decide +kernel) ⟨_, rfl, (by decide : 1 ≤ sizeLine), fun pa npa => ?_⟩⟩
      have R3 := R2.add npa (.lst [V.int i1])
      refine ⟨_, rfl, F0, r, p, pl1, g, fs1, _, _, .counted, pa, [i1], .ref ta, _, _, rfl, tm, hsz, R3, fun H3 R4 => ?_⟩
      have w1' := w1
      have w2' := w2
      unfold contd at w1' w2'
      dsimp only at w1' w2'
      rw [countLoop_eq] at w1' w2'
      refine ⟨_, rfl, rd_count R4 (fun e h => w1' e (by rw [h]; rfl)) fun t2 j2 ht2 H4 tv2 TM2 hc2 R5 => ?_⟩
      rw [ht2] at w1' w2'
      dsimp only at w1' w2'
      have hfl : (fs1 ++ [(⟨.counted, [i1], .cnt y.1 y.2⟩ : Fm)]).length = fs1.length + 1 := by rw [List.length_append]; rfl
      refine ⟨t2, tv2, TM2, _, fs1.length, j2, rfl, hc2, ?_, ?_, R5, ?_, w1', w2'⟩
      · cases t2 with
        | none => have := readCount_none ht2; omega
        | some y2 => exact (readCount_lt hp ht2).2.1
      · intro hn2
        cases t2 with
        | none => exact absurd rfl hn2
        | some y2 =>
          have := readCount_lt hp ht2
          have := hm (fun z => by cases z)
          omega
      · rw [hfl]
        cases t2 with
        | none => have := readCount_none ht2; rw [if_pos rfl]; omega
        | some y2 => have := readCount_lt hp ht2; rw [if_neg (fun z => by cases z)]; omega
    | none =>
      obtain ⟨rfl, rfl⟩ := hc
      rw [if_pos rfl] at hn
      have hsz : Sz fs1.length := Nat.lt_of_le_of_lt (by omega) hb
      have R3 : RS K c F0 H2 r p pl1 g fs1 (lv ++ [x.a]) (lvM c.lv x L ++ M) := R2
      have w3 := w2 _ _ _ rfl
      refine ⟨_, rfl, rfl, _, rfl, ?_⟩
      refine if_false_of (c := !decide (V.non = V.non)) rfl ?_
      refine ⟨_, rfl, obj_f (R3.get 0 rfl) T.c_Level T.n_Level_turned lv_turned ⟨_, rfl, ?_⟩⟩
      cases ht : L.turned with
      | true =>
        rw [ht] at w3
        refine if_true_of rfl ?_
        refine ⟨_, rfl, rd_meth R3 (by decide +kernel) ⟨_, rfl, (by decide : 1 ≤ sizeLine), fun pa npa => ?_⟩⟩
        refine ⟨F0, r, p, pl1, g, fs1, _, _, .turned, pa, [i1], .non, .non, [], rfl, ⟨rfl, rfl⟩, hsz, R3.add npa (.lst [V.int i1]), fun H3 R4 => ?_⟩
        -- level.turned = False
        refine ⟨_, rfl, x.a, _, x.dx, _, rfl, R4.get 0 rfl, T.c_Level, T.n_Level_turned, (by show 7 < 1000; decide), ?_⟩
        rw [lv_put_turned false]
        have R5 := R4.put 0 (lvO c.lv x { L with turned := false }) rfl
        refine ⟨_, rfl, obj_f (R5.get 0 rfl) T.c_Level T.n_Level_pieces lv_pieces ⟨.inl ⟨rfl, _, SqL.of (R5.get 3 rfl)⟩, _, rfl, x.c, _, _, rfl, rfl, R5.get 3 rfl, by rw [nls_len]; exact hb2.lt, ?_⟩⟩
        have R6 := R5.put 3 (.lst (nls (L.pieces ++ [fs1.length]))) rfl
        rw [← nls_app] at R6
        refine w3 _ ?_
        show RS K c F0 _ r p pl1 g _ (lv ++ [x.a]) ((x.a, lvO c.lv x { L with turned := false }) :: (x.r, .lst (nls L.rows)) :: (x.q, .lst (nls L.parts)) :: (x.c, .lst (nls (L.pieces ++ [fs1.length]))) :: M)
        rw [← nls_app]
        exact R6
      | false =>
        rw [ht] at w3
        refine if_false_of rfl ?_
        refine ⟨_, rfl, obj_f (R3.get 0 rfl) T.c_Level T.n_Level_pieces lv_pieces ⟨.inl ⟨rfl, _, SqL.of (R3.get 3 rfl)⟩, _, rfl, x.c, _, _, rfl, rfl, R3.get 3 rfl, by rw [nls_len]; exact hb2.lt, ?_⟩⟩
        have R6 := R3.put 3 (.lst (nls (L.pieces ++ [i1]))) rfl
        rw [← nls_app] at R6
        refine w3 _ ?_
        show RS K c F0 _ r p pl1 g fs1 (lv ++ [x.a]) ((x.a, lvO c.lv x { L with turned := false }) :: (x.r, .lst (nls L.rows)) :: (x.q, .lst (nls L.parts)) :: (x.c, .lst (nls (L.pieces ++ [i1]))) :: M)
        have eL : lvO c.lv x { L with turned := false } = lvO c.lv x L := by
          unfold lvO; rw [ht]
        rw [eL, ← nls_app]
        exact R6
end
end RM
/-! Part A8: how much a reader holds. -/
namespace PF
open WrPatt
def Lv.Sm (n : Nat) (L : Lv) : Prop := L.rows.length ≤ n ∧ L.parts.length ≤ n ∧ L.pieces.length ≤ n
structure Rd.Sm (p : List Nat) (S : Rd) : Prop where
  pl : S.place ≤ p.length
  fs : S.forms.length ≤ 5 * S.place
  top : S.top.Sm S.place
  below : ∀ L ∈ S.below, L.Sm S.place
  deep : S.below.length ≤ S.place
theorem Lv.Sm.mono {n m : Nat} {L : Lv} (h : L.Sm n) (l : n ≤ m) : L.Sm m := ⟨Nat.le_trans h.1 l, Nat.le_trans h.2.1 l, Nat.le_trans h.2.2 l⟩
theorem start_sm (p : List Nat) : Rd.start.Sm p := ⟨Nat.zero_le _, Nat.le_refl _, ⟨Nat.le_refl _, Nat.le_refl _, Nat.le_refl _⟩, (fun L h => absurd h (List.not_mem_nil)), Nat.le_refl _⟩
theorem countLoop_sm {p : List Nat} (hp : Ok8 p) : ∀ {f : Nat} {fs fs' : List Fm} {i j pl pl' : Nat}, countLoop p f fs i pl = .ok (fs', j, pl') → pl ≤ p.length → pl ≤ pl' ∧ pl' ≤ p.length ∧ fs'.length ≤ fs.length + (pl' - pl)
  | 0, _, _, _, _, _, _, h, _ => by rw [countLoop] at h; cases h
  | f + 1, fs, fs', i, j, pl, pl', h, hl => by
    rw [countLoop] at h
    cases e : readCount p pl with
    | error _ => rw [e] at h; cases h
    | ok y =>
      obtain ⟨t, k⟩ := y
      rw [e] at h
      cases t with
      | none =>
        have := readCount_none e
        cases h
        omega
      | some c =>
        have h1 := readCount_lt hp e
        have h2 := countLoop_sm hp (f := f) h h1.2.1
        rw [List.length_append] at h2
        have : ([⟨.counted, [i], .cnt c.1 c.2⟩] : List Fm).length = 1 := rfl
        omega
theorem turnF_len (t : Bool) (fs : List Fm) (i : Nat) : (turnF t fs i).1.length ≤ fs.length + 1 := by
  unfold turnF
  split
  · rw [List.length_append]; exact Nat.le_refl _
  · exact Nat.le_succ _
theorem groupF_len (k : Option Nat) (fs : List Fm) (i : Nat) : (groupF k fs i).1.length ≤ fs.length + 1 := by
  unfold groupF
  cases k with
  | none => exact Nat.le_succ _
  | some k => show (fs ++ _).length ≤ _; rw [List.length_append]; exact Nat.le_refl _
theorem keepJoined_le {kd : Kd} {fs : List Fm} : ∀ {js : List Nat}, (keepJoined kd fs js).1.length ≤ fs.length + 1
  | [] => by show (fs ++ _).length ≤ _; rw [List.length_append]; exact Nat.le_refl _
  | [_] => Nat.le_succ _
  | _ :: _ :: _ => by show (fs ++ _).length ≤ _; rw [List.length_append]; exact Nat.le_refl _
theorem endPiece_sm {p : List Nat} (hp : Ok8 p) {i n : Nat} {S S' : Rd} (h : endPiece p i S = .ok S') (pl : S.place ≤ p.length) (hn : n < S.place) (fs : S.forms.length + 1 ≤ 5 * S.place) (top : S.top.Sm n) (below : ∀ L ∈ S.below, L.Sm n) (deep : S.below.length ≤ n) : S'.Sm p := by
  unfold endPiece at h
  cases e : countLoop p (p.length + 1) S.forms i S.place with
  | error _ => rw [e] at h; cases h
  | ok y =>
    obtain ⟨fs', j, pl'⟩ := y
    rw [e] at h
    have b := countLoop_sm hp e pl
    have t := turnF_len S.top.turned fs' j
    cases h
    refine ⟨b.2.1, ?_, ⟨?_, ?_, ?_⟩, fun L hL => (below L hL).mono (by show n ≤ pl'; omega), by show S.below.length ≤ pl'; omega⟩
    · show (turnF S.top.turned fs' j).1.length ≤ 5 * pl'
      omega
    · have := top.1; show S.top.rows.length ≤ pl'; omega
    · have := top.2.1; show S.top.parts.length ≤ pl'; omega
    · have := top.2.2; show (S.top.pieces ++ _).length ≤ pl'; rw [List.length_append, List.length_singleton]; omega
theorem readEscAtom_lt {p : List Nat} {i j : Nat} {fm : Fm} (h : readEscAtom p i = .ok (fm, j)) : i < j ∧ j ≤ p.length := by
  unfold readEscAtom at h
  split at h
  · rename_i hc; cases h; exact ⟨Nat.lt_succ_self _, lt_of_now (by omega)⟩
  split at h
  · rename_i hc; cases h; exact ⟨Nat.lt_succ_self _, lt_of_now (by omega)⟩
  cases e : readEscaped p i with
  | error _ => rw [e] at h; cases h
  | ok y => obtain ⟨v, k⟩ := y; rw [e] at h; cases h; exact readEscaped_lt e
theorem readAtom_lt {p : List Nat} {i j : Nat} {fm : Fm} (h : readAtom p i = .ok (fm, j)) : i < j ∧ j ≤ p.length := by
  unfold readAtom at h
  split at h
  · cases e : readSet p (i + 1) with
    | error _ => rw [e] at h; cases h
    | ok y => obtain ⟨v, k⟩ := y; rw [e] at h; cases h; have := readSet_lt e; omega
  split at h
  · cases h; exact ⟨Nat.lt_succ_self _, lt_of_now (by omega)⟩
  split at h
  · cases h; exact ⟨Nat.lt_succ_self _, lt_of_now (by omega)⟩
  split at h
  · cases h; exact ⟨Nat.lt_succ_self _, lt_of_now (by omega)⟩
  split at h
  · have := readEscAtom_lt h; omega
  cases e : readPlain notPlain p i with
  | error _ => rw [e] at h; cases h
  | ok y => obtain ⟨v, k⟩ := y; rw [e] at h; cases h; exact readPlain_lt e
theorem step_sm {p : List Nat} (hp : Ok8 p) {S S' : Rd} (s : S.Sm p) (hlt : S.place < p.length) (h : step p S = .ok S') : S'.Sm p := by
  have up : ∀ {n : Nat}, S.place ≤ n → (∀ L ∈ S.below, L.Sm n) := fun l L hL => (s.below L hL).mono l
  unfold step at h
  split at h
  · -- an opening bracket
    unfold openBracket at h
    split at h
    · rename_i hc
      have : S.place + 1 < p.length := lt_of_now (by omega)
      have := s.fs
      have := s.deep
      cases h
      refine ⟨by show S.place + 2 ≤ _; omega, by show S.forms.length ≤ 5 * (S.place + 2); omega, ⟨Nat.zero_le _, Nat.zero_le _, Nat.zero_le _⟩, fun L hL => ?_, by show S.below.length + 1 ≤ S.place + 2; omega⟩
      rcases List.mem_cons.mp hL with e | e
      · rw [e]; exact s.top.mono (by show S.place ≤ S.place + 2; omega)
      · exact up (by show S.place ≤ S.place + 2; omega) L e
    · split at h
      · cases h
      · have := s.fs
        have := s.deep
        cases h
        refine ⟨hlt, by show S.forms.length ≤ 5 * (S.place + 1); omega, ⟨Nat.zero_le _, Nat.zero_le _, Nat.zero_le _⟩, fun L hL => ?_, by show S.below.length + 1 ≤ S.place + 1; omega⟩
        rcases List.mem_cons.mp hL with e | e
        · rw [e]; exact s.top.mono (Nat.le_succ _)
        · exact up (Nat.le_succ _) L e
  split at h
  · -- an atom
    unfold atomStep at h
    cases e : readAtom p S.place with
    | error _ => rw [e] at h; cases h
    | ok y =>
      obtain ⟨fm, j⟩ := y
      have b := readAtom_lt e
      rw [e] at h
      have := s.fs
      refine endPiece_sm hp (n := S.place) h b.2 b.1 ?_ s.top s.below s.deep
      show (S.forms ++ [fm]).length + 1 ≤ 5 * j
      rw [List.length_append, List.length_singleton]
      omega
  split at h
  · cases h
    have := s.fs
    have := s.deep
    exact ⟨hlt, by show S.forms.length ≤ 5 * (S.place + 1); omega, s.top.mono (Nat.le_succ _), up (Nat.le_succ _), by show S.below.length ≤ S.place + 1; omega⟩
  split at h
  · cases h
    have := s.fs
    have := s.deep
    have h1 : (endPartL S.groups S.forms S.top).1.length ≤ S.forms.length + 1 := keepJoined_le
    have h2 : (endRowL S.groups S.forms S.top).1.length ≤ (endPartL S.groups S.forms S.top).1.length + 1 := keepJoined_le
    refine ⟨hlt, by show (endRowL S.groups S.forms S.top).1.length ≤ 5 * (S.place + 1); omega, ⟨?_, Nat.zero_le _, Nat.zero_le _⟩, up (Nat.le_succ _), by show S.below.length ≤ S.place + 1; omega⟩
    have := s.top.1
    show (S.top.rows ++ _).length ≤ S.place + 1
    rw [List.length_append, List.length_singleton]
    omega
  split at h
  · unfold passBoth at h
    split at h
    · cases h
    · cases h
      have := s.fs
      have := s.deep
      have h1 : (endPartL S.groups S.forms S.top).1.length ≤ S.forms.length + 1 := keepJoined_le
      refine ⟨hlt, by show (endPartL S.groups S.forms S.top).1.length ≤ 5 * (S.place + 1); omega, ⟨?_, ?_, Nat.zero_le _⟩, up (Nat.le_succ _), by show S.below.length ≤ S.place + 1; omega⟩
      · have := s.top.1; show S.top.rows.length ≤ S.place + 1; omega
      · have := s.top.2.1
        show (S.top.parts ++ _).length ≤ S.place + 1
        rw [List.length_append, List.length_singleton]
        omega
  · unfold closeBracket at h
    cases eb : S.below with
    | nil => rw [eb] at h; cases h
    | cons l r =>
      rw [eb] at h
      dsimp only at h
      have := s.fs
      have hd := s.deep
      rw [eb] at hd
      have h1 : (endPartL S.groups S.forms S.top).1.length ≤ S.forms.length + 1 := keepJoined_le
      have h2 : (endRowL S.groups S.forms S.top).1.length ≤ (endPartL S.groups S.forms S.top).1.length + 1 := keepJoined_le
      have h3 : (endLevelL S.groups S.forms S.top).1.length ≤ (endRowL S.groups S.forms S.top).1.length + 1 := keepJoined_le
      have h4 := groupF_len S.top.group (endLevelL S.groups S.forms S.top).1 (endLevelL S.groups S.forms S.top).2.2
      have hl : ∀ L ∈ l :: r, L.Sm S.place := by rw [← eb]; exact s.below
      refine endPiece_sm hp (n := S.place) h hlt (Nat.lt_succ_self _) ?_ (hl l List.mem_cons_self) (fun L hL => hl L (List.mem_cons_of_mem _ hL)) ?_
      · show (groupF S.top.group (endLevelL S.groups S.forms S.top).1 (endLevelL S.groups S.forms S.top).2.2).1.length + 1 ≤ 5 * (S.place + 1)
        omega
      · show r.length ≤ S.place
        have : (l :: r).length = r.length + 1 := rfl
        omega
end PF
/-! Part CE: &, brackets. -/
namespace RM
open PySem PySem.Spec PyProof.Rows L2 PF
def spPassBoth (K : PySem.W.Frag) (c : Cs) : Sp := fun vs H Q E => ∃ F r p pl g fs lv M x L, vs = [.ref r, .ref x.a] ∧ Sz fs.length ∧ Sz L.parts.length ∧ RS K c F H r p pl g fs lv (lvM c.lv x L ++ M) ∧
  (L.gbp < g → FltE c F E (4, pl)) ∧ (¬ L.gbp < g → ∀ H' x', x'.a = x.a → RS K c F H' r p (pl + 1) g (endPartL g fs L).1 lv (lvM c.lv x' (endPartL g fs L).2 ++ M) → Q .non H')
/-- a def over the whole state, with its mirror -/
def spState (K : PySem.W.Frag) (c : Cs) (mir : List Nat → Rd → Except Flt Rd) : Sp := fun vs H Q E => ∃ F r p S, vs = [.ref r] ∧ Ok8 p ∧ p.length ≤ 300 ∧ S.Sm p ∧ S.place < p.length ∧ RdAt K c F H r p S ∧
  (∀ e, mir p S = .error e → FltE c F E e) ∧ (∀ S', mir p S = .ok S' → ∀ H', RdAt K c F H' r p S' → Q .non H')
theorem sm_sz {p : List Nat} {S : Rd} (s : S.Sm p) (hp : p.length ≤ 300) : Sz (S.forms.length + p.length + 10) ∧ Sz S.top.rows.length ∧ Sz S.top.parts.length ∧ Sz S.top.pieces.length := by
  have := s.pl
  have := s.fs
  have := s.top.1
  have := s.top.2.1
  have := s.top.2.2
  unfold Sz
  omega
theorem lvs_eq (x : LvA) (st : List (LvA × Lv)) : ((x :: st.map (·.1)).map (·.a)).reverse = ((st.map (·.1)).map (·.a)).reverse ++ [x.a] := by
  rw [List.map_cons, List.reverse_cons]
section
variable {P : Program} {w : World} {K : PySem.W.Frag} {mg : Str → Option Value} {base : Heap} {c : Cs} {fI : Addr}
theorem ok_passBoth (T : Txt K mg c fI) : MOk P w K mg base (L2.CX P w) 6 c.rd "pass_both" ["self", "level"] (spPassBoth K c) := by
  obtain ⟨f, fd, m, F, b⟩ := T.t_Reader_pass_both
  obtain ⟨_, _, M_Reader_end_part, G_Reader_end_part, B_Reader_end_part⟩ := ok_endPart (P := P) (w := w) (base := base) T
  refine ⟨f, fd, m, F.okX sc_Reader_pass_both (fun vs H Q E h => ?_) (fun cdv A outer s H vs Q E hr h => ⟨_, pss_cons (ps_if (pt_cmpR op_gt (pe_fld (pv 0) rfl) (pe_fld (pv 1) rfl) (nomark _)) (pss_one (ps_raiseFlt rfl T.flt hr (takes_of rfl rfl rfl rfl) (pa_cons (pe_globI rfl T.g_WRONG_GROUP) (pa_cons (pe_fld (pv 0) rfl) pa_nil)))) pss_nil) (pss_cons (ps_fldaug (pv 0) pe_int in_add) (pss_one (ps_expr (pe_meth (pv 0) T.c_Reader M_Reader_end_part G_Reader_end_part (hr.mono (by decide)) B_Reader_end_part .nil pass0 (pa_cons (pv 1) pa_nil))))), ?_⟩), b⟩
  · obtain ⟨_, r, _, _, _, _, _, _, _, _, rfl, _⟩ := h; rfl
  · obtain ⟨F0, r, p, pl, g, fs, lv, M, x, L, rfl, hb, hb2, R, q1, q2⟩ := h
    refine ⟨_, rfl, rd_f_groups T R ⟨_, rfl, obj_f (R.get 0 rfl) T.c_Level T.n_Level_groups_before_part lv_groups_before_part ⟨_, _, rfl, rfl, _, rfl, ?_⟩⟩⟩
    by_cases c1 : L.gbp < g
    · refine if_true_of (decide_eq_true (by omega)) ?_
      exact ⟨_, rfl, rd_f_place T R ⟨_, _, rfl, fun d nd => (q1 c1).at_ R.stands nd⟩⟩
    · refine if_false_of (decide_eq_false (by omega)) ?_
      refine rd_inc T R (by rfl) fun H1 R1 => ?_
      exact ⟨_, rfl, rd_meth R1 (by decide +kernel) ⟨_, rfl, F0, r, p, pl + 1, g, fs, lv, M, x, L, rfl, hb, hb2, R1, fun H' x' hx R' => q2 c1 H' x' hx R'⟩⟩
/-- a level more -/
theorem push_lv {F H : Hp} {r : Addr} {p : List Nat} {pl g : Nat} {fs : List Fm} {lv : List Addr} {M : Mem} {Q : VK} {sh : Bool} {g' : Nat} {k : Option Nat} (T : Txt K mg c fI) (R : RS K c F H r p pl g fs lv M) (hl : Sz lv.length)
    (q : ∀ H' y, RS K c F H' r p pl g fs (lv ++ [y.a]) (lvM c.lv y (Lv.new sh g' k) ++ M) → Q .non H') :
    ∃ a C dx fs v, V.ref r = .ref a ∧ H a = some (.ins C dx fs) ∧ Cls K C ∧ NoAttr K C "levels" ∧ fs.lookup ("levels" : Str) = some v ∧ tyV K "list" v H ∧
      (∀ x dx, H x = none → H dx = none → dx ≠ x → spLevelInit c [.ref x, .bl sh, .int g', optI k] (upd (upd H dx (.own x)) x (.ins c.lv dx [])) (fun u H2 => u = .non ∧ rAppend v [.ref x] H2 Q) E0) := by
  obtain ⟨G, dx, pl', fl, ll, fas, s, f, hp, o⟩ := R
  refine ⟨_, _, _, _, _, rfl, o.get 0 rfl, T.c_Reader, T.n_Reader_levels, rd_levels, .inl ⟨rfl, _, SqL.of (o.get 2 rfl)⟩, fun xA dA nx nd ne => ?_⟩
  have o1 := (o.add nd (.own xA)).add (p := xA) (by rw [upd_ne (Ne.symm ne)]; exact nx) (.ins c.lv dA [])
  have o2 := (o1.perm (List.Perm.swap _ _ _)).drop
  refine ⟨G, _, xA, dA, sh, g', k, rfl, o2, fun H1 y hy o3 => ⟨rfl, ll, _, _, rfl, rfl, o3.get 6 rfl, by rw [List.length_map]; exact hl.lt, ?_⟩⟩
  have o4 := o3.put 6 (.lst ((lv ++ [y.a]).map V.ref)) rfl
  have e : (lv ++ [y.a]).map V.ref = lv.map V.ref ++ [V.ref xA] := by rw [List.map_append, hy]; rfl
  rw [← e]
  refine q _ y ⟨G, dx, pl', fl, ll, fas, s, f, hp, o4.perm ?_⟩
  exact (List.perm_append_comm (l₁ := lvM c.lv y (Lv.new sh g' k)) (l₂ := [(r, rdO c.rd dx pl' fl ll pl g), (fl, .lst (fas.map V.ref)), (ll, .lst ((lv ++ [y.a]).map V.ref))])).append_right M
theorem ok_open (T : Txt K mg c fI) : MOk P w K mg base (L2.CX P w) 3 c.rd "open_bracket" ["self"] (spState K c openBracket) := by
  obtain ⟨f, fd, m, F, b⟩ := T.t_Reader_open_bracket
  obtain ⟨_, _, M_Reader_passes, G_Reader_passes, B_Reader_passes⟩ := ok_passes (P := P) (w := w) (base := base) T
  obtain ⟨_, _, M_Level_bars_groups, G_Level_bars_groups, B_Level_bars_groups⟩ := ok_bars (P := P) (w := w) (base := base) T
  obtain ⟨_, _, M_Level, G_Level, B_Level⟩ := ok_level (P := P) (w := w) (base := base) T
  refine ⟨f, fd, m, F.okX sc_Reader_open_bracket (fun vs H Q E h => ?_) (fun cdv A outer s H vs Q E hr h => ⟨_, pss_cons (ps_set (i := 1) sc_Reader_open_bracket.nd rfl (Or.inl rfl) (pe_fld (pv 0) rfl)) (pss_cons (ps_set (i := 2) sc_Reader_open_bracket.nd rfl (Or.inl rfl) (pe_meth0 (pe_ix ix_list (pe_fld (pv 0) rfl) (pe_un un_neg pe_int) (fun _ _ => rfl)) T.c_Level M_Level_bars_groups G_Level_bars_groups (hr.mono (by decide)) B_Level_bars_groups .nil pass0)) (pss_cons (ps_fldaug (pv 0) pe_int in_add) (pss_cons (ps_set (i := 3) sc_Reader_open_bracket.nd rfl (Or.inl rfl) pe_non) (pss_cons (ps_if (pt_not (pt_val (pe_meth (pv 0) T.c_Reader M_Reader_passes G_Reader_passes (hr.mono (by decide)) B_Reader_passes .nil pass0 (pa_cons pe_str pa_nil)))) (pss_cons (ps_if (PW.pt (pw_or (pt_val (pv 2)) (pw_or1 (pt_cmpR op_eq (pe_fld (pv 0) rfl) (pe_globI rfl T.g_MOST_GROUPS) (nomark _))))) (pss_one (ps_raiseFlt rfl T.flt hr (takes_of rfl rfl rfl rfl) (pa_cons (pe_globI rfl T.g_WRONG_GROUP) (pa_cons (pv 1) pa_nil)))) pss_nil) (pss_cons (ps_fldaug (pv 0) pe_int in_add) (pss_one (ps_set (i := 3) sc_Reader_open_bracket.nd rfl (Or.inl rfl) (pe_fld (pv 0) rfl))))) pss_nil) (pss_one (ps_expr (pe_bm PySem.F.plainAttrs_list PySem.F.slot_list_append PySem.F.type_list_append mt_append (pe_fld (pv 0) rfl) (pa_cons (pe_make M_Level G_Level (hr.mono (by decide)) rfl T.g_Level B_Level .nil pass0 (pa_cons (pv 2) (pa_cons (pe_fld (pv 0) rfl) (pa_cons (pv 3) pa_nil)))) pa_nil)))))))), ?_⟩), b⟩
  · obtain ⟨_, r, _, _, rfl, _⟩ := h; rfl
  · obtain ⟨F0, r, p, S, rfl, hp, h300, sm, hlt, ⟨x, st, hst, R⟩, q1, q2⟩ := h
    rw [lvs_eq] at R
    have hdeep : Sz ((((st.map (·.1)).map (·.a)).reverse ++ [x.a]).length) := by
      have hpl := sm.pl
      rw [List.length_append, List.length_reverse, List.length_map, List.length_map, List.length_singleton]
      unfold Sz
      have hd := sm.deep
      rw [← hst, List.length_map] at hd
      omega
    -- what's kept of the state with a level more
    have fin : ∀ {H' : Hp} {y : LvA} {place groups : Nat} {k : Option Nat}, RS K c F0 H' r p place groups S.forms (((st.map (·.1)).map (·.a)).reverse ++ [x.a] ++ [y.a]) (lvM c.lv y (Lv.new S.top.bars groups k) ++ (lvM c.lv x S.top ++ stM c.lv st)) →
        RdAt K c F0 H' r p ⟨place, groups, S.forms, Lv.new S.top.bars groups k, S.top :: S.below⟩ := fun {H' y place groups k} R' =>
      ⟨y, (x, S.top) :: st, by rw [List.map_cons, hst], by rw [lvs_eq, List.map_cons, lvs_eq]; exact R'⟩
    unfold openBracket at q1 q2
    refine ⟨_, rfl, rd_f_place T R ?_⟩
    refine ⟨_, rfl, rd_last T R (obj_m (R.get 0 rfl) (lv_none (by decide +kernel)) ⟨x, S.top, rfl, R.get 0 rfl, R.get 2 rfl, ?_⟩)⟩
    refine rd_inc T R (by rfl) fun H1 R1 => ?_
    refine ⟨_, rfl, rd_passes R1 (k := 58) ⟨by decide +kernel, by decide +kernel⟩ (fun c1 H2 R2 => ⟨_, rfl, if_false_of rfl ?_⟩) fun c1 => ⟨_, rfl, if_true_of rfl ?_⟩⟩
    · refine ⟨_, rfl, ?_⟩
      obtain ⟨a, C, dx, fs', v, e1, e2, e3, e4, e5, e6, h⟩ := push_lv (sh := S.top.bars) (g' := S.groups) (k := none) (Q := fun _ H' => Q .non H') T R2 hdeep fun H' y R' => q2 _ (if_pos c1) H' (fin R')
      exact ⟨a, C, dx, fs', v, e1, e2, e3, e4, e5, e6, _, rfl, _, rfl, rd_f_groups T R2 ⟨_, rfl, h⟩⟩
    · rw [if_neg c1] at q1
      have q2 := fun S' h => q2 S' ((if_neg c1).trans h)
      refine ⟨_, rfl, _, rfl, ?_⟩
      have bad : S.top.bars = true ∨ S.groups = 32 → ∀ d, H1 d = none → E (.ref c.fl) (some d) (upd H1 d (.xd (flt (.int (4 : Nat)) (.int S.place)))) := fun h d nd => (q1 (4, S.place) (if_pos h)).at_ R1.stands nd
      cases eb : S.top.bars with
      | true => exact if_true_of rfl (if_true_of rfl ⟨_, rfl, _, _, rfl, bad (.inl eb)⟩)
      | false =>
        refine if_false_of rfl ⟨_, rfl, rd_f_groups T R1 ⟨rfl, _, rfl, ?_⟩⟩
        have e32 : decide (V.int S.groups = V.int 32) = decide (S.groups = 32) := eq_nat S.groups 32
        rw [e32]
        by_cases c2 : S.groups = 32
        · refine if_true_of (decide_eq_true c2) ?_
          exact ⟨_, rfl, _, _, rfl, bad (.inr c2)⟩
        · refine if_false_of (decide_eq_false c2) ?_
          have q2 := fun S' h => q2 S' ((if_neg (by intro z; rcases z with z | z; rw [eb] at z; cases z; exact c2 z)).trans h)
          refine rd_inc_groups T R1 (by rfl) fun H2 R2 => ?_
          refine ⟨_, rfl, rd_f_groups T R2 ?_⟩
          refine ⟨_, rfl, ?_⟩
          obtain ⟨a, C, dx, fs', v, e1, e2, e3, e4, e5, e6, h⟩ := push_lv (sh := S.top.bars) (g' := S.groups + 1) (k := some (S.groups + 1)) (Q := fun _ H' => Q .non H') T R2 hdeep fun H' y R' => q2 _ rfl H' (fin R')
          rw [eb] at h
          exact ⟨a, C, dx, fs', v, e1, e2, e3, e4, e5, e6, _, rfl, _, rfl, rd_f_groups T R2 ⟨_, rfl, h⟩⟩
end
end RM
/-! Part CF: a closing bracket; a step. -/
namespace RM
open PySem PySem.Spec PyProof.Rows L2 PF
theorem endLevelL_len {g : Nat} {fs : List Fm} {L : Lv} : (endLevelL g fs L).1.length ≤ fs.length + 3 := by
  have h2 : (endRowL g fs L).1.length ≤ fs.length + 2 := endRowL_len
  have h3 : (endLevelL g fs L).1.length ≤ (endRowL g fs L).1.length + 1 := keepJoined_le
  omega
section
variable {P : Program} {w : World} {K : PySem.W.Frag} {mg : Str → Option Value} {base : Heap} {c : Cs} {fI : Addr}
/-- a level less -/
theorem pop_lv {F H : Hp} {r : Addr} {p : List Nat} {pl g : Nat} {fs : List Fm} {lv : List Addr} {M : Mem} {Q : VK} {x : Addr} (T : Txt K mg c fI) (R : RS K c F H r p pl g fs (lv ++ [x]) M) (q : ∀ H', RS K c F H' r p pl g fs lv M → Q (.ref x) H') :
    ∃ a C dx fs v, V.ref r = .ref a ∧ H a = some (.ins C dx fs) ∧ Cls K C ∧ NoAttr K C "levels" ∧ fs.lookup ("levels" : Str) = some v ∧ tyV K "list" v H ∧ rPop v [] H Q := by
  obtain ⟨G, dx, pl', fl, ll, fas, s, f, hp, o⟩ := R
  refine ⟨_, _, _, _, _, rfl, o.get 0 rfl, T.c_Reader, T.n_Reader_levels, rd_levels, .inl ⟨rfl, _, SqL.of (o.get 2 rfl)⟩, ll, _, .ref x, rfl, rfl, o.get 2 rfl, ?_, ?_⟩
  · rw [List.map_append, List.length_append]
    show (lv.map V.ref ++ [V.ref x])[(lv.map V.ref).length + 1 - 1]? = _
    rw [Nat.add_sub_cancel, List.getElem?_append_right (Nat.le_refl _), Nat.sub_self]
    rfl
  · have o2 := o.put 2 (.lst (lv.map V.ref)) rfl
    have e : ((lv ++ [x]).map V.ref).dropLast = lv.map V.ref := by rw [List.map_append]; exact List.dropLast_concat
    rw [e]
    exact q _ ⟨G, dx, pl', fl, ll, fas, s, f, hp, o2⟩
theorem ok_close (T : Txt K mg c fI) : MOk P w K mg base (L2.CX P w) 8 c.rd "close_bracket" ["self"] (spState K c closeBracket) := by
  obtain ⟨f, fd, m, F, b⟩ := T.t_Reader_close_bracket
  obtain ⟨_, _, M_Reader_keep, G_Reader_keep, B_Reader_keep⟩ := ok_keep (P := P) (w := w) (base := base) T
  obtain ⟨_, _, M_Reader_end_level, G_Reader_end_level, B_Reader_end_level⟩ := ok_endLevel (P := P) (w := w) (base := base) T
  obtain ⟨_, _, M_Reader_end_piece, G_Reader_end_piece, B_Reader_end_piece⟩ := ok_endPiece (P := P) (w := w) (base := base) T
  refine ⟨f, fd, m, F.okX sc_Reader_close_bracket (fun vs H Q E h => ?_) (fun cdv A outer s H vs Q E hr h => ⟨_, pss_cons (ps_if (pt_cmpR op_eq (pe_callB call_len_seq (by rfl) T.b_len PySem.boot_len (pa_cons (pe_fld (pv 0) rfl) pa_nil)) pe_int (nomark _)) (pss_one (ps_raiseFlt rfl T.flt hr (takes_of rfl rfl rfl rfl) (pa_cons (pe_globI rfl T.g_CANNOT_STAND) (pa_cons (pe_fld (pv 0) rfl) pa_nil)))) pss_nil) (pss_cons (ps_fldaug (pv 0) pe_int in_add) (pss_cons (ps_set (i := 1) sc_Reader_close_bracket.nd rfl (Or.inl rfl) (pe_bm0 PySem.F.plainAttrs_list PySem.F.slot_list_pop PySem.F.type_list_pop mt_pop (pe_fld (pv 0) rfl))) (pss_cons (ps_set (i := 2) sc_Reader_close_bracket.nd rfl (Or.inl rfl) (pe_meth (pv 0) T.c_Reader M_Reader_end_level G_Reader_end_level (hr.mono (by decide)) B_Reader_end_level .nil pass0 (pa_cons (pv 1) pa_nil))) (pss_cons (ps_if (pt_cmpR op_notN (pe_fld (pv 1) rfl) pe_non (nomark _)) (pss_one (ps_set (i := 2) sc_Reader_close_bracket.nd rfl (Or.inl rfl) (pe_meth (pv 0) T.c_Reader M_Reader_keep G_Reader_keep (hr.mono (by decide)) B_Reader_keep .nil pass0 (pa_cons (pe_globS rfl T.g_GROUP) (pa_cons (pe_lst (pa_cons (pv 2) pa_nil)) (pa_cons (pe_fld (pv 1) rfl) pa_nil)))))) pss_nil) (pss_one (ps_expr (pe_meth (pv 0) T.c_Reader M_Reader_end_piece G_Reader_end_piece (hr.mono (by decide)) B_Reader_end_piece .nil (passes_call (takes_of rfl rfl rfl rfl) fun _ _ _ _ z => z) (pa_cons (pv 2) pa_nil)))))))), ?_⟩), b⟩
  · obtain ⟨_, r, _, _, rfl, _⟩ := h; rfl
  · obtain ⟨F0, r, p, S, rfl, hp, h300, sm, hlt, ⟨x, st, hst, R⟩, q1, q2⟩ := h
    obtain ⟨z1, z2, z3, z4⟩ := sm_sz sm h300
    rw [lvs_eq] at R
    unfold closeBracket at q1 q2
    refine ⟨_, rfl, rd_f_levels T R fun ll hl => ⟨_, _, rfl, .inl (SqL.of hl), rfl, _, rfl, ?_⟩⟩
    have el : ((((st.map (·.1)).map (·.a)).reverse ++ [x.a]).map V.ref).length = st.length + 1 := by
      rw [List.length_map, List.length_append, List.length_reverse, List.length_map, List.length_map]; rfl
    have e1 : decide (V.int (((((st.map (·.1)).map (·.a)).reverse ++ [x.a]).map V.ref).length : Nat) = V.int 1) = decide (st.length + 1 = 1) := by
      rw [el]; exact eq_nat (st.length + 1) 1
    rw [e1]
    match st, hst, R with
    | [], hst, R =>
      rw [← hst] at q1
      refine if_true_of rfl ?_
      exact ⟨_, rfl, rd_f_place T R ⟨_, _, rfl, fun d nd => (q1 (1, S.place) rfl).at_ R.stands nd⟩⟩
    | (y, Ly) :: st', hst, R =>
      rw [← hst, List.map_cons] at q1 q2
      refine if_false_of (decide_eq_false (by rw [List.length_cons]; omega)) ?_
      refine rd_inc T R (by rfl) fun H1 R1 => ?_
      refine ⟨_, rfl, pop_lv T R1 fun H2 R2 => ?_⟩
      -- within = self.end_level(level)
      refine ⟨_, rfl, rd_meth R2 (by decide +kernel) ⟨_, rfl, F0, r, p, S.place + 1, S.groups, S.forms, _, _, x, S.top, rfl, ?_, z3, z2, R2, fun H3 x' L' hx hg R3 => ?_⟩⟩
      · exact Nat.lt_of_le_of_lt (by omega) z1
      have hfl : (endLevelL S.groups S.forms S.top).1.length ≤ S.forms.length + 3 := endLevelL_len
      have hLy : Ly.Sm S.place := sm.below Ly (by rw [← hst]; exact List.mem_cons_self)
      have hpl := sm.pl
      have hfs := sm.fs
      dsimp only at q1 q2
      rw [endPiece_eq] at q1 q2
      -- self.end_piece(within), the forms and the whole told
      have tail : ∀ (wv : Nat) (fsz : List Fm) (H4 : Hp) (M4 : Mem), fsz.length ≤ S.forms.length + 4 → groupF S.top.group (endLevelL S.groups S.forms S.top).1 (endLevelL S.groups S.forms S.top).2.2 = (fsz, wv) → RS K c F0 H4 r p (S.place + 1) S.groups fsz ((((y, Ly) :: st').map (·.1)).map (·.a)).reverse (lvM c.lv y Ly ++ stM c.lv st') →
          spEndPiece K c [.ref r, .int wv] H4 (fun _ H' => Q .non H') E := by
        intro wv fsz H4 _ hz hG R4
        rw [hG] at q1 q2
        dsimp only at q1 q2
        rw [List.map_cons, lvs_eq] at R4
        refine ⟨F0, r, p, S.place + 1, S.groups, fsz, _, _, y, Ly, wv, rfl, hp, hlt, ?_, ?_, R4, fun e h => q1 e (by rw [h]), fun fs' pl' L' h H' R' => q2 _ (by rw [h]) H' ⟨y, st', rfl, by rw [lvs_eq]; exact R'⟩⟩
        · unfold Sz; omega
        · have := hLy.2.2; unfold Sz; omega
      refine ⟨_, rfl, obj_f (R3.get 0 rfl) T.c_Level T.n_Level_group lv_group ⟨rfl, _, rfl, ?_⟩⟩
      rw [hg]
      cases eg : S.top.group with
      | none =>
        refine if_false_of rfl ?_
        exact ⟨_, rfl, rd_meth R3 (by decide +kernel) ⟨_, rfl, tail _ _ _ [] (by omega) (by rw [eg]; rfl) R3.drop⟩⟩
      | some k =>
        refine if_true_of rfl ?_
        refine ⟨_, rfl, rd_meth R3 (by decide +kernel) ⟨_, rfl, (by decide : 1 ≤ sizeLine), fun pa npa => ?_⟩⟩
        have R4 := R3.add npa (.lst [V.int (endLevelL S.groups S.forms S.top).2.2])
        refine ⟨_, rfl, obj_f (R4.get 1 rfl) T.c_Level T.n_Level_group lv_group ?_⟩
        refine ⟨F0, r, p, S.place + 1, S.groups, _, _, _, .group, pa, [(endLevelL S.groups S.forms S.top).2.2], optI L'.group, .num k, [], rfl, ⟨by rw [hg, eg]; rfl, rfl⟩, by omega, R4, fun H5 R5 => ?_⟩
        refine ⟨_, rfl, rd_meth R5 (by decide +kernel) ⟨_, rfl, tail _ _ _ [] ?_ (by rw [eg]; rfl) R5.drop⟩⟩
        rw [List.length_append]
        exact Nat.add_le_add_right hfl 1
end
end RM
/-! Part CG: a step of the reader. -/
namespace RM
open PySem PySem.Spec PyProof.Rows L2 PF
section
variable {P : Program} {w : World} {K : PySem.W.Frag} {mg : Str → Option Value} {base : Heap} {c : Cs} {fI : Addr}
theorem ok_step (T : Txt K mg c fI) : MOk P w K mg base (L2.CX P w) 9 c.rd "read_step" ["self"] (spState K c step) := by
  obtain ⟨f, fd, m, F, b⟩ := T.t_Reader_read_step
  obtain ⟨_, _, M_Reader_now, G_Reader_now, B_Reader_now⟩ := ok_now (P := P) (w := w) (base := base) T
  obtain ⟨_, _, M_Reader_passes, G_Reader_passes, B_Reader_passes⟩ := ok_passes (P := P) (w := w) (base := base) T
  obtain ⟨_, _, g_among, k_among, G_among, B_among⟩ := ok_among (P := P) (w := w) (base := base) T
  obtain ⟨_, _, M_Reader_open_bracket, G_Reader_open_bracket, B_Reader_open_bracket⟩ := ok_open (P := P) (w := w) (base := base) T
  obtain ⟨_, _, M_Reader_close_bracket, G_Reader_close_bracket, B_Reader_close_bracket⟩ := ok_close (P := P) (w := w) (base := base) T
  obtain ⟨_, _, M_Reader_read_atom, G_Reader_read_atom, B_Reader_read_atom⟩ := ok_atom (P := P) (w := w) (base := base) T
  obtain ⟨_, _, M_Reader_end_piece, G_Reader_end_piece, B_Reader_end_piece⟩ := ok_endPiece (P := P) (w := w) (base := base) T
  obtain ⟨_, _, M_Reader_end_row, G_Reader_end_row, B_Reader_end_row⟩ := ok_endRow (P := P) (w := w) (base := base) T
  obtain ⟨_, _, M_Reader_pass_both, G_Reader_pass_both, B_Reader_pass_both⟩ := ok_passBoth (P := P) (w := w) (base := base) T
  refine ⟨f, fd, m, F.okX sc_Reader_read_step (fun vs H Q E h => ?_) (fun cdv A outer s H vs Q E hr h => ⟨_, pss_cons (ps_set (i := 1) sc_Reader_read_step.nd rfl (Or.inl rfl) (pe_ix ix_list (pe_fld (pv 0) rfl) (pe_un un_neg pe_int) (fun _ _ => rfl))) (pss_one (ps_if (pt_cmpR op_eq (pe_meth0 (pv 0) T.c_Reader M_Reader_now G_Reader_now (hr.mono (by decide)) B_Reader_now .nil pass0) (pe_callB call_ord (by rfl) T.b_ord (by decide +kernel) (pa_cons pe_str pa_nil)) (nomark _)) (pss_one (ps_expr (pe_meth0 (pv 0) T.c_Reader M_Reader_open_bracket G_Reader_open_bracket (hr.mono (by decide)) B_Reader_open_bracket .nil (passes_call (takes_of rfl rfl rfl rfl) fun _ _ _ _ z => z)))) (pss_one (ps_if (PW.pt (pw_or (pt_val (pe_fld (pv 1) rfl)) (pw_or1 (pt_not (pt_val (pe_call G_among (hr.mono (by decide)) rfl g_among k_among B_among .nil pass0 (pa_cons (pe_meth0 (pv 0) T.c_Reader M_Reader_now G_Reader_now (hr.mono (by decide)) B_Reader_now .nil pass0) (pa_cons (pe_globS rfl T.g_NOT_ATOMS) pa_nil)))))))) (pss_one (ps_expr (pe_meth (pv 0) T.c_Reader M_Reader_end_piece G_Reader_end_piece (hr.mono (by decide)) B_Reader_end_piece .nil (passes_call (takes_of rfl rfl rfl rfl) fun _ _ _ _ z => z) (pa_cons (pe_meth0 (pv 0) T.c_Reader M_Reader_read_atom G_Reader_read_atom (hr.mono (by decide)) B_Reader_read_atom .nil (passes_call (takes_of rfl rfl rfl rfl) fun _ _ _ _ z => z)) pa_nil)))) (pss_one (ps_if (pt_val (pe_meth (pv 0) T.c_Reader M_Reader_passes G_Reader_passes (hr.mono (by decide)) B_Reader_passes .nil pass0 (pa_cons pe_str pa_nil))) (pss_one (ps_fld (pv 1) pe_bl rfl)) (pss_one (ps_if (pt_val (pe_meth (pv 0) T.c_Reader M_Reader_passes G_Reader_passes (hr.mono (by decide)) B_Reader_passes .nil pass0 (pa_cons pe_str pa_nil))) (pss_one (ps_expr (pe_meth (pv 0) T.c_Reader M_Reader_end_row G_Reader_end_row (hr.mono (by decide)) B_Reader_end_row .nil pass0 (pa_cons (pv 1) pa_nil)))) (pss_one (ps_if (pt_cmpR op_eq (pe_meth0 (pv 0) T.c_Reader M_Reader_now G_Reader_now (hr.mono (by decide)) B_Reader_now .nil pass0) (pe_callB call_ord (by rfl) T.b_ord (by decide +kernel) (pa_cons pe_str pa_nil)) (nomark _)) (pss_one (ps_expr (pe_meth (pv 0) T.c_Reader M_Reader_pass_both G_Reader_pass_both (hr.mono (by decide)) B_Reader_pass_both .nil (passes_call (takes_of rfl rfl rfl rfl) fun _ _ _ _ z => z) (pa_cons (pv 1) pa_nil)))) (pss_one (ps_expr (pe_meth0 (pv 0) T.c_Reader M_Reader_close_bracket G_Reader_close_bracket (hr.mono (by decide)) B_Reader_close_bracket .nil (passes_call (takes_of rfl rfl rfl rfl) fun _ _ _ _ z => z)))))))))))))), ?_⟩), b⟩
  · obtain ⟨_, r, _, _, rfl, _⟩ := h; rfl
  · obtain ⟨F0, r, p, S, rfl, hp, h300, sm, hlt, ⟨x, st, hst, R⟩, q1, q2⟩ := h
    obtain ⟨z1, z2, z3, z4⟩ := sm_sz sm h300
    have Rat : RdAt K c F0 H r p S := ⟨x, st, hst, R⟩
    rw [lvs_eq] at R
    unfold PF.step at q1 q2
    refine ⟨_, rfl, rd_last T R ?_⟩
    -- an opening bracket
    refine ⟨_, rfl, rd_meth R (by decide +kernel) ⟨F0, r, p, _, _, _, _, _, rfl, R, _, rfl, by decide +kernel, rfl, _, rfl, ?_⟩⟩
    have e40 : (Str.cps "(").getD 0 0 = 40 := by decide +kernel
    rw [e40, eq_nat]
    by_cases c1 : now p S.place = 40
    · rw [if_pos c1] at q1
      have q2 := fun S' h => q2 S' ((if_pos c1).trans h)
      refine if_true_of (decide_eq_true c1) ?_
      exact ⟨_, rfl, rd_meth R (by decide +kernel) ⟨F0, r, p, S, rfl, hp, h300, sm, hlt, Rat, q1, q2⟩⟩
    rw [if_neg c1] at q1
    have q2 := fun S' h => q2 S' ((if_neg c1).trans h)
    refine if_false_of (decide_eq_false c1) ?_
    -- an atom
    have atom : ∀ (H1 : Hp) (D : Ends), (∀ σ H', D.nx σ H' = Q .non H') → RS K c F0 H1 r p S.place S.groups S.forms (((st.map (·.1)).map (·.a)).reverse ++ [x.a]) (lvM c.lv x S.top ++ stM c.lv st) → (S.top.turned = true ∨ notAtoms.contains (now p S.place) = false) →
        tDrop (tMeth c.rd "end_piece" (spEndPiece K c) [] E (tVar 0) (tCons (tMeth c.rd "read_atom" (spAtom K c readAtom) [] E (tVar 0) tNil) tNil)) D [some (.ref r), some (.ref x.a)] H1 := by
      intro H1 D hD R1 hc
      rw [if_pos hc] at q1
      have q2 := fun S' h => q2 S' ((if_pos hc).trans h)
      unfold atomStep at q1 q2
      refine ⟨_, rfl, rd_meth R1 (by decide +kernel) ⟨_, rfl, rd_meth R1 (by decide +kernel) ⟨F0, r, p, S.place, S.groups, S.forms, _, _, rfl, ?_, R1, fun e h => q1 e (by rw [h]), fun fm j h H2 R2 => ?_⟩⟩⟩
      · unfold Sz at z1 ⊢; omega
      · rw [h] at q1
        have q2 := fun S' h' => q2 S' (by rw [h]; exact h')
        dsimp only at q1 q2
        rw [endPiece_eq] at q1
        have q2 := fun S' h' => q2 S' ((endPiece_eq _ _ _).trans h')
        dsimp only at q1 q2
        have hj := readAtom_lt h
        have hlen : (S.forms ++ [fm]).length = S.forms.length + 1 := by rw [List.length_append]; rfl
        refine ⟨F0, r, p, j, S.groups, S.forms ++ [fm], _, _, x, S.top, S.forms.length, rfl, hp, hj.2, ?_, z4, R2, fun e h => q1 e (by rw [h]), fun fs' pl' L' h H' R' => ?_⟩
        · rw [hlen]; unfold Sz at z1 ⊢; omega
        · show D.nx _ H'
          rw [hD]
          exact q2 { S with place := pl', forms := fs', top := L' } (by rw [h]) H' ⟨x, st, hst, by rw [lvs_eq]; exact R'⟩
    refine ⟨_, rfl, obj_f (R.get 0 rfl) T.c_Level T.n_Level_turned lv_turned ⟨_, rfl, ?_⟩⟩
    cases ht : S.top.turned with
    | true => exact if_true_of rfl (if_true_of rfl (atom H _ (fun _ _ => rfl) R (.inl ht)))
    | false =>
      refine if_false_of rfl ?_
      refine ⟨_, rfl, rd_meth R (by decide +kernel) ⟨F0, r, p, _, _, _, _, _, rfl, R, ?_⟩⟩
      refine ⟨now p S.place, _, rfl, by decide +kernel, fun H1 s1 => ⟨_, rfl, ?_⟩⟩
      have R1 := R.same s1
      have Rat1 : RdAt K c F0 H1 r p S := ⟨x, st, hst, by rw [lvs_eq]; exact R1⟩
      rw [codes_notAtoms]
      cases hn : notAtoms.contains (now p S.place) with
      | false => exact if_true_of rfl (atom H1 _ (fun _ _ => rfl) R1 (.inr hn))
      | true =>
        have hc : ¬ (S.top.turned = true ∨ notAtoms.contains (now p S.place) = false) := by rw [ht, hn]; intro z; rcases z with z | z <;> cases z
        rw [if_neg hc] at q1
        have q2 := fun S' h => q2 S' ((if_neg hc).trans h)
        refine if_false_of rfl ?_
        -- a ~
        refine ⟨_, rfl, rd_passes R1 (k := 126) ⟨by decide +kernel, by decide +kernel⟩ (fun c2 H2 R2 => ⟨_, rfl, if_true_of rfl ?_⟩) fun c2 => ⟨_, rfl, if_false_of rfl ?_⟩⟩
        · refine ⟨_, rfl, x.a, _, x.dx, _, rfl, R2.get 0 rfl, T.c_Level, T.n_Level_turned, (by show 7 < 1000; decide), ?_⟩
          rw [lv_put_turned true]
          have R3 := R2.put 0 (lvO c.lv x { S.top with turned := true }) rfl
          exact q2 _ (if_pos c2) _ ⟨x, st, hst, by rw [lvs_eq]; exact R3⟩
        rw [if_neg c2] at q1
        have q2 := fun S' h => q2 S' ((if_neg c2).trans h)
        -- a bar
        refine ⟨_, rfl, rd_passes R1 (k := 124) ⟨by decide +kernel, by decide +kernel⟩ (fun c3 H2 R2 => ⟨_, rfl, if_true_of rfl ?_⟩) fun c3 => ⟨_, rfl, if_false_of rfl ?_⟩⟩
        · refine ⟨_, rfl, rd_meth R2 (by decide +kernel) ⟨_, rfl, F0, r, p, S.place + 1, S.groups, S.forms, _, _, x, S.top, rfl, ?_, z3, z2, R2, fun H3 x' hx R3 => ?_⟩⟩
          · unfold Sz at z1 ⊢; omega
          · exact q2 _ (if_pos c3) H3 ⟨x', st, hst, by rw [lvs_eq, hx]; exact R3⟩
        rw [if_neg c3] at q1
        have q2 := fun S' h => q2 S' ((if_neg c3).trans h)
        -- an &
        refine ⟨_, rfl, rd_meth R1 (by decide +kernel) ⟨F0, r, p, _, _, _, _, _, rfl, R1, _, rfl, by decide +kernel, rfl, _, rfl, ?_⟩⟩
        have e38 : (Str.cps "&").getD 0 0 = 38 := by decide +kernel
        rw [e38, eq_nat]
        by_cases c4 : now p S.place = 38
        · rw [if_pos c4] at q1
          have q2 := fun S' h => q2 S' ((if_pos c4).trans h)
          refine if_true_of (decide_eq_true c4) ?_
          unfold passBoth at q1 q2
          refine ⟨_, rfl, rd_meth R1 (by decide +kernel) ⟨_, rfl, F0, r, p, S.place, S.groups, S.forms, _, _, x, S.top, rfl, ?_, z3, R1, fun h => q1 _ (if_pos h), fun h H' x' hx R' => q2 _ (if_neg h) H' ⟨x', st, hst, by rw [lvs_eq, hx]; exact R'⟩⟩⟩
          unfold Sz at z1 ⊢; omega
        · rw [if_neg c4] at q1
          have q2 := fun S' h => q2 S' ((if_neg c4).trans h)
          refine if_false_of (decide_eq_false c4) ?_
          exact ⟨_, rfl, rd_meth R1 (by decide +kernel) ⟨F0, r, p, S, rfl, hp, h300, sm, hlt, Rat1, q1, q2⟩⟩
end
end RM
/-! Part CH: the whole pattern read. -/
namespace RM
open PySem PySem.Spec PyProof.Rows L2 PF
/-- the loop's outcome, the turns counted -/
def ResN (p : List Nat) : Nat → Rd → Except Flt Rd → Prop
  | 0, S, r => (p.length ≤ S.place ∧ r = PF.finish S) ∨ (S.place < p.length ∧ ∃ e, step p S = .error e ∧ r = .error e)
  | n + 1, S, r => (p.length ≤ S.place ∧ r = PF.finish S) ∨ (S.place < p.length ∧ ((∃ e, step p S = .error e ∧ r = .error e) ∨ ∃ S', step p S = .ok S' ∧ ResN p n S' r))
theorem ResN.of {p : List Nat} {S : Rd} {r : Except Flt Rd} (h : Res p S r) : ∃ n, ResN p n S r := by
  induction h with
  | fin h => exact ⟨0, .inl ⟨h, rfl⟩⟩
  | err h e => exact ⟨0, .inr ⟨h, _, e, rfl⟩⟩
  | go h e _ ih => obtain ⟨n, hn⟩ := ih; exact ⟨n + 1, .inr ⟨h, .inr ⟨_, e, hn⟩⟩⟩
def spWhole (K : PySem.W.Frag) (c : Cs) : Sp := fun vs H Q E => ∃ F r p S res, vs = [.ref r] ∧ Ok8 p ∧ p.length ≤ 300 ∧ S.Sm p ∧ RdAt K c F H r p S ∧ Res p S res ∧ (∀ e, res = .error e → FltE c F E e) ∧
  (∀ S', res = .ok S' → ∀ H' lv M, RS K c F H' r p S'.place S'.groups S'.forms lv M → Q .non H')
def spReaderInit (K : PySem.W.Frag) (c : Cs) : Sp := fun vs H Q _ => ∃ F r dx pl p, vs = [.ref r, .ref pl] ∧ Same F H ∧ SqL K F pl (nls p) ∧ H r = some (.ins c.rd dx []) ∧ F r = none ∧ ∀ H', RdAt K c F H' r p Rd.start → Q .non H'
def spReadPattern (K : PySem.W.Frag) (c : Cs) : Sp := fun vs H Q E => ∃ F pl p res, vs = [.ref pl] ∧ Same F H ∧ SqL K F pl (nls p) ∧ Ok8 p ∧ p.length ≤ 300 ∧ Res p Rd.start res ∧ (∀ e, res = .error e → FltE c F E e) ∧
  (∀ S', res = .ok S' → ∀ H' r lv M, RS K c F H' r p S'.place S'.groups S'.forms lv M → Q (.ref r) H')
section
variable {P : Program} {w : World} {K : PySem.W.Frag} {mg : Str → Option Value} {base : Heap} {c : Cs} {fI : Addr}
theorem ok_whole (T : Txt K mg c fI) : MOk P w K mg base (L2.CX P w) 10 c.rd "read_whole" ["self"] (spWhole K c) := by
  obtain ⟨f, fd, m, F, b⟩ := T.t_Reader_read_whole
  obtain ⟨_, _, M_Reader_read_step, G_Reader_read_step, B_Reader_read_step⟩ := ok_step (P := P) (w := w) (base := base) T
  obtain ⟨_, _, M_Reader_end_level, G_Reader_end_level, B_Reader_end_level⟩ := ok_endLevel (P := P) (w := w) (base := base) T
  refine ⟨f, fd, m, F.okX sc_Reader_read_whole (fun vs H Q E h => ?_) (fun cdv A outer s H vs Q E hr h => ⟨_, pss_cons (ps_while (passes_of rfl) (pt_cmpR op_lt (pe_fld (pv 0) rfl) (pe_callB call_len_seq (by rfl) T.b_len PySem.boot_len (pa_cons (pe_fld (pv 0) rfl) pa_nil)) (nomark _)) (pss_one (ps_expr (pe_meth0 (pv 0) T.c_Reader M_Reader_read_step G_Reader_read_step (hr.mono (by decide)) B_Reader_read_step .nil (passes_call (takes_of rfl rfl rfl rfl) fun _ _ _ _ z => z))))) (pss_cons (ps_if (PW.pt (pw_or (pt_cmpR op_gt (pe_callB call_len_seq (by rfl) T.b_len PySem.boot_len (pa_cons (pe_fld (pv 0) rfl) pa_nil)) pe_int (nomark _)) (pw_or1 (pt_val (pe_fld (pe_ix ix_list (pe_fld (pv 0) rfl) pe_int (fun _ _ => rfl)) rfl))))) (pss_one (ps_raiseFlt rfl T.flt hr (takes_of rfl rfl rfl rfl) (pa_cons (pe_globI rfl T.g_CANNOT_STAND) (pa_cons (pe_fld (pv 0) rfl) pa_nil)))) pss_nil) (pss_one (ps_expr (pe_meth (pv 0) T.c_Reader M_Reader_end_level G_Reader_end_level (hr.mono (by decide)) B_Reader_end_level .nil pass0 (pa_cons (pe_ix ix_list (pe_fld (pv 0) rfl) pe_int (fun _ _ => rfl)) pa_nil))))), ?_⟩), b⟩
  · obtain ⟨_, r, _, _, _, rfl, _⟩ := h; rfl
  · obtain ⟨F0, r, p, S0, res, rfl, hp, h300, sm0, R0, hres, q1, q2⟩ := h
    obtain ⟨n0, hn0⟩ := ResN.of hres
    refine ⟨fun n σ H' => ∃ S, σ = [some (.ref r)] ∧ S.Sm p ∧ RdAt K c F0 H' r p S ∧ ResN p n S res, ⟨n0, S0, rfl, sm0, R0, hn0⟩, ?_⟩
    rintro n σ H1 ⟨S, rfl, sm, Rat, hn⟩
    obtain ⟨x, st, hst, R⟩ := id Rat
    obtain ⟨z1, z2, z3, z4⟩ := sm_sz sm h300
    refine ⟨_, rfl, rd_f_place T R ⟨_, rfl, rd_f_pattern T R fun l hl => ⟨_, _, rfl, .inl hl, _, _, rfl, rfl, _, rfl, ?_⟩⟩⟩
    rw [nls_len]
    by_cases c1 : S.place < p.length
    · refine if_true_of (decide_eq_true (by omega)) ?_
      cases n with
      | zero =>
        rcases hn with ⟨h, _⟩ | ⟨_, e, he, hr⟩
        · omega
        · refine ⟨fun _ _ => False, fun _ _ z => z.elim, ?_⟩
          exact ⟨_, rfl, rd_meth R (by decide +kernel) ⟨F0, r, p, S, rfl, hp, h300, sm, c1, Rat, fun e' h => by rw [he] at h; cases h; exact q1 e hr, fun S' h => by rw [he] at h; cases h⟩⟩
      | succ n =>
        rcases hn with ⟨h, _⟩ | ⟨_, ⟨e, he, hr⟩ | ⟨S', hs, hn'⟩⟩
        · omega
        · refine ⟨fun _ _ => False, fun _ _ z => z.elim, ?_⟩
          exact ⟨_, rfl, rd_meth R (by decide +kernel) ⟨F0, r, p, S, rfl, hp, h300, sm, c1, Rat, fun e' h => by rw [he] at h; cases h; exact q1 e hr, fun S' h => by rw [he] at h; cases h⟩⟩
        · refine ⟨_, fun σ' H' z => ⟨n, Nat.lt_succ_self _, z⟩, ?_⟩
          refine ⟨_, rfl, rd_meth R (by decide +kernel) ⟨F0, r, p, S, rfl, hp, h300, sm, c1, Rat, fun e' h => (by rw [hs] at h; cases h), fun S2 h H' R' => ?_⟩⟩
          rw [hs] at h
          cases h
          exact ⟨S', rfl, step_sm hp sm c1 hs, R', hn'⟩
    · refine if_false_of (decide_eq_false (by omega)) ?_
      have hr : res = PF.finish S := by
        cases n with
        | zero =>
          rcases hn with ⟨_, h⟩ | ⟨h, _⟩
          · exact h
          · exact absurd h c1
        | succ n =>
          rcases hn with ⟨_, h⟩ | ⟨h, _⟩
          · exact h
          · exact absurd h c1
      rw [hr] at q1 q2
      unfold PF.finish at q1 q2
      rw [lvs_eq] at R
      have el : ((((st.map (·.1)).map (·.a)).reverse ++ [x.a]).map V.ref).length = st.length + 1 := by
        rw [List.length_map, List.length_append, List.length_reverse, List.length_map, List.length_map]; rfl
      have bad : S.below ≠ [] ∨ S.top.turned = true → ∀ d, H1 d = none → E (.ref c.fl) (some d) (upd H1 d (.xd (flt (.int (1 : Nat)) (.int S.place)))) := fun h d nd => (q1 (1, S.place) (if_pos h)).at_ R.stands nd
      refine ⟨_, rfl, rd_f_levels T R fun ll hl => ⟨_, _, rfl, .inl (SqL.of hl), _, _, rfl, rfl, _, rfl, ?_⟩⟩
      rw [el]
      match st, hst, R, el with
      | y :: st', hst, R, el =>
        refine if_true_of (decide_eq_true (by rw [List.length_cons]; omega)) (if_true_of rfl ?_)
        exact ⟨_, rfl, rd_f_place T R ⟨_, _, rfl, bad (.inl (by rw [← hst]; exact fun z => by cases z))⟩⟩
      | [], hst, R, el =>
        refine if_false_of rfl ?_
        refine ⟨_, rfl, rd_f_levels T R fun ll hl => ⟨_, _, _, _, rfl, rfl, SqL.of hl, atI_nat (j := 0) rfl, obj_f (R.get 0 rfl) T.c_Level T.n_Level_turned lv_turned ⟨_, rfl, ?_⟩⟩⟩
        cases ht : S.top.turned with
        | true =>
          refine if_true_of rfl ?_
          exact ⟨_, rfl, rd_f_place T R ⟨_, _, rfl, bad (.inr ht)⟩⟩
        | false =>
          refine if_false_of rfl ?_
          have q2 := q2 _ (if_neg (by rw [ht, ← hst]; intro z; rcases z with z | z; exact z rfl; cases z))
          refine ⟨_, rfl, rd_meth R (by decide +kernel) ⟨_, rfl, rd_f_levels T R fun ll hl => ⟨_, _, _, _, rfl, rfl, SqL.of hl, atI_nat (j := 0) rfl, ?_⟩⟩⟩
          refine ⟨F0, r, p, S.place, S.groups, S.forms, _, _, x, S.top, rfl, ?_, z3, z2, R, fun H' x' L' _ _ R' => q2 H' _ _ R'⟩
          unfold Sz at z1 ⊢; omega
theorem ok_reader (T : Txt K mg c fI) : IOk P w K mg base CX0 3 c.rd ["self", "pattern"] (spReaderInit K c) := by
  obtain ⟨f, fd, m, F, b⟩ := T.t_Reader_init
  obtain ⟨_, _, M_Level, G_Level, B_Level⟩ := ok_level (P := P) (w := w) (base := base) T
  refine ⟨f, fd, m, F.ok sc_Reader_init (fun vs H Q E h => ?_) (fun cdv A outer s H vs Q E hr h => ⟨_, pss_cons (ps_fld (pv 0) (pv 1) rfl) (pss_cons (ps_fld (pv 0) pe_int rfl) (pss_cons (ps_fld (pv 0) (pe_lst pa_nil) rfl) (pss_cons (ps_fld (pv 0) pe_int rfl) (pss_one (ps_fld (pv 0) (pe_lst (pa_cons (pe_make M_Level G_Level (hr.mono (by decide)) rfl T.g_Level B_Level .nil pass0 (pa_cons pe_bl (pa_cons pe_int (pa_cons pe_non pa_nil)))) pa_nil)) rfl))))), ?_⟩), b⟩
  · obtain ⟨_, r, _, _, _, rfl, _⟩ := h; rfl
  · obtain ⟨F0, r, dx, pl, p, rfl, s, hp, hr0, fr, q⟩ := h
    have o : Own F0 H [(r, .ins c.rd dx [])] := ⟨s, List.nodup_cons.mpr ⟨List.not_mem_nil, List.nodup_nil⟩, fun z hz => by rw [List.mem_singleton.mp hz]; exact hr0, fun z hz => by rw [List.mem_singleton.mp hz]; exact fr⟩
    -- self.pattern = pattern
    refine ⟨_, rfl, _, rfl, r, _, dx, _, rfl, o.get 0 rfl, T.c_Reader, T.n_Reader_pattern, (by decide), ?_⟩
    rw [putF_new (by decide +kernel)]
    have o1 := o.put 0 (.ins c.rd dx [("pattern", .ref pl)]) rfl
    -- self.place = 0
    refine ⟨_, rfl, r, _, dx, _, rfl, o1.get 0 rfl, T.c_Reader, T.n_Reader_place, (by show 1 < 1000; decide), ?_⟩
    rw [putF_new (by show (["pattern"] : List Str).contains "place" = false; decide +kernel)]
    have o2 := o1.put 0 (.ins c.rd dx [("pattern", .ref pl), ("place", .int 0)]) rfl
    -- self.forms = []
    refine ⟨Nat.zero_le _, fun fl nf => ?_⟩
    have o3 := o2.add nf (.lst [])
    refine ⟨_, rfl, r, _, dx, _, rfl, o3.get 1 rfl, T.c_Reader, T.n_Reader_forms, (by show 2 < 1000; decide), ?_⟩
    rw [putF_new (by show (["pattern", "place"] : List Str).contains "forms" = false; decide +kernel)]
    have o4 := o3.put 1 (.ins c.rd dx [("pattern", .ref pl), ("place", .int 0), ("forms", .ref fl)]) rfl
    -- self.groups = 0
    refine ⟨_, rfl, r, _, dx, _, rfl, o4.get 1 rfl, T.c_Reader, T.n_Reader_groups, (by show 3 < 1000; decide), ?_⟩
    rw [putF_new (by show (["pattern", "place", "forms"] : List Str).contains "groups" = false; decide +kernel)]
    have o5 := o4.put 1 (.ins c.rd dx [("pattern", .ref pl), ("place", .int 0), ("forms", .ref fl), ("groups", .int 0)]) rfl
    -- self.levels = [Level(False, 0, None)]
    refine fun xA dA nx nd ne => ?_
    have o6 := (o5.add nd (.own xA)).add (p := xA) (by rw [upd_ne (Ne.symm ne)]; exact nx) (.ins c.lv dA [])
    have o7 := (o6.perm (List.Perm.swap _ _ _)).drop
    refine ⟨F0, _, xA, dA, false, 0, none, rfl, o7, fun H1 y hy o8 => ⟨rfl, (by decide : 1 ≤ sizeLine), fun ll nl => ?_⟩⟩
    have o9 := o8.add nl (.lst [V.ref xA])
    refine ⟨_, rfl, r, _, dx, _, rfl, o9.get 6 rfl, T.c_Reader, T.n_Reader_levels, (by show 4 < 1000; decide), ?_⟩
    rw [putF_new (by show (["pattern", "place", "forms", "groups"] : List Str).contains "levels" = false; decide +kernel)]
    have oa := o9.put 6 (rdO c.rd dx pl fl ll 0 0) rfl
    refine q _ ⟨y, [], rfl, F0, dx, pl, fl, ll, [], Same.refl _, ⟨rfl, fun i a fm h => by cases h⟩, hp, oa.perm ?_⟩
    have e : [V.ref xA] = (([y].map (·.a)).reverse).map V.ref := by show _ = [V.ref y.a]; rw [hy]
    show List.Perm ((ll, HO.lst [V.ref xA]) :: (lvM c.lv y (Lv.new false 0 none) ++ [(fl, .lst []), (r, rdO c.rd dx pl fl ll 0 0)])) ((r, rdO c.rd dx pl fl ll 0 0) :: (fl, .lst []) :: (ll, .lst ((([y].map (·.a)).reverse).map V.ref)) :: (lvM c.lv y (Lv.new false 0 none) ++ []))
    rw [← e, List.append_nil]
    have p1 := List.perm_append_comm (l₁ := (ll, HO.lst [V.ref xA]) :: lvM c.lv y (Lv.new false 0 none)) (l₂ := [(fl, HO.lst []), (r, rdO c.rd dx pl fl ll 0 0)])
    exact p1.trans (List.Perm.swap _ _ _)
theorem ok_pattern (T : Txt K mg c fI) : DOk P w K mg base (L2.CX P w) 11 "read_pattern" ["pattern"] (spReadPattern K c) := by
  obtain ⟨f, fd, mf, kf, F, b⟩ := T.t_read_pattern
  obtain ⟨_, _, M_Reader, G_Reader, B_Reader⟩ := ok_reader (P := P) (w := w) (base := base) T
  obtain ⟨_, _, M_Reader_read_whole, G_Reader_read_whole, B_Reader_read_whole⟩ := ok_whole (P := P) (w := w) (base := base) T
  refine ⟨f, fd, mf, kf, F.okX sc_read_pattern (fun vs H Q E h => ?_) (fun cdv A outer s H vs Q E hr h => ⟨_, pss_cons (ps_set (i := 1) sc_read_pattern.nd rfl (Or.inl rfl) (pe_make M_Reader G_Reader (hr.mono (by decide)) rfl T.g_Reader B_Reader .nil pass0 (pa_cons (pv 0) pa_nil))) (pss_cons (ps_expr (pe_meth0 (pv 1) T.c_Reader M_Reader_read_whole G_Reader_read_whole (hr.mono (by decide)) B_Reader_read_whole .nil (passes_call (takes_of rfl rfl rfl rfl) fun _ _ _ _ z => z))) (pss_one (ps_ret (pv 1)))), ?_⟩), b⟩
  · obtain ⟨_, _, _, _, rfl, _⟩ := h; rfl
  · obtain ⟨F0, pl, p, res, rfl, s, hp, h8, h300, hres, q1, q2⟩ := h
    refine ⟨_, rfl, fun x dx nx nd ne => ?_⟩
    have fx : F0 x = none := s.free nx
    have s1 : Same F0 (upd (upd H dx (.own x)) x (.ins c.rd dx [])) := s.trans ((same_upd nd).trans (same_upd (by rw [upd_ne (Ne.symm ne)]; exact nx)))
    refine ⟨F0, x, dx, pl, p, rfl, s1, hp, upd_same, fx, fun H1 R1 => ⟨rfl, ?_⟩⟩
    obtain ⟨y, st, hst, R⟩ := id R1
    refine ⟨_, rfl, rd_meth R (by decide +kernel) ⟨F0, x, p, Rd.start, res, rfl, h8, h300, start_sm p, R1, hres, q1, fun S' h H' lv M R' => ?_⟩⟩
    exact ⟨_, rfl, q2 S' h H' x lv M R'⟩
end
end RM
/-! Part CI: a fault told, in the suite that handles it. -/
namespace RM
open PySem PySem.Spec PyProof.Rows L2 PF
theorem xfC_of {K : PySem.W.Frag} {mg : Str → Option Value} {C fI : Addr} (T : FX.FaultTxt K mg C fI) : XfC K C := ⟨T.ga, T.gg, T.exC, T.hdC⟩
/-- told_fault(which, e), e the Fault that is handled: at a, of the class cls, its dict d -/
def tTold (C : Addr) (a : Addr) (cls : Value) (d : Option Addr) (t : TA) : TE := fun σ H Q => t σ H fun vs H1 => ∃ n : Int, vs = [.int n, .ref a] ∧ cls = .ref C ∧ ∃ (dd : Addr) (v u : V), d = some dd ∧ H1 dd = some (.xd (flt v u)) ∧
  ∀ q, H1 q = none → Q (.ref q) (upd H1 q (.lst [.int 9, .int 2, .int n, v, u]))
theorem pe_told {X : Cx} {c : Cs} {fI a : Addr} {oe : Obj} {cls : Value} {d : Option Addr} {pn : List (Addr × Obj)} {e1 e : Expr} {t : TA} {q pos : Pos} (T : Txt X.K X.mg c fI) (hz : Zc cls d oe) (hf : ∃ vs, oe.data = .fields vs) (hr : L2H.RoomH 1 (X.suite a ((a, oe) :: pn)).A) (hg : Gl (X.suite a ((a, oe) :: pn)) "told_fault")
    (ha : PA (X.suite a ((a, oe) :: pn)) [e1, e] t) (he : starEach [e1, e] (X.suite a ((a, oe) :: pn)).env = (false, eval e1 (X.suite a ((a, oe) :: pn)).env) :: starEach [e] (X.suite a ((a, oe) :: pn)).env := by rfl) (hpl : (backTo pos (starEach [e] (X.suite a ((a, oe) :: pn)).env)).any (·.1) = false := by rfl) :
    PE (X.suite a ((a, oe) :: pn)) (.Call (.Name "told_fault" q) [e1, e] [] pos) (tTold c.fl a cls d t) := by
  obtain ⟨f, fd, mf, kf, D, b⟩ := T.t_told_fault
  refine ⟨fun pins s σ H Q I h => ?_⟩
  refine wpAny_Call_Name_kw (ld_glob I hg mf ?_ (by decide))
  refine PySem.W.callWith_K (h₀ := X.base) I.ok.mod.kin kf (thn (ha.run pos pins s σ H _ I h) fun us s1 hh => ?_) he hpl
  obtain ⟨vs, H1, I1, r, n, rfl, rfl, dd, v, u, rfl, hd, k⟩ := hh
  refine ⟨I1.kIn, FX.run_fnP (k := 0) (p := (a, oe)) (Q := Q) List.mem_cons_self D sc_told_fault hr b I1 r rfl fun cdv A outer s2 hr2 => ?_⟩
  refine ⟨_, pss_one (ps_ret (pe_lst (pa_cons (pe_globI rfl T.g_REFUSED) (pa_cons (pe_globI rfl T.g_FAULTY) (pa_cons (pv 0)
    (pa_cons (FX.pe_xfP (xfC_of T.flt) T.flt.nR List.mem_cons_self hz hf (pv 1)) (pa_cons (FX.pe_xfP (xfC_of T.flt) T.flt.nP List.mem_cons_self hz hf (pv 1)) pa_nil))))))), ?_⟩
  exact ⟨_, rfl, _, rfl, rfl, rfl, dd, _, v, rfl, hd, lk_rule, _, rfl, rfl, rfl, dd, _, u, rfl, hd, lk_place, (by show 5 ≤ sizeLine; decide), fun q nq => k q nq⟩
end RM
/-! Part M1: relations of places, as the specification reckons them and as bits. -/
namespace PF
open WrPatt
/-- bit j of the a-th number -/
def bitAt (E : List Nat) (a j : Nat) : Bool := (E.getD a 0).testBit j
/-- the numbers E say just what R says, from the places 0 to n -/
structure Fit (n : Nat) (E : List Nat) (R : Nat → Nat → Prop) : Prop where
  len : E.length = n + 1
  bit : ∀ a, a ≤ n → ∀ j, bitAt E a j = true ↔ R a j
def Fwd (n : Nat) (R : Nat → Nat → Prop) : Prop := ∀ a j, R a j → a ≤ j ∧ j ≤ n
def Thn (R Q : Nat → Nat → Prop) : Nat → Nat → Prop := fun a j => ∃ k, R a k ∧ Q k j
def Id (n : Nat) : Nat → Nat → Prop := fun a j => a = j ∧ a ≤ n
def Pow (n : Nat) (R : Nat → Nat → Prop) : Nat → Nat → Nat → Prop
  | 0 => Id n
  | k + 1 => Thn R (Pow n R k)
theorem Fit.ext {n : Nat} {E : List Nat} {R Q : Nat → Nat → Prop} (f : Fit n E R) (h : ∀ a, a ≤ n → ∀ j, R a j ↔ Q a j) : Fit n E Q := ⟨f.len, fun a ha j => (f.bit a ha j).trans (h a ha j)⟩
theorem Fit.uniq {n : Nat} {E E' : List Nat} {R : Nat → Nat → Prop} (f : Fit n E R) (g : Fit n E' R) : E = E' := by
  refine List.ext_getElem (f.len.trans g.len.symm) fun i h1 h2 => ?_
  have hi : i ≤ n := by have := f.len; omega
  refine Nat.eq_of_testBit_eq fun j => ?_
  have e1 : bitAt E i j = E[i].testBit j := by unfold bitAt; rw [List.getD_eq_getElem?_getD, List.getElem?_eq_getElem h1]; rfl
  have e2 : bitAt E' i j = E'[i].testBit j := by unfold bitAt; rw [List.getD_eq_getElem?_getD, List.getElem?_eq_getElem h2]; rfl
  rw [← e1, ← e2]
  have := (f.bit i hi j).trans (g.bit i hi j).symm
  cases h : bitAt E i j <;> cases h' : bitAt E' i j <;> simp [h, h'] at this ⊢
theorem Fwd.id (n : Nat) : Fwd n (Id n) := fun a j h => ⟨Nat.le_of_eq h.1, h.1 ▸ h.2⟩
theorem Fwd.then_ {n : Nat} {R Q : Nat → Nat → Prop} (f : Fwd n R) (g : Fwd n Q) : Fwd n (Thn R Q) := fun a j ⟨k, h1, h2⟩ => ⟨Nat.le_trans (f a k h1).1 (g k j h2).1, (g k j h2).2⟩
theorem Fwd.pow {n : Nat} {R : Nat → Nat → Prop} (f : Fwd n R) : ∀ k, Fwd n (Pow n R k)
  | 0 => .id n
  | k + 1 => f.then_ (Fwd.pow f k)
theorem then_id {n : Nat} {R : Nat → Nat → Prop} (f : Fwd n R) (a j : Nat) : Thn R (Id n) a j ↔ R a j := ⟨fun ⟨k, h, e, _⟩ => e ▸ h, fun h => ⟨j, h, rfl, (f a j h).2⟩⟩
theorem id_then {n : Nat} {R : Nat → Nat → Prop} {a : Nat} (ha : a ≤ n) (j : Nat) : Thn (Id n) R a j ↔ R a j := ⟨fun ⟨k, ⟨e, _⟩, h⟩ => e ▸ h, fun h => ⟨a, ⟨rfl, ha⟩, h⟩⟩
theorem then_assoc (R Q S : Nat → Nat → Prop) (a j : Nat) : Thn (Thn R Q) S a j ↔ Thn R (Thn Q S) a j :=
  ⟨fun ⟨k, ⟨l, h1, h2⟩, h3⟩ => ⟨l, h1, k, h2, h3⟩, fun ⟨l, h1, k, h2, h3⟩ => ⟨k, ⟨l, h1, h2⟩, h3⟩⟩
theorem pow_add {n : Nat} {R : Nat → Nat → Prop} (f : Fwd n R) : ∀ (k l : Nat) {a : Nat}, a ≤ n → ∀ j, Pow n R (k + l) a j ↔ Thn (Pow n R k) (Pow n R l) a j
  | 0, l, a, ha, j => by rw [Nat.zero_add]; exact (id_then ha j).symm
  | k + 1, l, a, ha, j => by
    rw [Nat.succ_add]
    constructor
    · rintro ⟨b, h1, h2⟩
      obtain ⟨c, h3, h4⟩ := (pow_add f k l (Nat.le_trans (f a b h1).2 (Nat.le_refl _)) j).mp h2
      exact ⟨c, ⟨b, h1, h3⟩, h4⟩
    · rintro ⟨c, ⟨b, h1, h3⟩, h4⟩
      exact ⟨b, h1, (pow_add f k l (f a b h1).2 j).mpr ⟨c, h3, h4⟩⟩
theorem pow_one {n : Nat} {R : Nat → Nat → Prop} (f : Fwd n R) (a j : Nat) : Pow n R 1 a j ↔ R a j := then_id f a j

/-! ### the specification's relations -/
def RelR (r : Rel) : Nat → Nat → Prop := fun a j => r.has a j = true
theorem has_iff {r : Rel} {a j : Nat} : r.has a j = true ↔ j ∈ r.from_ a := List.contains_iff_mem
theorem from_map {α : Type} {l : List α} {f : α → List Nat} {a : Nat} : Rel.from_ (l.map f) a = match l[a]? with | some x => f x | none => [] := by
  unfold Rel.from_
  rw [List.getD_eq_getElem?_getD, List.getElem?_map]
  cases l[a]? <;> rfl
theorem from_range {m : Nat} {f : Nat → List Nat} {a : Nat} : Rel.from_ ((List.range m).map f) a = if a < m then f a else [] := by
  rw [from_map]
  by_cases h : a < m
  · rw [List.getElem?_range h, if_pos h]
  · rw [if_neg h, List.getElem?_eq_none (by rw [List.length_range]; omega)]
theorem mem_insert {x y : Nat} : ∀ {l : List Nat}, y ∈ WrPatt.insert x l ↔ y = x ∨ y ∈ l
  | [] => by unfold WrPatt.insert; simp
  | z :: l => by
    unfold WrPatt.insert
    split
    · rename_i h; subst h; simp
    · split
      · simp
      · rw [List.mem_cons, mem_insert (l := l), List.mem_cons]
        constructor
        · rintro (h | h | h)
          · exact .inr (.inl h)
          · exact .inl h
          · exact .inr (.inr h)
        · rintro (h | h | h)
          · exact .inr (.inl h)
          · exact .inl h
          · exact .inr (.inr h)
theorem mem_union {y : Nat} : ∀ {a b : List Nat}, y ∈ WrPatt.union a b ↔ y ∈ a ∨ y ∈ b
  | [], b => by unfold WrPatt.union; simp
  | x :: a, b => by
    show y ∈ WrPatt.union a (WrPatt.insert x b) ↔ _
    rw [mem_union (a := a), mem_insert, List.mem_cons]
    constructor
    · rintro (h | h | h)
      · exact .inl (.inr h)
      · exact .inl (.inl h)
      · exact .inr h
    · rintro ((h | h) | h)
      · exact .inr (.inl h)
      · exact .inl h
      · exact .inr (.inr h)
theorem mem_foldl_union {q : Rel} {y : Nat} : ∀ {l z : List Nat}, y ∈ l.foldl (fun (z : List Nat) (j : Nat) => WrPatt.union (q.from_ j) z) z ↔ (∃ k ∈ l, y ∈ q.from_ k) ∨ y ∈ z
  | [], z => by simp
  | x :: l, z => by
    rw [List.foldl_cons, mem_foldl_union (l := l), mem_union]
    constructor
    · rintro (⟨k, h1, h2⟩ | h | h)
      · exact .inl ⟨k, List.mem_cons_of_mem _ h1, h2⟩
      · exact .inl ⟨x, List.mem_cons_self, h⟩
      · exact .inr h
    · rintro (⟨k, h1, h2⟩ | h)
      · rcases List.mem_cons.mp h1 with e | e
        · exact .inr (.inl (e ▸ h2))
        · exact .inl ⟨k, e, h2⟩
      · exact .inr (.inr h)
theorem then_has {r q : Rel} (a j : Nat) : RelR (r.then_ q) a j ↔ Thn (RelR r) (RelR q) a j := by
  unfold RelR Thn
  simp only [has_iff]
  unfold Rel.then_
  rw [from_map]
  cases e : r[a]? with
  | none =>
    have : r.from_ a = [] := by unfold Rel.from_; rw [List.getD_eq_getElem?_getD, e]; rfl
    rw [this]
    simp
  | some l =>
    have : r.from_ a = l := by unfold Rel.from_; rw [List.getD_eq_getElem?_getD, e]; rfl
    rw [this]
    dsimp only
    rw [mem_foldl_union]
    simp
theorem then_len (r q : Rel) : (r.then_ q).length = r.length := by unfold Rel.then_; rw [List.length_map]
theorem same_len (n : Nat) : (same n).length = n + 1 := by unfold same; rw [List.length_map, List.length_range]
theorem same_has {n : Nat} (a j : Nat) : RelR (same n) a j ↔ Id n a j := by
  unfold RelR
  rw [has_iff]
  unfold same
  rw [from_range]
  unfold Id
  by_cases h : a < n + 1
  · rw [if_pos h, List.mem_singleton]
    exact ⟨fun e => ⟨e.symm, by omega⟩, fun e => e.1.symm⟩
  · rw [if_neg h]
    exact ⟨fun e => absurd e List.not_mem_nil, fun e => by omega⟩
theorem or_len {r q : Rel} (h : r.length = q.length) : (r.or_ q).length = r.length := by unfold Rel.or_; rw [List.length_map, List.length_zip, h, Nat.min_self]
theorem or_has {r q : Rel} (h : r.length = q.length) (a j : Nat) : RelR (r.or_ q) a j ↔ RelR r a j ∨ RelR q a j := by
  unfold RelR
  simp only [has_iff]
  unfold Rel.or_
  rw [from_map]
  by_cases c : a < r.length
  · have e1 : r[a]? = some r[a] := List.getElem?_eq_getElem c
    have c2 : a < q.length := h ▸ c
    have e2 : q[a]? = some q[a] := List.getElem?_eq_getElem c2
    have ez : (r.zip q)[a]? = some (r[a], q[a]) := by rw [List.getElem?_zip_eq_some]; exact ⟨e1, e2⟩
    have f1 : r.from_ a = r[a] := by unfold Rel.from_; rw [List.getD_eq_getElem?_getD, e1]; rfl
    have f2 : q.from_ a = q[a] := by unfold Rel.from_; rw [List.getD_eq_getElem?_getD, e2]; rfl
    rw [ez, f1, f2]
    exact mem_union
  · have e1 : r[a]? = none := List.getElem?_eq_none (by omega)
    have e2 : q[a]? = none := List.getElem?_eq_none (by omega)
    have ez : (r.zip q)[a]? = none := List.getElem?_eq_none (by rw [List.length_zip]; omega)
    have f1 : r.from_ a = [] := by unfold Rel.from_; rw [List.getD_eq_getElem?_getD, e1]; rfl
    have f2 : q.from_ a = [] := by unfold Rel.from_; rw [List.getD_eq_getElem?_getD, e2]; rfl
    rw [ez, f1, f2]
    simp
theorem then_congr {n : Nat} {R R' Q Q' : Nat → Nat → Prop} (f : Fwd n R) (h1 : ∀ a, a ≤ n → ∀ j, R a j ↔ R' a j) (h2 : ∀ a, a ≤ n → ∀ j, Q a j ↔ Q' a j) {a : Nat} (ha : a ≤ n) (j : Nat) : Thn R Q a j ↔ Thn R' Q' a j :=
  ⟨fun ⟨k, x, y⟩ => ⟨k, (h1 a ha k).mp x, (h2 k (f a k x).2 j).mp y⟩, fun ⟨k, x, y⟩ => ⟨k, (h1 a ha k).mpr x, (h2 k (f a k ((h1 a ha k).mpr x)).2 j).mpr y⟩⟩
theorem times_succ (n : Nat) (r : Rel) (f k : Nat) : r.times n (f + 1) (k + 1) = if (k + 1) % 2 = 1 then ((r.times n f ((k + 1) / 2)).then_ (r.times n f ((k + 1) / 2))).then_ r else (r.times n f ((k + 1) / 2)).then_ (r.times n f ((k + 1) / 2)) := rfl
theorem times_len {n : Nat} {r : Rel} (h : r.length = n + 1) : ∀ (f k : Nat), (r.times n f k).length = n + 1
  | 0, k => by unfold Rel.times; exact same_len n
  | f + 1, 0 => by unfold Rel.times; exact same_len n
  | f + 1, k + 1 => by
    rw [times_succ]
    split
    · rw [then_len, then_len]; exact times_len h f _
    · rw [then_len]; exact times_len h f _
theorem times_has {n : Nat} {r : Rel} (f0 : Fwd n (RelR r)) : ∀ (f k : Nat), k < f → ∀ {a : Nat}, a ≤ n → ∀ j, RelR (r.times n f k) a j ↔ Pow n (RelR r) k a j
  | 0, k, h, _, _, _ => absurd h (Nat.not_lt_zero _)
  | f + 1, 0, _, a, ha, j => by unfold Rel.times; exact same_has a j
  | f + 1, k + 1, hk, a, ha, j => by
    have ih := fun {a : Nat} (ha : a ≤ n) (j : Nat) => times_has f0 f ((k + 1) / 2) (by omega) ha j
    have fp := Fwd.pow f0 ((k + 1) / 2)
    have dd : ∀ {a : Nat}, a ≤ n → ∀ j, RelR ((r.times n f ((k + 1) / 2)).then_ (r.times n f ((k + 1) / 2))) a j ↔ Pow n (RelR r) ((k + 1) / 2 + (k + 1) / 2) a j := fun {a} ha j => by
      rw [then_has, pow_add f0 _ _ ha]
      constructor
      · rintro ⟨c, h1, h2⟩
        have h1' := (ih ha c).mp h1
        exact ⟨c, h1', (ih (fp a c h1').2 j).mp h2⟩
      · rintro ⟨c, h1, h2⟩
        exact ⟨c, (ih ha c).mpr h1, (ih (fp a c h1).2 j).mpr h2⟩
    rw [times_succ]
    split
    · rename_i ho
      rw [then_has]
      have e : k + 1 = (k + 1) / 2 + (k + 1) / 2 + 1 := by omega
      have fq := Fwd.pow f0 ((k + 1) / 2 + (k + 1) / 2)
      rw [show Pow n (RelR r) (k + 1) a j ↔ Pow n (RelR r) ((k + 1) / 2 + (k + 1) / 2 + 1) a j by rw [← e], pow_add f0 _ 1 ha]
      constructor
      · rintro ⟨c, h1, h2⟩
        exact ⟨c, (dd ha c).mp h1, (pow_one f0 c j).mpr h2⟩
      · rintro ⟨c, h1, h2⟩
        exact ⟨c, (dd ha c).mpr h1, (pow_one f0 c j).mp h2⟩
    · have e : k + 1 = (k + 1) / 2 + (k + 1) / 2 := by omega
      rw [show Pow n (RelR r) (k + 1) a j ↔ Pow n (RelR r) ((k + 1) / 2 + (k + 1) / 2) a j by rw [← e]]
      exact dd ha j
theorem power_has {n : Nat} {r : Rel} (f0 : Fwd n (RelR r)) (k : Nat) {a : Nat} (ha : a ≤ n) (j : Nat) : RelR (r.power n k) a j ↔ Pow n (RelR r) k a j := times_has f0 _ _ (Nat.lt_succ_self _) ha j
end PF
/-! Part M2: what forms fit, told by what their parts fit; that it's what the specification's pattern fits. -/
namespace PF
open WrPatt
def wordN (c : Nat) : Bool := (decide (65 ≤ c) && decide (c ≤ 90)) || ((decide (97 ≤ c) && decide (c ≤ 122)) || ((decide (48 ≤ c) && decide (c ≤ 57)) || decide (c = 95)))
theorem k_word : ∀ n < 256, isWordByte (UInt8.ofNat n) = wordN n := by decide +kernel
def wordAtN (q : List Nat) (i : Nat) : Bool := match q[i]? with
  | some c => wordN c
  | none => false
def edgeN (q : List Nat) (i : Nat) : Bool := (if i = 0 then false else wordAtN q (i - 1)) != wordAtN q i
theorem tx_get (q : List Nat) (i : Nat) : (tx q)[i]? = q[i]?.map UInt8.ofNat := by unfold tx; rw [List.getElem?_map]
theorem wordAt_is {q : List Nat} (h : Ok8 q) (i : Nat) : wordAt (tx q) i = wordAtN q i := by
  unfold wordAt wordAtN
  rw [tx_get]
  cases e : q[i]? with
  | none => rfl
  | some c => exact k_word c (h c (List.mem_of_getElem? e))
theorem edge_is {q : List Nat} (h : Ok8 q) (i : Nat) : edge (tx q) i = edgeN q i := by
  unfold edge edgeN
  rw [wordAt_is h, wordAt_is h]
/-- at its own place alone -/
def AtP (n : Nat) (f : Nat → Bool) : Nat → Nat → Prop := fun a j => a = j ∧ a ≤ n ∧ f a = true
def ByteR (q : List Nat) (f : Nat → Bool) : Nat → Nat → Prop := fun a j => j = a + 1 ∧ ∃ c, q[a]? = some c ∧ f c = true
def OrId (n : Nat) (R : Nat → Nat → Prop) : Nat → Nat → Prop := fun a j => Id n a j ∨ R a j
def CntR (n : Nat) (R : Nat → Nat → Prop) (k : Nat) : Option Nat → Nat → Nat → Prop
  | none => Thn (Pow n R k) (fun a j => ∃ t, Pow n R t a j)
  | some m => Thn (Pow n R k) (Pow n (OrId n R) (m - k))
/-- what a form fits, by what its parts fit -/
def comb (q : List Nat) (ρ : Nat → Nat → Nat → Prop) (fm : Fm) : Nat → Nat → Prop := match fm.kd with
  | .byte => (match fm.tl with
    | .mem m => ByteR q fun c => m.getD c false
    | _ => fun _ _ => False)
  | .begin_ => AtP q.length fun a => decide (a = 0)
  | .end_ => AtP q.length fun a => decide (a = q.length)
  | .edge => AtP q.length fun a => edgeN q a
  | .noEdge => AtP q.length fun a => !edgeN q a
  | .row => fm.parts.foldl (fun R p => Thn R (ρ p)) (Id q.length)
  | .either => fun a j => ∃ p ∈ fm.parts, ρ p a j
  | .both => fun a j => ∀ p ∈ fm.parts, ρ p a j
  | .turned => fun a j => a ≤ j ∧ j ≤ q.length ∧ ¬ ρ (fm.parts.headD 0) a j
  | .counted => (match fm.tl with
    | .cnt k m => CntR q.length (ρ (fm.parts.headD 0)) k m
    | _ => fun _ _ => False)
  | .group => ρ (fm.parts.headD 0)
def BitR (E : List Nat) : Nat → Nat → Prop := fun a j => bitAt E a j = true
/-- each form's numbers are right by its parts' -/
def Local (q : List Nat) (fs : List Fm) (Es : List (List Nat)) (i : Nat) : Prop := ∀ fm, fs[i]? = some fm → Fit q.length (Es.getD i []) (comb q (fun p => BitR (Es.getD p [])) fm)

/-! ### powers, cut short -/
theorem pow_short {n : Nat} {R : Nat → Nat → Prop} (f : Fwd n R) : ∀ (t : Nat) {a j : Nat}, Pow n R t a j → ∃ s, s ≤ t ∧ s ≤ j - a ∧ Pow n R s a j
  | 0, a, j, h => ⟨0, Nat.le_refl _, Nat.zero_le _, h⟩
  | t + 1, a, j, ⟨k, h1, h2⟩ => by
    obtain ⟨s, l1, l2, h3⟩ := pow_short f t h2
    have fk := f a k h1
    by_cases e : a = k
    · subst e; exact ⟨s, by omega, l2, h3⟩
    · have fj := (Fwd.pow f s k j h3).1
      exact ⟨s + 1, by omega, by omega, k, h1, h3⟩
theorem orId_fwd {n : Nat} {R : Nat → Nat → Prop} (f : Fwd n R) : Fwd n (OrId n R) := fun a j h => h.elim (Fwd.id n a j) (f a j)
theorem pow_orId {n : Nat} {R : Nat → Nat → Prop} (f : Fwd n R) : ∀ (t : Nat) {a j : Nat}, Pow n (OrId n R) t a j ↔ ∃ s, s ≤ t ∧ Pow n R s a j
  | 0, a, j => ⟨fun h => ⟨0, Nat.le_refl _, h⟩, fun ⟨s, l, h⟩ => by
      have : s = 0 := Nat.le_zero.mp l
      subst this; exact h⟩
  | t + 1, a, j => by
    constructor
    · rintro ⟨k, h1, h2⟩
      obtain ⟨s, l, h3⟩ := (pow_orId f t).mp h2
      rcases h1 with ⟨e, _⟩ | h1
      · subst e; exact ⟨s, by omega, h3⟩
      · exact ⟨s + 1, by omega, k, h1, h3⟩
    · rintro ⟨s, l, h⟩
      cases s with
      | zero => exact ⟨a, .inl ⟨rfl, h.2⟩, (pow_orId f t).mpr ⟨0, Nat.zero_le _, h⟩⟩
      | succ s =>
        obtain ⟨k, h1, h2⟩ := h
        exact ⟨k, .inr h1, (pow_orId f t).mpr ⟨s, by omega, h2⟩⟩
theorem pow_congr {n : Nat} {R R' : Nat → Nat → Prop} (f : Fwd n R) (h : ∀ a, a ≤ n → ∀ j, R a j ↔ R' a j) : ∀ (t : Nat) {a : Nat}, a ≤ n → ∀ j, Pow n R t a j ↔ Pow n R' t a j
  | 0, _, _, _ => Iff.rfl
  | t + 1, a, ha, j => then_congr f h (fun b hb k => pow_congr f h t hb k) ha j
theorem counted_has {n : Nat} {r : Rel} (hl : r.length = n + 1) (f : Fwd n (RelR r)) (k : Nat) (m : Option Nat) (hm : ∀ x, m = some x → k ≤ x) {a : Nat} (ha : a ≤ n) (j : Nat) : RelR (r.counted n k m) a j ↔ CntR n (RelR r) k m a j := by
  have hor : ∀ a, a ≤ n → ∀ j, RelR ((same n).or_ r) a j ↔ OrId n (RelR r) a j := fun a _ j => by
    rw [or_has (by rw [same_len, hl])]
    unfold OrId
    rw [same_has]
  have fo : Fwd n (RelR ((same n).or_ r)) := fun a j h => by
    rw [or_has (by rw [same_len, hl]), same_has] at h
    exact h.elim (Fwd.id n a j) (f a j)
  have fp := Fwd.pow f k
  have pw : ∀ (t : Nat) {b : Nat}, b ≤ n → ∀ j, RelR (((same n).or_ r).power n t) b j ↔ Pow n (OrId n (RelR r)) t b j := fun t b hb j => (power_has fo t hb j).trans (pow_congr fo hor t hb j)
  unfold Rel.counted
  rw [then_has]
  cases m with
  | none =>
    constructor
    · rintro ⟨b, h1, h2⟩
      have h1 := (power_has f k ha b).mp h1
      obtain ⟨s, _, h3⟩ := (pow_orId f _).mp ((pw _ (fp a b h1).2 j).mp h2)
      exact ⟨b, h1, s, h3⟩
    · rintro ⟨b, h1, t, h2⟩
      obtain ⟨s, _, l2, h3⟩ := pow_short f t h2
      have hb := (fp a b h1).2
      have hj := (Fwd.pow f t b j h2)
      exact ⟨b, (power_has f k ha b).mpr h1, (pw _ hb j).mpr ((pow_orId f _).mpr ⟨s, (by show s ≤ n + 1; omega), h3⟩)⟩
  | some x =>
    constructor
    · rintro ⟨b, h1, h2⟩
      have h1 := (power_has f k ha b).mp h1
      obtain ⟨s, l, h3⟩ := (pow_orId f _).mp ((pw _ (fp a b h1).2 j).mp h2)
      exact ⟨b, h1, (pow_orId f _).mpr ⟨s, Nat.le_trans l (Nat.min_le_left _ _), h3⟩⟩
    · rintro ⟨b, h1, h2⟩
      obtain ⟨s, l1, h3⟩ := (pow_orId f _).mp h2
      obtain ⟨s', l2, l3, h4⟩ := pow_short f s h3
      have hb := (fp a b h1).2
      have hj := Fwd.pow f s b j h3
      exact ⟨b, (power_has f k ha b).mpr h1, (pw _ hb j).mpr ((pow_orId f _).mpr ⟨s', (by show s' ≤ min (x - k) (n + 1); omega), h4⟩)⟩
theorem counted_len {n : Nat} {r : Rel} (h : r.length = n + 1) (k : Nat) (m : Option Nat) : (r.counted n k m).length = n + 1 := by
  unfold Rel.counted Rel.power
  rw [then_len]
  exact times_len h _ _
theorem cnt_fwd {n : Nat} {R : Nat → Nat → Prop} (f : Fwd n R) (k : Nat) (m : Option Nat) : Fwd n (CntR n R k m) := by
  cases m with
  | none => exact (Fwd.pow f k).then_ fun a j ⟨t, h⟩ => Fwd.pow f t a j h
  | some x => exact (Fwd.pow f k).then_ (Fwd.pow (orId_fwd f) _)

/-! ### the specification's patterns -/
theorem range_has {m : Nat} {f : Nat → List Nat} (a j : Nat) : RelR ((List.range m).map f) a j ↔ a < m ∧ j ∈ f a := by
  unfold RelR
  rw [has_iff, from_range]
  by_cases h : a < m
  · rw [if_pos h]; exact ⟨fun z => ⟨h, z⟩, fun z => z.2⟩
  · rw [if_neg h]; exact ⟨fun z => absurd z List.not_mem_nil, fun z => absurd z.1 h⟩
theorem zipIdx_has {r : Rel} {f : List Nat × Nat → List Nat} (a j : Nat) : RelR (r.zipIdx.map f) a j ↔ a < r.length ∧ j ∈ f (r.from_ a, a) := by
  unfold RelR
  rw [has_iff, from_map]
  by_cases h : a < r.length
  · have e : r.zipIdx[a]? = some (r.from_ a, a) := by
      rw [List.getElem?_zipIdx, List.getElem?_eq_getElem h]
      unfold Rel.from_
      rw [List.getD_eq_getElem?_getD, List.getElem?_eq_getElem h, Nat.zero_add]
      rfl
    rw [e]
    exact ⟨fun z => ⟨h, z⟩, fun z => z.2⟩
  · have e : r.zipIdx[a]? = none := List.getElem?_eq_none (by rw [List.length_zipIdx]; omega)
    rw [e]
    exact ⟨fun z => absurd z List.not_mem_nil, fun z => absurd z.1 h⟩
theorem set_has {q : List Nat} (h8 : Ok8 q) (neg : Bool) (l : List (Nat × Nat)) (a j : Nat) : RelR (rel (tx q) (.set neg l)) a j ↔ ByteR q (inSetN neg l) a j := by
  unfold rel
  rw [range_has, tx_length, tx_get]
  unfold ByteR
  cases e : q[a]? with
  | none =>
    have he : (Option.map UInt8.ofNat (none : Option Nat)).any (inSet neg l) = false := rfl
    rw [he, if_neg Bool.false_ne_true]
    exact ⟨fun z => absurd z.2 List.not_mem_nil, fun ⟨_, c, z, _⟩ => by cases z⟩
  | some c =>
    have hc : c < 256 := h8 c (List.mem_of_getElem? e)
    have ha : a < q.length := (List.getElem?_eq_some_iff.mp e).1
    have he : (Option.map UInt8.ofNat (some c)).any (inSet neg l) = inSetN neg l c := by
      show inSet neg l (UInt8.ofNat c) = _
      unfold inSet inSetN
      rw [k_nat c hc]
    rw [he]
    by_cases hs : inSetN neg l c = true
    · rw [if_pos hs, List.mem_singleton]
      exact ⟨fun z => ⟨z.2, c, rfl, hs⟩, fun z => ⟨by omega, z.1⟩⟩
    · rw [if_neg hs]
      exact ⟨fun z => absurd z.2 List.not_mem_nil, fun ⟨_, c', z, hz⟩ => by cases z; exact absurd hz hs⟩
theorem at_has {n : Nat} {f : Nat → Bool} {g : Nat → List Nat} (hg : ∀ a, a ≤ n → g a = if f a = true then [a] else []) (a j : Nat) : RelR ((List.range (n + 1)).map g) a j ↔ AtP n f a j := by
  rw [range_has]
  unfold AtP
  constructor
  · rintro ⟨h1, h2⟩
    rw [hg a (by omega)] at h2
    split at h2
    · rename_i hf; exact ⟨(List.mem_singleton.mp h2).symm, by omega, hf⟩
    · exact absurd h2 List.not_mem_nil
  · rintro ⟨rfl, h2, h3⟩
    refine ⟨by omega, ?_⟩
    rw [hg a h2, if_pos h3]
    exact List.mem_singleton.mpr rfl
theorem byte_fwd (q : List Nat) (f : Nat → Bool) : Fwd q.length (ByteR q f) := fun a j ⟨e, c, h, _⟩ => by
  have := (List.getElem?_eq_some_iff.mp h).1
  omega
theorem at_fwd (n : Nat) (f : Nat → Bool) : Fwd n (AtP n f) := fun a j ⟨e, h, _⟩ => by omega
theorem fwd_congr {n : Nat} {R R' : Nat → Nat → Prop} (f : Fwd n R) (h : ∀ a j, R' a j ↔ R a j) : Fwd n R' := fun a j z => f a j ((h a j).mp z)
theorem begin_has (s : Bytes) (a j : Nat) : RelR (rel s .begin_) a j ↔ AtP s.length (fun a => decide (a = 0)) a j := by
  unfold rel
  refine at_has (fun a _ => ?_) a j
  by_cases h : a = 0
  · rw [if_pos h, if_pos (decide_eq_true h), h]
  · rw [if_neg h, if_neg (by rw [decide_eq_false h]; exact Bool.false_ne_true)]
theorem end_has (s : Bytes) (a j : Nat) : RelR (rel s .end_) a j ↔ AtP s.length (fun a => decide (a = s.length)) a j := by
  unfold rel
  refine at_has (fun a _ => ?_) a j
  by_cases h : a = s.length
  · rw [if_pos h, if_pos (decide_eq_true h)]
  · rw [if_neg h, if_neg (by rw [decide_eq_false h]; exact Bool.false_ne_true)]
theorem bound_has (s : Bytes) (neg : Bool) (a j : Nat) : RelR (rel s (.bound neg)) a j ↔ AtP s.length (fun a => edge s a != neg) a j := by
  unfold rel
  exact at_has (fun a _ => rfl) a j
theorem both_has {s : Bytes} {a b : Pat} (ha : (rel s a).length = s.length + 1) (f : Fwd s.length (RelR (rel s a))) (i j : Nat) : RelR (rel s (.both a b)) i j ↔ RelR (rel s a) i j ∧ RelR (rel s b) i j := by
  show RelR ((rel s a).zipIdx.map fun x => x.1.filter ((rel s b).from_ x.2).contains) i j ↔ _
  rw [zipIdx_has, ha]
  unfold RelR
  rw [has_iff, List.mem_filter]
  constructor
  · rintro ⟨_, h1, h2⟩; exact ⟨h1, h2⟩
  · rintro ⟨h1, h2⟩
    have := f i j (has_iff.mpr h1)
    exact ⟨by omega, h1, h2⟩
theorem not_has {s : Bytes} {a : Pat} (ha : (rel s a).length = s.length + 1) (i j : Nat) : RelR (rel s (.not_ a)) i j ↔ i ≤ j ∧ j ≤ s.length ∧ ¬ RelR (rel s a) i j := by
  show RelR ((rel s a).zipIdx.map fun x => (List.range (s.length + 1)).filter fun j => decide (x.2 ≤ j) && !x.1.contains j) i j ↔ _
  rw [zipIdx_has, ha]
  rw [List.mem_filter, List.mem_range, Bool.and_eq_true, decide_eq_true_eq, Bool.not_eq_true']
  unfold RelR Rel.has
  constructor
  · rintro ⟨_, h1, h2, h3⟩
    exact ⟨h2, by omega, by rw [h3]; exact Bool.false_ne_true⟩
  · rintro ⟨h1, h2, h3⟩
    exact ⟨by omega, by omega, h1, Bool.eq_false_iff.mpr h3⟩
/-- lengths, and that it goes forward -/
theorem rel_ok {q : List Nat} (h8 : Ok8 q) : ∀ a : Pat, (rel (tx q) a).length = q.length + 1 ∧ Fwd q.length (RelR (rel (tx q) a))
  | .empty => ⟨by show (same (tx q).length).length = _; rw [same_len, tx_length], by
      refine fwd_congr (Fwd.id q.length) fun a j => ?_
      show RelR (same (tx q).length) a j ↔ _
      rw [same_has, tx_length]⟩
  | .set neg l => ⟨by unfold rel; rw [List.length_map, List.length_range, tx_length], fwd_congr (byte_fwd q _) (set_has h8 neg l)⟩
  | .begin_ => ⟨by unfold rel; rw [List.length_map, List.length_range, tx_length], by have := fwd_congr (at_fwd (tx q).length _) (begin_has (tx q)); rw [tx_length] at this; exact this⟩
  | .end_ => ⟨by unfold rel; rw [List.length_map, List.length_range, tx_length], by have := fwd_congr (at_fwd (tx q).length _) (end_has (tx q)); rw [tx_length] at this; exact this⟩
  | .bound neg => ⟨by unfold rel; rw [List.length_map, List.length_range, tx_length], by have := fwd_congr (at_fwd (tx q).length _) (bound_has (tx q) neg); rw [tx_length] at this; exact this⟩
  | .seq a b => ⟨by show ((rel (tx q) a).then_ (rel (tx q) b)).length = _; rw [then_len]; exact (rel_ok h8 a).1, fwd_congr ((rel_ok h8 a).2.then_ (rel_ok h8 b).2) fun i j => then_has i j⟩
  | .alt a b => ⟨by show ((rel (tx q) a).or_ (rel (tx q) b)).length = _; rw [or_len ((rel_ok h8 a).1.trans (rel_ok h8 b).1.symm)]; exact (rel_ok h8 a).1, fun i j h => by
      have := (or_has ((rel_ok h8 a).1.trans (rel_ok h8 b).1.symm) i j).mp h
      exact this.elim ((rel_ok h8 a).2 i j) ((rel_ok h8 b).2 i j)⟩
  | .both a b => ⟨by unfold rel; rw [List.length_map, List.length_zipIdx]; exact (rel_ok h8 a).1, fun i j h => by
      have f := (rel_ok h8 a).2
      have := (both_has (s := tx q) (a := a) (b := b) (by rw [tx_length]; exact (rel_ok h8 a).1) (by rw [tx_length]; exact f) i j).mp h
      exact f i j this.1⟩
  | .not_ a => ⟨by unfold rel; rw [List.length_map, List.length_zipIdx]; exact (rel_ok h8 a).1, fun i j h => by
      have := (not_has (s := tx q) (a := a) (by rw [tx_length]; exact (rel_ok h8 a).1) i j).mp h
      rw [tx_length] at this
      exact ⟨this.1, this.2.1⟩⟩
  | .group _ a => rel_ok h8 a
  | .rep a k m => ⟨by show ((rel (tx q) a).counted (tx q).length k m).length = _; rw [tx_length]; exact counted_len (rel_ok h8 a).1 k m, fun i j h => by
      have h' : RelR ((rel (tx q) a).counted (tx q).length k m) i j := h
      rw [tx_length] at h'
      have f := (rel_ok h8 a).2
      have l := (rel_ok h8 a).1
      have fo : Fwd q.length (RelR ((same q.length).or_ (rel (tx q) a))) := fun a j h => by
        rw [or_has (by rw [same_len, l]), same_has] at h
        exact h.elim (Fwd.id _ a j) (f a j)
      unfold Rel.counted at h'
      rw [then_has] at h'
      obtain ⟨b, h1, h2⟩ := h'
      have hi : i ≤ q.length := by
        have e : i < ((rel (tx q) a).power q.length k).length := by
          rcases Nat.lt_or_ge i ((rel (tx q) a).power q.length k).length with z | z
          · exact z
          · unfold RelR at h1
            rw [has_iff] at h1
            unfold Rel.from_ at h1
            rw [List.getD_eq_getElem?_getD, List.getElem?_eq_none z] at h1
            exact absurd h1 List.not_mem_nil
        unfold Rel.power at e
        rw [times_len l] at e
        omega
      have g1 := Fwd.pow f k i b ((power_has f k hi b).mp h1)
      have g2 := Fwd.pow fo _ b j ((power_has fo _ g1.2 j).mp h2)
      omega⟩
end PF
/-! Part M3: from forms laid out to what they fit. -/
namespace PF
open WrPatt
def FitL (q : List Nat) (Es : List (List Nat)) : List Nat → List Pat → Prop
  | [], [] => True
  | j :: js, a :: as => Fit q.length (Es.getD j []) (RelR (rel (tx q) a)) ∧ FitL q Es js as
  | _, _ => False
def SeqR (q : List Nat) : List Pat → Nat → Nat → Prop
  | [] => Id q.length
  | a :: as => Thn (RelR (rel (tx q) a)) (SeqR q as)
theorem seqR_fwd {q : List Nat} (h8 : Ok8 q) : ∀ as, Fwd q.length (SeqR q as)
  | [] => Fwd.id _
  | a :: as => (rel_ok h8 a).2.then_ (seqR_fwd h8 as)
theorem seqR_is {q : List Nat} (h8 : Ok8 q) : ∀ as i j, RelR (rel (tx q) (seqOf as)) i j ↔ SeqR q as i j
  | [], i, j => by
    show RelR (same (tx q).length) i j ↔ _
    rw [same_has, tx_length]; exact Iff.rfl
  | [a], i, j => (then_id (rel_ok h8 a).2 i j).symm
  | a :: b :: r, i, j => by
    show RelR ((rel (tx q) a).then_ (rel (tx q) (seqOf (b :: r)))) i j ↔ _
    rw [then_has]
    exact ⟨fun ⟨k, h1, h2⟩ => ⟨k, h1, (seqR_is h8 (b :: r) k j).mp h2⟩, fun ⟨k, h1, h2⟩ => ⟨k, h1, (seqR_is h8 (b :: r) k j).mpr h2⟩⟩
theorem fold_is {q : List Nat} (h8 : Ok8 q) {Es : List (List Nat)} : ∀ {js : List Nat} {as : List Pat} {R0 : Nat → Nat → Prop}, FitL q Es js as → Fwd q.length R0 → ∀ a, a ≤ q.length → ∀ j, js.foldl (fun R p => Thn R (BitR (Es.getD p []))) R0 a j ↔ Thn R0 (SeqR q as) a j
  | [], [], R0, _, f, a, _, j => (then_id f a j).symm
  | [], _ :: _, _, h, _, _, _, _ => h.elim
  | _ :: _, [], _, h, _, _, _, _ => h.elim
  | p :: js, b :: as, R0, h, f, a, ha, j => by
    have e : ∀ c, c ≤ q.length → ∀ k, BitR (Es.getD p []) c k ↔ RelR (rel (tx q) b) c k := fun c hc k => h.1.bit c hc k
    have f1 : Fwd q.length (Thn R0 (BitR (Es.getD p []))) := fun c k ⟨l, h1, h2⟩ => by
      have g1 := f c l h1
      have g2 := (rel_ok h8 b).2 l k ((e l g1.2 k).mp h2)
      omega
    rw [List.foldl_cons, fold_is h8 h.2 f1 a ha j]
    constructor
    · rintro ⟨k, ⟨l, h1, h2⟩, h3⟩
      exact ⟨l, h1, k, (e l (f a l h1).2 k).mp h2, h3⟩
    · rintro ⟨l, h1, k, h2, h3⟩
      exact ⟨k, ⟨l, h1, (e l (f a l h1).2 k).mpr h2⟩, h3⟩
theorem altR_is {q : List Nat} (h8 : Ok8 q) {Es : List (List Nat)} : ∀ {js : List Nat} {as : List Pat}, FitL q Es js as → js ≠ [] → ∀ a, a ≤ q.length → ∀ j, (∃ p ∈ js, BitR (Es.getD p []) a j) ↔ RelR (rel (tx q) (altOf as)) a j
  | [], _, _, hn, _, _, _ => absurd rfl hn
  | _ :: _, [], h, _, _, _, _ => h.elim
  | [p], [b], h, _, a, ha, j => by
    have e := h.1.bit a ha j
    exact ⟨fun ⟨x, hx, hb⟩ => by rw [List.mem_singleton.mp hx] at hb; exact e.mp hb, fun z => ⟨p, List.mem_singleton.mpr rfl, e.mpr z⟩⟩
  | [_], _ :: _ :: _, h, _, _, _, _ => h.2.elim
  | _ :: _ :: _, [_], h, _, _, _, _ => h.2.elim
  | p :: p2 :: js, b :: b2 :: as, h, _, a, ha, j => by
    have e := h.1.bit a ha j
    have ih := altR_is h8 (js := p2 :: js) (as := b2 :: as) h.2 (fun z => by cases z) a ha j
    have eo := or_has (r := rel (tx q) b) (q := rel (tx q) (altOf (b2 :: as))) ((rel_ok h8 b).1.trans (rel_ok h8 _).1.symm) a j
    refine Iff.trans ?_ eo.symm
    constructor
    · rintro ⟨x, hx, hb⟩
      rcases List.mem_cons.mp hx with hx | hx
      · rw [hx] at hb; exact .inl (e.mp hb)
      · exact .inr (ih.mp ⟨x, hx, hb⟩)
    · rintro (hz | hz)
      · exact ⟨p, List.mem_cons_self, e.mpr hz⟩
      · obtain ⟨x, hx, hb⟩ := ih.mpr hz
        exact ⟨x, List.mem_cons_of_mem _ hx, hb⟩
theorem bothR_is {q : List Nat} (h8 : Ok8 q) {Es : List (List Nat)} : ∀ {js : List Nat} {as : List Pat}, FitL q Es js as → js ≠ [] → ∀ a, a ≤ q.length → ∀ j, (∀ p ∈ js, BitR (Es.getD p []) a j) ↔ RelR (rel (tx q) (bothOf as)) a j
  | [], _, _, hn, _, _, _ => absurd rfl hn
  | _ :: _, [], h, _, _, _, _ => h.elim
  | [p], [b], h, _, a, ha, j => by
    have e := h.1.bit a ha j
    exact ⟨fun z => e.mp (z p (List.mem_singleton.mpr rfl)), fun z x hx => by rw [List.mem_singleton.mp hx]; exact e.mpr z⟩
  | [_], _ :: _ :: _, h, _, _, _, _ => h.2.elim
  | _ :: _ :: _, [_], h, _, _, _, _ => h.2.elim
  | p :: p2 :: js, b :: b2 :: as, h, _, a, ha, j => by
    have e := h.1.bit a ha j
    have ih := bothR_is h8 (js := p2 :: js) (as := b2 :: as) h.2 (fun z => by cases z) a ha j
    have eo := both_has (s := tx q) (a := b) (b := bothOf (b2 :: as)) (by rw [tx_length]; exact (rel_ok h8 b).1) (by rw [tx_length]; exact (rel_ok h8 b).2) a j
    refine Iff.trans ?_ eo.symm
    constructor
    · intro z
      exact ⟨e.mp (z p List.mem_cons_self), ih.mp fun x hx => z x (List.mem_cons_of_mem _ hx)⟩
    · rintro ⟨z1, z2⟩ x hx
      rcases List.mem_cons.mp hx with hx | hx
      · rw [hx]; exact e.mpr z1
      · exact ih.mpr z2 x hx
theorem cnt_congr {n : Nat} {R R' : Nat → Nat → Prop} (f : Fwd n R') (h : ∀ a, a ≤ n → ∀ j, R a j ↔ R' a j) (k : Nat) (m : Option Nat) {a : Nat} (ha : a ≤ n) (j : Nat) : CntR n R k m a j ↔ CntR n R' k m a j := by
  -- what R says from places within n is all that counts
  have hp : ∀ (t : Nat) {b : Nat}, b ≤ n → ∀ j, Pow n R t b j ↔ Pow n R' t b j := fun t b hb j => (pow_congr f (fun a ha j => (h a ha j).symm) t hb j).symm
  have ho : ∀ a, a ≤ n → ∀ j, OrId n R' a j ↔ OrId n R a j := fun a ha j => or_congr Iff.rfl (h a ha j).symm
  have hq : ∀ (t : Nat) {b : Nat}, b ≤ n → ∀ j, Pow n (OrId n R) t b j ↔ Pow n (OrId n R') t b j := fun t b hb j => (pow_congr (orId_fwd f) ho t hb j).symm
  cases m with
  | none =>
    constructor
    · rintro ⟨b, h1, t, h2⟩
      have h1 := (hp k ha b).mp h1
      exact ⟨b, h1, t, (hp t (Fwd.pow f k a b h1).2 j).mp h2⟩
    · rintro ⟨b, h1, t, h2⟩
      exact ⟨b, (hp k ha b).mpr h1, t, (hp t (Fwd.pow f k a b h1).2 j).mpr h2⟩
  | some x =>
    constructor
    · rintro ⟨b, h1, h2⟩
      have h1 := (hp k ha b).mp h1
      exact ⟨b, h1, (hq _ (Fwd.pow f k a b h1).2 j).mp h2⟩
    · rintro ⟨b, h1, h2⟩
      exact ⟨b, (hp k ha b).mpr h1, (hq _ (Fwd.pow f k a b h1).2 j).mpr h2⟩
theorem atP_congr {n : Nat} {f g : Nat → Bool} (h : ∀ a, a ≤ n → f a = g a) (a j : Nat) : AtP n f a j ↔ AtP n g a j := by
  unfold AtP
  constructor
  · rintro ⟨e, l, z⟩; exact ⟨e, l, by rw [← h a l]; exact z⟩
  · rintro ⟨e, l, z⟩; exact ⟨e, l, by rw [h a l]; exact z⟩
theorem memOf_getD (f : Nat → Bool) {c : Nat} (h : c < 256) : (memOf f).getD c false = f c := by
  rw [List.getD_eq_getElem?_getD, memOf_get h]; rfl
mutual
theorem lay_fit {q : List Nat} (h8 : Ok8 q) {fs : List Fm} {Es : List (List Nat)} : ∀ {lo hi g h : Nat} {a : Pat}, Lay fs lo hi g h a → (∀ i, lo ≤ i → i < hi → Local q fs Es i) → Fit q.length (Es.getD (hi - 1) []) (RelR (rel (tx q) a))
  | lo, _, _, _, _, .byte (neg := neg) (l := l) (f := f) e hf, H => by
    refine (H lo (Nat.le_refl _) (Nat.lt_succ_self _) _ e).ext fun a _ j => ?_
    rw [set_has h8]
    show ByteR q (fun c => (memOf f).getD c false) a j ↔ _
    unfold ByteR
    constructor
    · rintro ⟨e, c, hc, z⟩
      have c8 := h8 c (List.mem_of_getElem? hc)
      exact ⟨e, c, hc, by rw [← hf c c8, ← memOf_getD f c8]; exact z⟩
    · rintro ⟨e, c, hc, z⟩
      have c8 := h8 c (List.mem_of_getElem? hc)
      exact ⟨e, c, hc, by show (memOf f).getD c false = true; rw [memOf_getD f c8, hf c c8]; exact z⟩
  | lo, _, _, _, _, .begin_ e, H => (H lo (Nat.le_refl _) (Nat.lt_succ_self _) _ e).ext fun a _ j => by
      have := begin_has (tx q) a j
      rw [tx_length] at this
      exact this.symm
  | lo, _, _, _, _, .end_ e, H => (H lo (Nat.le_refl _) (Nat.lt_succ_self _) _ e).ext fun a _ j => by
      have := end_has (tx q) a j
      rw [tx_length] at this
      exact this.symm
  | lo, _, _, _, _, .edge e, H => (H lo (Nat.le_refl _) (Nat.lt_succ_self _) _ e).ext fun a _ j => by
      have := bound_has (tx q) false a j
      rw [tx_length] at this
      refine Iff.trans ?_ this.symm
      exact atP_congr (fun a _ => by rw [edge_is h8]; cases edgeN q a <;> rfl) a j
  | lo, _, _, _, _, .noEdge e, H => (H lo (Nat.le_refl _) (Nat.lt_succ_self _) _ e).ext fun a _ j => by
      have := bound_has (tx q) true a j
      rw [tx_length] at this
      refine Iff.trans ?_ this.symm
      show AtP q.length (fun a => !edgeN q a) a j ↔ _
      exact atP_congr (fun a _ => by rw [edge_is h8]; cases edgeN q a <;> rfl) a j
  | lo, _, _, _, _, .row (hi := hi) l n e, H => by
    have fl := layL_fit h8 l fun i h1 h2 => H i h1 (Nat.lt_succ_of_lt h2)
    refine (H hi (LayL.le l).1 (Nat.lt_succ_self _) _ e).ext fun a ha j => ?_
    rw [seqR_is h8]
    exact (fold_is h8 fl (Fwd.id _) a ha j).trans (id_then ha j)
  | lo, _, _, _, _, .either (hi := hi) l n e, H => by
    have fl := layL_fit h8 l fun i h1 h2 => H i h1 (Nat.lt_succ_of_lt h2)
    refine (H hi (LayL.le l).1 (Nat.lt_succ_self _) _ e).ext fun a ha j => ?_
    exact altR_is h8 fl (fun z => by rw [z] at n; exact absurd n (by decide)) a ha j
  | lo, _, _, _, _, .both (hi := hi) l n e, H => by
    have fl := layL_fit h8 l fun i h1 h2 => H i h1 (Nat.lt_succ_of_lt h2)
    refine (H hi (LayL.le l).1 (Nat.lt_succ_self _) _ e).ext fun a ha j => ?_
    exact bothR_is h8 fl (fun z => by rw [z] at n; exact absurd n (by decide)) a ha j
  | lo, _, _, _, _, .turned (hi := hi) (a := b) l e, H => by
    have fl := lay_fit h8 l fun i h1 h2 => H i h1 (Nat.lt_succ_of_lt h2)
    refine (H hi (Nat.le_of_lt (Lay.lt l).1) (Nat.lt_succ_self _) _ e).ext fun a ha j => ?_
    have := not_has (s := tx q) (a := b) (by rw [tx_length]; exact (rel_ok h8 b).1) a j
    rw [tx_length] at this
    refine Iff.trans ?_ this.symm
    exact and_congr Iff.rfl (and_congr Iff.rfl (not_congr (fl.bit a ha j)))
  | lo, _, _, _, _, .counted (hi := hi) (n := k) (m := m) (a := b) l h1 h2 e, H => by
    have fl := lay_fit h8 l fun i h1 h2 => H i h1 (Nat.lt_succ_of_lt h2)
    refine (H hi (Nat.le_of_lt (Lay.lt l).1) (Nat.lt_succ_self _) _ e).ext fun a ha j => ?_
    have := counted_has (rel_ok h8 b).1 (rel_ok h8 b).2 k m (fun x hx => (h2 x hx).1) ha j
    refine Iff.trans ?_ (Iff.trans this.symm ?_)
    · exact cnt_congr (rel_ok h8 b).2 (fun c hc i => fl.bit c hc i) k m ha j
    · show RelR ((rel (tx q) b).counted q.length k m) a j ↔ RelR ((rel (tx q) b).counted (tx q).length k m) a j
      rw [tx_length]
  | lo, _, _, _, _, .group (hi := hi) l e, H => by
    have fl := lay_fit h8 l fun i h1 h2 => H i h1 (Nat.lt_succ_of_lt h2)
    exact (H hi (Nat.le_of_lt (Lay.lt l).1) (Nat.lt_succ_self _) _ e).ext fun a ha j => fl.bit a ha j
theorem layL_fit {q : List Nat} (h8 : Ok8 q) {fs : List Fm} {Es : List (List Nat)} : ∀ {lo hi g h : Nat} {js : List Nat} {as : List Pat}, LayL fs lo hi g h js as → (∀ i, lo ≤ i → i < hi → Local q fs Es i) → FitL q Es js as
  | _, _, _, _, _, _, .nil, _ => trivial
  | lo, hi, _, _, _, _, .cons (mid := mid) a l, H => ⟨lay_fit h8 a fun i h1 h2 => H i h1 (Nat.lt_of_lt_of_le h2 (LayL.le l).1), layL_fit h8 l fun i h1 h2 => H i (Nat.le_trans (Nat.le_of_lt (Lay.lt a).1) h1) h2⟩
end
/-- a form as it may stand at a place -/
inductive Shp (i : Nat) : Fm → Prop where
  | byte (f : Nat → Bool) : Shp i (byteF f)
  | begin_ : Shp i ⟨.begin_, [], .non⟩
  | end_ : Shp i ⟨.end_, [], .non⟩
  | edge : Shp i ⟨.edge, [], .non⟩
  | noEdge : Shp i ⟨.noEdge, [], .non⟩
  | row (js : List Nat) : (∀ j ∈ js, j < i) → js.length ≤ i → Shp i ⟨.row, js, .non⟩
  | either (js : List Nat) : (∀ j ∈ js, j < i) → js.length ≤ i → js ≠ [] → Shp i ⟨.either, js, .non⟩
  | both (js : List Nat) : (∀ j ∈ js, j < i) → js.length ≤ i → js ≠ [] → Shp i ⟨.both, js, .non⟩
  | turned (j : Nat) : j < i → Shp i ⟨.turned, [j], .non⟩
  | counted (j n : Nat) (m : Option Nat) : j < i → n ≤ 100 → (∀ k, m = some k → n ≤ k ∧ k ≤ 100) → Shp i ⟨.counted, [j], .cnt n m⟩
  | group (j k : Nat) : j < i → Shp i ⟨.group, [j], .num k⟩
theorem layL_lt {fs : List Fm} : ∀ {lo hi g h : Nat} {js : List Nat} {as : List Pat}, LayL fs lo hi g h js as → ∀ j ∈ js, j < hi
  | _, _, _, _, _, _, .nil, _, hj => absurd hj List.not_mem_nil
  | _, _, _, _, _, _, .cons a l, j, hj => by
    have h1 := Lay.lt a
    have h2 := LayL.le l
    rcases List.mem_cons.mp hj with e | e
    · omega
    · exact layL_lt l j e
theorem layL_room {fs : List Fm} : ∀ {lo hi g h : Nat} {js : List Nat} {as : List Pat}, LayL fs lo hi g h js as → js.length + lo ≤ hi
  | _, _, _, _, _, _, .nil => by simp
  | _, _, _, _, _, _, .cons a l => by
    have h1 := Lay.lt a
    have h2 := layL_room l
    rw [List.length_cons]
    omega
theorem layL_lens {fs : List Fm} {lo hi g h : Nat} {js : List Nat} {as : List Pat} (l : LayL fs lo hi g h js as) : js.length ≤ hi := by
  have := layL_room l
  omega
mutual
theorem lay_shp {fs : List Fm} : ∀ {lo hi g h : Nat} {a : Pat}, Lay fs lo hi g h a → ∀ i, lo ≤ i → i < hi → ∃ fm, fs[i]? = some fm ∧ Shp i fm
  | lo, _, _, _, _, .byte (f := f) e _, i, h1, h2 => by
    have : i = lo := by omega
    subst this; exact ⟨_, e, .byte f⟩
  | lo, _, _, _, _, .begin_ e, i, h1, h2 => by
    have : i = lo := by omega
    subst this; exact ⟨_, e, .begin_⟩
  | lo, _, _, _, _, .end_ e, i, h1, h2 => by
    have : i = lo := by omega
    subst this; exact ⟨_, e, .end_⟩
  | lo, _, _, _, _, .edge e, i, h1, h2 => by
    have : i = lo := by omega
    subst this; exact ⟨_, e, .edge⟩
  | lo, _, _, _, _, .noEdge e, i, h1, h2 => by
    have : i = lo := by omega
    subst this; exact ⟨_, e, .noEdge⟩
  | _, _, _, _, _, .row (hi := hi) (js := js) l n e, i, h1, h2 => by
    rcases Nat.lt_succ_iff_lt_or_eq.mp h2 with h | h
    · exact layL_shp l i h1 h
    · subst h; exact ⟨_, e, .row js (layL_lt l) (layL_lens l)⟩
  | _, _, _, _, _, .either (hi := hi) (js := js) l n e, i, h1, h2 => by
    rcases Nat.lt_succ_iff_lt_or_eq.mp h2 with h | h
    · exact layL_shp l i h1 h
    · subst h; exact ⟨_, e, .either js (layL_lt l) (layL_lens l) (fun z => by rw [z] at n; exact absurd n (by decide))⟩
  | _, _, _, _, _, .both (hi := hi) (js := js) l n e, i, h1, h2 => by
    rcases Nat.lt_succ_iff_lt_or_eq.mp h2 with h | h
    · exact layL_shp l i h1 h
    · subst h; exact ⟨_, e, .both js (layL_lt l) (layL_lens l) (fun z => by rw [z] at n; exact absurd n (by decide))⟩
  | _, _, _, _, _, .turned (hi := hi) l e, i, h1, h2 => by
    have := Lay.lt l
    rcases Nat.lt_succ_iff_lt_or_eq.mp h2 with h | h
    · exact lay_shp l i h1 h
    · subst h; exact ⟨_, e, .turned _ (by omega)⟩
  | _, _, _, _, _, .counted (hi := hi) l n m e, i, h1, h2 => by
    have := Lay.lt l
    rcases Nat.lt_succ_iff_lt_or_eq.mp h2 with h | h
    · exact lay_shp l i h1 h
    · subst h; exact ⟨_, e, .counted _ _ _ (by omega) n m⟩
  | _, _, _, _, _, .group (hi := hi) l e, i, h1, h2 => by
    have := Lay.lt l
    rcases Nat.lt_succ_iff_lt_or_eq.mp h2 with h | h
    · exact lay_shp l i h1 h
    · subst h; exact ⟨_, e, .group _ _ (by omega)⟩
theorem layL_shp {fs : List Fm} : ∀ {lo hi g h : Nat} {js : List Nat} {as : List Pat}, LayL fs lo hi g h js as → ∀ i, lo ≤ i → i < hi → ∃ fm, fs[i]? = some fm ∧ Shp i fm
  | _, _, _, _, _, _, .nil, i, h1, h2 => by omega
  | _, _, _, _, _, _, .cons (mid := mid) a l, i, h1, h2 => by
    rcases Nat.lt_or_ge i mid with h | h
    · exact lay_shp a i h1 h
    · exact layL_shp l i h h2
end
theorem finish_len {S S' : Rd} (h : finish S = .ok S') : S'.forms.length ≤ S.forms.length + 3 := by
  unfold finish at h
  split at h
  · cases h
  · cases h
    show (endLevelL S.groups S.forms S.top).1.length ≤ _
    unfold endLevelL endRowL endPartL
    dsimp only
    refine Nat.le_trans keepJoined_le ?_
    refine Nat.le_trans (Nat.succ_le_succ keepJoined_le) ?_
    exact Nat.succ_le_succ (Nat.succ_le_succ keepJoined_le)
theorem res_len {p : List Nat} (hp : Ok8 p) {S : Rd} {r : Except Flt Rd} (h : Res p S r) : S.Sm p → ∀ S', r = .ok S' → S'.forms.length ≤ 5 * p.length + 3 := by
  induction h with
  | fin hl =>
    intro sm S' e
    have := finish_len e
    have h1 := sm.fs
    have h2 := sm.pl
    omega
  | err _ _ => intro sm S' e; cases e
  | go hl hs _ ih => exact fun sm S' e => ih (step_sm hp sm hl hs) S' e
/-- what parts that only go on make up goes on only -/
theorem comb_fwd {q : List Nat} {ρ : Nat → Nat → Nat → Prop} {i : Nat} {fm : Fm} (h : Shp i fm) (hρ : ∀ p, p < i → Fwd q.length (ρ p)) : Fwd q.length (comb q ρ fm) := by
  have atp : ∀ f : Nat → Bool, Fwd q.length (AtP q.length f) := fun f a j ⟨e, l, _⟩ => ⟨Nat.le_of_eq e, e ▸ l⟩
  cases h with
  | byte f =>
    exact fun a j ⟨e, c, hc, _⟩ => by
      have := (List.getElem?_eq_some_iff.mp hc).1
      omega
  | begin_ => exact atp _
  | end_ => exact atp _
  | edge => exact atp _
  | noEdge => exact atp _
  | row js hj _ =>
    have go : ∀ (l : List Nat) (R : Nat → Nat → Prop), Fwd q.length R → (∀ p ∈ l, p < i) → Fwd q.length (l.foldl (fun R p => Thn R (ρ p)) R) := by
      intro l
      induction l with
      | nil => exact fun R f _ => f
      | cons p l ih => exact fun R f hl => ih _ (f.then_ (hρ p (hl p List.mem_cons_self))) fun x hx => hl x (List.mem_cons_of_mem _ hx)
    exact go js _ (Fwd.id _) hj
  | either js hj _ _ => exact fun a j ⟨p, hp, hr⟩ => hρ p (hj p hp) a j hr
  | both js hj _ hne =>
    obtain ⟨p, l, rfl⟩ : ∃ p l, js = p :: l := by
      cases js with
      | nil => exact absurd rfl hne
      | cons p l => exact ⟨p, l, rfl⟩
    exact fun a j h => hρ p (hj p List.mem_cons_self) a j (h p List.mem_cons_self)
  | turned j hj => exact fun a j ⟨h1, h2, _⟩ => ⟨h1, h2⟩
  | counted j n m hj _ _ =>
    have f := hρ j hj
    cases m with
    | none => exact (Fwd.pow f n).then_ fun a j ⟨t, h⟩ => Fwd.pow f t a j h
    | some m => exact (Fwd.pow f n).then_ (Fwd.pow (orId_fwd f) _)
  | group j k hj => exact hρ j hj
end PF
/-! Part D1: bits; what stands behind one another. -/
namespace RM
open PySem PySem.Spec PyProof.Rows L2 PF
theorem or_nat (a b : Nat) : Builtin.bitOr (a : Int) (b : Int) = ((a ||| b : Nat) : Int) := by
  rw [bitOr_nn (Int.natCast_nonneg _) (Int.natCast_nonneg _), Int.toNat_natCast, Int.toNat_natCast]
theorem and_nat (a b : Nat) : Builtin.bitAnd (a : Int) (b : Int) = ((a &&& b : Nat) : Int) := by
  show (match decide (0 ≤ (a : Int)), decide (0 ≤ (b : Int)) with
    | true, true => (((a : Int).toNat &&& (b : Int).toNat : Nat) : Int)
    | true, false => (a : Int) - (((a : Int).toNat &&& (Builtin.bitNot b).toNat : Nat) : Int)
    | false, true => (b : Int) - (((b : Int).toNat &&& (Builtin.bitNot a).toNat : Nat) : Int)
    | false, false => Builtin.bitNot (((Builtin.bitNot a).toNat ||| (Builtin.bitNot b).toNat : Nat) : Int)) = _
  rw [decide_eq_true (Int.natCast_nonneg a), decide_eq_true (Int.natCast_nonneg b)]
  dsimp only
  rw [Int.toNat_natCast, Int.toNat_natCast]
/-- a & ~b -/
theorem andNot_nat (a b : Nat) : ∃ c : Nat, Builtin.bitAnd (a : Int) (Builtin.bitNot (b : Int)) = (c : Int) ∧ ∀ j, c.testBit j = (a.testBit j && !b.testBit j) := by
  have e : Builtin.bitAnd (a : Int) (Builtin.bitNot (b : Int)) = (a : Int) - ((a &&& b : Nat) : Int) := by
    have h1 : ¬ (0 : Int) ≤ -(b : Int) - 1 := by omega
    show (match decide (0 ≤ (a : Int)), decide (0 ≤ -(b : Int) - 1) with
      | true, true => (((a : Int).toNat &&& (-(b : Int) - 1).toNat : Nat) : Int)
      | true, false => (a : Int) - (((a : Int).toNat &&& (-(-(b : Int) - 1) - 1).toNat : Nat) : Int)
      | false, true => (-(b : Int) - 1) - (((-(b : Int) - 1).toNat &&& (-(a : Int) - 1).toNat : Nat) : Int)
      | false, false => Builtin.bitNot (((-(a : Int) - 1).toNat ||| (-(-(b : Int) - 1) - 1).toNat : Nat) : Int)) = _
    rw [decide_eq_true (Int.natCast_nonneg a), decide_eq_false h1]
    dsimp only
    have h2 : -(-(b : Int) - 1) - 1 = (b : Int) := by omega
    rw [h2, Int.toNat_natCast, Int.toNat_natCast]
  have key : a = (a &&& b) + (a ^^^ (a &&& b)) ∧ ∀ j, (a ^^^ (a &&& b)).testBit j = (a.testBit j && !b.testBit j) := by
    have t : ∀ j, (a ^^^ (a &&& b)).testBit j = (a.testBit j && !b.testBit j) := fun j => by
      rw [Nat.testBit_xor, Nat.testBit_and]
      cases a.testBit j <;> cases b.testBit j <;> rfl
    have d : (a &&& b) &&& (a ^^^ (a &&& b)) = 0 := by
      refine Nat.eq_of_testBit_eq fun j => ?_
      rw [Nat.testBit_and, t, Nat.testBit_and, Nat.zero_testBit]
      cases a.testBit j <;> cases b.testBit j <;> rfl
    have o : (a &&& b) ||| (a ^^^ (a &&& b)) = a := by
      refine Nat.eq_of_testBit_eq fun j => ?_
      rw [Nat.testBit_or, t, Nat.testBit_and]
      cases a.testBit j <;> cases b.testBit j <;> rfl
    have s := nat_or_add_and (a &&& b) (a ^^^ (a &&& b))
    rw [o, d] at s
    exact ⟨by omega, t⟩
  refine ⟨a ^^^ (a &&& b), ?_, key.2⟩
  rw [e]
  have := key.1
  omega
theorem shl_nat (k : Nat) : (1 : Int) * 2 ^ ((k : Int).toNat) = ((2 ^ k : Nat) : Int) := by
  rw [Int.one_mul, Int.toNat_natCast]
  exact (PySem.W.kbt_cast k)
theorem cpow {k : Nat} (h : k ≤ 1000) : CPow 1 (k : Int) := ⟨by omega, by omega, by decide⟩
theorem bits_nat (m : Nat) : Builtin.Int.intBits (m : Int) = if m = 0 then 0 else m.log2 + 1 := by
  unfold Builtin.Int.intBits
  by_cases h : m = 0
  · subst h; rfl
  · rw [if_neg h, if_neg (by intro z; exact h (by have := beq_iff_eq.mp z; omega)), Int.natAbs_natCast]
/-- the highest bit taken off -/
theorem top_bit {m : Nat} (h : 0 < m) : m.testBit m.log2 = true ∧ (m ^^^ 2 ^ m.log2) < m ∧ ∀ j, (m ^^^ 2 ^ m.log2).testBit j = (m.testBit j && !decide (j = m.log2)) := by
  have hn : m ≠ 0 := by omega
  have l1 : 2 ^ m.log2 ≤ m := Nat.log2_self_le hn
  have l2 : m < 2 ^ (m.log2 + 1) := Nat.lt_log2_self
  have t : m.testBit m.log2 = true := by
    rw [Nat.testBit_eq_decide_div_mod_eq]
    have : m / 2 ^ m.log2 = 1 := by
      refine Nat.div_eq_of_lt_le (by omega) ?_
      rw [Nat.pow_succ] at l2
      omega
    rw [this]; rfl
  have x : ∀ j, (m ^^^ 2 ^ m.log2).testBit j = (m.testBit j && !decide (j = m.log2)) := fun j => by
    rw [Nat.testBit_xor, Nat.testBit_two_pow]
    by_cases c : m.log2 = j
    · rw [decide_eq_true c, ← c, t, decide_eq_true rfl]; rfl
    · rw [decide_eq_false c, decide_eq_false (fun z => c z.symm)]
      cases m.testBit j <;> rfl
  refine ⟨t, Nat.lt_of_lt_of_le ?_ l1, x⟩
  refine Nat.lt_pow_two_of_testBit _ fun i hi => ?_
  rw [x]
  by_cases c : i = m.log2
  · rw [decide_eq_true c, Bool.not_true, Bool.and_false]
  · have : m.testBit i = false := Nat.testBit_lt_two_pow (Nat.lt_of_lt_of_le l2 (Nat.pow_le_pow_right (by decide) (by omega)))
    rw [this, Bool.false_and]
theorem fit_lt {n : Nat} {E : List Nat} {R : Nat → Nat → Prop} (f : Fit n E R) (g : Fwd n R) {a : Nat} (ha : a ≤ n) : E.getD a 0 < 2 ^ (n + 1) := by
  refine Nat.lt_pow_two_of_testBit _ fun j hj => ?_
  have := f.bit a ha j
  unfold bitAt at this
  cases h : (E.getD a 0).testBit j with
  | false => rfl
  | true => have := g a j (this.mp h); omega
theorem log2_le {m n : Nat} (h : 0 < m) (l : m < 2 ^ (n + 1)) : m.log2 ≤ n := by
  have := (Nat.log2_lt (by omega)).mpr l
  omega
/-- the first i numbers are right -/
structure Acc (E : List Nat) (R : Nat → Nat → Prop) (i : Nat) : Prop where
  len : E.length = i
  bit : ∀ a, a < i → ∀ j, bitAt E a j = true ↔ R a j
theorem Acc.nil (R : Nat → Nat → Prop) : Acc [] R 0 := ⟨rfl, fun a h => absurd h (Nat.not_lt_zero _)⟩
theorem Acc.snoc {E : List Nat} {R : Nat → Nat → Prop} {i x : Nat} (h : Acc E R i) (hx : ∀ j, x.testBit j = true ↔ R i j) : Acc (E ++ [x]) R (i + 1) := by
  refine ⟨by rw [List.length_append, h.len]; rfl, fun a ha j => ?_⟩
  unfold bitAt
  rw [List.getD_eq_getElem?_getD]
  rcases Nat.lt_succ_iff_lt_or_eq.mp ha with c | c
  · rw [List.getElem?_append_left (by rw [h.len]; exact c), ← List.getD_eq_getElem?_getD]
    exact h.bit a c j
  · rw [List.getElem?_append_right (by rw [h.len, c]; exact Nat.le_refl _), h.len, c, Nat.sub_self]
    exact hx j
theorem Acc.fit {n : Nat} {E : List Nat} {R : Nat → Nat → Prop} (h : Acc E R (n + 1)) : Fit n E R := ⟨h.len, fun a ha j => h.bit a (Nat.lt_succ_of_le ha) j⟩
theorem nls_get {E : List Nat} {a : Nat} (h : a < E.length) : (nls E)[a]? = some (.int (E.getD a 0)) := by
  unfold nls
  rw [List.getElem?_map, List.getD_eq_getElem?_getD, List.getElem?_eq_getElem h]; rfl
theorem nls_of_get {E : List Nat} {a : Nat} {y : V} (h : (nls E)[a]? = some y) : a < E.length ∧ y = .int (E.getD a 0) := by
  have hl : a < E.length := by
    have := (List.getElem?_eq_some_iff.mp h).1
    rw [nls_len] at this; exact this
  rw [nls_get hl] at h
  exact ⟨hl, (Option.some.inj h).symm⟩
theorem pow_bit (a j : Nat) : (2 ^ a).testBit j = true ↔ a = j := by rw [Nat.testBit_two_pow, decide_eq_true_eq]
/-- a list of numbers that says R, made anew -/
def Gives (H : Hp) (n : Nat) (R : Nat → Nat → Prop) (Q : VK) : Prop := ∀ H' q E, Same H H' → H' q = some (.lst (nls E)) → Fit n E R → Q (.ref q) H'
def spWord : Sp := fun vs H Q _ => ∃ b : Nat, vs = [.int b] ∧ Q (.bl (wordN b)) H
def spEmpty : Sp := fun vs H Q _ => ∃ n : Nat, vs = [.int ((n + 1 : Nat) : Int)] ∧ n ≤ 300 ∧ Gives H n (Id n) Q
def spEndsBehind (K : PySem.W.Frag) : Sp := fun vs H Q _ => ∃ n : Nat, ∃ m : Nat, ∃ b E, vs = [.int m, .ref b] ∧ n ≤ 300 ∧ m < 2 ^ (n + 1) ∧ SqL K H b (nls E) ∧ E.length = n + 1 ∧ ∀ e : Nat, (∀ j, e.testBit j = true ↔ ∃ k, m.testBit k = true ∧ bitAt E k j = true) → Q (.int e) H
def spBehind (K : PySem.W.Frag) : Sp := fun vs H Q _ => ∃ n a b E1 E2 R1 R2, vs = [.ref a, .ref b] ∧ n ≤ 300 ∧ SqL K H a (nls E1) ∧ SqL K H b (nls E2) ∧ Fit n E1 R1 ∧ Fwd n R1 ∧ Fit n E2 R2 ∧ Gives H n (Thn R1 R2) Q
section
variable {P : Program} {w : World} {K : PySem.W.Frag} {mg : Str → Option Value} {base : Heap} {c : Cs} {fI : Addr}
theorem dec_int {p : Prop} {q : Prop} [Decidable p] [Decidable q] (h : p ↔ q) : decide p = decide q := by
  by_cases c : p
  · rw [decide_eq_true c, decide_eq_true (h.mp c)]
  · rw [decide_eq_false c, decide_eq_false (fun z => c (h.mpr z))]
theorem chain_val {σ : L2.St} {H : Hp} {Q : VK} {z1 z2 : Str} {lo hi b i : Nat} (o1 : one z1 lo) (o2 : one z2 hi) (e : σ[i]? = some (some (.int b))) (q : Q (.bl (decide (lo ≤ b) && decide (b ≤ hi))) H) :
    tChain (rI0 fun i j => .bl (decide (i ≤ j))) (rI0 fun i j => .bl (decide (i ≤ j))) (tCB (fun xs H Q => ∃ x, xs = [V.str x] ∧ x.length = 1 ∧ Q (V.int (x.cps.getD 0 0 : Nat)) H) (tCons (tC (.str z1)) tNil)) (tVar i) (tCB (fun xs H Q => ∃ x, xs = [V.str x] ∧ x.length = 1 ∧ Q (V.int (x.cps.getD 0 0 : Nat)) H) (tCons (tC (.str z2)) tNil)) σ H Q := by
  refine ⟨_, rfl, o1.1, _, e, _, _, rfl, rfl, _, rfl, ?_⟩
  rw [o1.2]
  by_cases c : lo ≤ b
  · rw [decide_eq_true c, Bool.true_and] at q
    refine if_true_of (decide_eq_true (by omega)) ⟨_, rfl, o2.1, _, _, rfl, rfl, ?_⟩
    rw [o2.2]
    show Q (.bl (decide ((b : Int) ≤ (hi : Nat)))) H
    rw [dec_int (p := (b : Int) ≤ (hi : Nat)) (q := b ≤ hi) (by omega)]
    exact q
  · rw [decide_eq_false c, Bool.false_and] at q
    exact if_false_of (decide_eq_false (by omega)) q
theorem ok_word (T : Txt K mg c fI) : DOk P w K mg base CX0 1 "is_word_byte" ["byte"] spWord := by
  obtain ⟨f, fd, mf, kf, F, b⟩ := T.t_is_word_byte
  refine ⟨f, fd, mf, kf, F.ok sc_is_word_byte (fun vs H Q E h => ?_) (fun cdv A outer s H vs Q E hr h => ⟨_, pss_cons (ps_if (PW.pt (pw_or (pt_chain op_le op_le (pe_callB call_ord (by rfl) T.b_ord (by decide +kernel) (pa_cons pe_str pa_nil)) (pv 0) (pe_callB call_ord (by rfl) T.b_ord (by decide +kernel) (pa_cons pe_str pa_nil))) (pw_or1 (pt_chain op_le op_le (pe_callB call_ord (by rfl) T.b_ord (by decide +kernel) (pa_cons pe_str pa_nil)) (pv 0) (pe_callB call_ord (by rfl) T.b_ord (by decide +kernel) (pa_cons pe_str pa_nil)))))) (pss_one (ps_ret pe_bl)) pss_nil) (pss_one (ps_ret (pe_or (pe_chain op_le op_le (pe_callB call_ord (by rfl) T.b_ord (by decide +kernel) (pa_cons pe_str pa_nil)) (pv 0) (pe_callB call_ord (by rfl) T.b_ord (by decide +kernel) (pa_cons pe_str pa_nil))) (pe_one (pe_cmpR op_eq (pv 0) (pe_callB call_ord (by rfl) T.b_ord (by decide +kernel) (pa_cons pe_str pa_nil)) (nomark _)))))), ?_⟩), b⟩
  · obtain ⟨b, rfl, _⟩ := h; rfl
  · obtain ⟨b, rfl, q⟩ := h
    have e65 : (Str.cps "A").getD 0 0 = 65 := by decide +kernel
    have e90 : (Str.cps "Z").getD 0 0 = 90 := by decide +kernel
    have e97 : (Str.cps "a").getD 0 0 = 97 := by decide +kernel
    have e122 : (Str.cps "z").getD 0 0 = 122 := by decide +kernel
    have e48 : (Str.cps "0").getD 0 0 = 48 := by decide +kernel
    have e57 : (Str.cps "9").getD 0 0 = 57 := by decide +kernel
    have e95 : (Str.cps "_").getD 0 0 = 95 := by decide +kernel
    dsimp only [tSeq, tIfS, tOr, tTest, tRet, tOrV]
    have hw : wordN b = ((decide (65 ≤ b) && decide (b ≤ 90)) || ((decide (97 ≤ b) && decide (b ≤ 122)) || ((decide (48 ≤ b) && decide (b ≤ 57)) || decide (b = 95)))) := rfl
    refine chain_val (i := 0) (lo := 65) (hi := 90) (b := b) ⟨by decide +kernel, e65⟩ ⟨by decide +kernel, e90⟩ rfl ⟨_, rfl, ?_⟩
    cases c1 : (decide (65 ≤ b) && decide (b ≤ 90)) with
    | true => rw [hw, c1] at q; exact if_true_of rfl (if_true_of rfl q)
    | false =>
      rw [c1, Bool.false_or] at hw
      refine if_false_of rfl (chain_val (i := 0) (lo := 97) (hi := 122) (b := b) ⟨by decide +kernel, e97⟩ ⟨by decide +kernel, e122⟩ rfl ⟨_, rfl, ?_⟩)
      cases c2 : (decide (97 ≤ b) && decide (b ≤ 122)) with
      | true => rw [hw, c2] at q; exact if_true_of rfl q
      | false =>
        rw [c2, Bool.false_or] at hw
        refine if_false_of rfl (chain_val (i := 0) (lo := 48) (hi := 57) (b := b) ⟨by decide +kernel, e48⟩ ⟨by decide +kernel, e57⟩ rfl ⟨_, rfl, ?_⟩)
        cases c3 : (decide (48 ≤ b) && decide (b ≤ 57)) with
        | true => rw [hw, c3] at q; exact if_true_of rfl q
        | false =>
          rw [c3, Bool.false_or] at hw
          refine if_false_of rfl ⟨_, rfl, _, rfl, by decide +kernel, rfl, ?_⟩
          rw [e95, eq_nat]
          rw [hw] at q
          exact q
end
end RM
/-! Part D2: empty pieces, pieces one behind another. -/
namespace RM
open PySem PySem.Spec PyProof.Rows L2 PF
theorem small_n {n i : Nat} (h : n ≤ 300) (l : i ≤ n + 1) : i < sizeLine := Nat.lt_of_le_of_lt (Nat.le_trans l (Nat.succ_le_succ h)) (by decide)
/-- a list that is being made -/
def AccAt (H0 : Hp) (D : Addr) (R : Nat → Nat → Prop) (i : Nat) (H : Hp) : Prop := Same H0 H ∧ ∃ E, H D = some (.lst (nls E)) ∧ Acc E R i
theorem AccAt.start {H0 : Hp} {D : Addr} {R : Nat → Nat → Prop} (h : H0 D = none) : AccAt H0 D R 0 (upd H0 D (.lst [])) := ⟨same_upd h, [], upd_same, Acc.nil R⟩
theorem AccAt.next {H0 H : Hp} {D : Addr} {R : Nat → Nat → Prop} {i n : Nat} (h : AccAt H0 D R i H) (hD : H0 D = none) (hn : n ≤ 300) (hi : i ≤ n) {x : Nat} (hx : ∀ j, x.testBit j = true ↔ R i j) : ∃ acc, H D = some (.lst acc) ∧ acc.length < sizeLine ∧ AccAt H0 D R (i + 1) (upd H D (.lst (acc ++ [V.int x]))) := by
  obtain ⟨s, E, hE, a⟩ := h
  refine ⟨_, hE, by rw [nls_len, a.len]; exact small_n hn (by omega), fun b o e => ?_, E ++ [x], ?_, a.snoc hx⟩
  · have : b ≠ D := fun z => by rw [z, hD] at e; cases e
    rw [upd_ne this]; exact s b o e
  · rw [nls_app]; exact upd_same
theorem AccAt.gives {H0 H : Hp} {D : Addr} {R : Nat → Nat → Prop} {n : Nat} {Q : VK} (h : AccAt H0 D R (n + 1) H) (g : Gives H0 n R Q) : Q (.ref D) H := by
  obtain ⟨s, E, hE, a⟩ := h
  exact g H D E s hE a.fit
theorem Gives.mono {H H1 : Hp} {n : Nat} {R : Nat → Nat → Prop} {Q : VK} (g : Gives H n R Q) (s : Same H H1) : Gives H1 n R Q := fun H' q E s' h f => g H' q E (s.trans s') h f
section
variable {P : Program} {w : World} {K : PySem.W.Frag} {mg : Str → Option Value} {base : Heap} {c : Cs} {fI : Addr}
theorem ok_empty (T : Txt K mg c fI) : DOk P w K mg base CX0 1 "empty_ends" ["places"] spEmpty := by
  obtain ⟨f, fd, mf, kf, F, b⟩ := T.t_empty_ends
  refine ⟨f, fd, mf, kf, F.ok sc_empty_ends (fun vs H Q E h => ?_) (fun cdv A outer s H vs Q E hr h => ⟨_, pss_one (ps_ret (pe_lc (own := [("place", 1)]) (g := gName 1) (tt := tYes) rfl sc_empty_ends.nd (pi_range1 (by rfl) T.b_range (pa_cons (pv 0) pa_nil)) (blkOk_by (N := ["places", "place"]) (sc := defScope s_empty_ends) (by decide +kernel)) (fun _ _ _ _ _ => (pg_name (i := 1) sc_empty_ends.nd rfl (Or.inl rfl))) (fun _ _ _ _ _ => pts_nil) (fun _ _ _ _ _ => (pe_op op_shl pe_int (pv 1))))), ?_⟩), b⟩
  · obtain ⟨_, rfl, _⟩ := h; rfl
  · obtain ⟨n, rfl, hn, q⟩ := h
    refine ⟨_, rfl, ((n + 1 : Nat) : Int), rfl, by omega, by omega, fun D nD => ?_⟩
    refine lc_range (lo := 0) (n := (((n + 1 : Nat) : Int)).toNat) (fun i H' => AccAt H D (Id n) i H') (AccAt.start nD) ?_ ?_
    · intro i H' hi h
      have hi' : i ≤ n := by omega
      have ei : (0 : Int) + (i : Int) = (i : Int) := Int.zero_add _
      refine ⟨rfl, _, rfl, _, _, rfl, rfl, (by rw [ei]; exact cpow (by omega)), ?_⟩
      dsimp only
      rw [ei, shl_nat]
      exact h.next nD hn hi' fun j => (pow_bit i j).trans ⟨fun e => ⟨e, hi'⟩, fun e => e.1⟩
    · intro H' h
      exact AccAt.gives (n := n) (by rw [Int.toNat_natCast] at h; exact h) q
theorem ok_endsBehind (T : Txt K mg c fI) : DOk P w K mg base CX0 1 "ends_behind" ["middles", "second"] (spEndsBehind K) := by
  obtain ⟨f, fd, mf, kf, F, b⟩ := T.t_ends_behind
  refine ⟨f, fd, mf, kf, F.ok sc_ends_behind (fun vs H Q E h => ?_) (fun cdv A outer s H vs Q E hr h => ⟨_, pss_cons (ps_set (i := 2) sc_ends_behind.nd rfl (Or.inl rfl) pe_int) (pss_cons (ps_while PassesOwn.never (pt_cmpR op_gt (pv 0) pe_int (nomark _)) (pss_cons (ps_set (i := 3) sc_ends_behind.nd rfl (Or.inl rfl) (pe_op op_sub (pe_bits (pv 0)) pe_int)) (pss_cons (ps_aug (i := 2) sc_ends_behind.nd rfl (Or.inl rfl) (pe_ix ix_list (pv 1) (pv 3) (fun _ _ => rfl)) iop_or) (pss_one (ps_aug (i := 0) sc_ends_behind.nd rfl (Or.inl rfl) (pe_op op_shl pe_int (pv 3)) iop_xor))))) (pss_one (ps_ret (pv 2)))), ?_⟩), b⟩
  · obtain ⟨_, _, _, _, rfl, _⟩ := h; rfl
  · obtain ⟨n, m0, b, E, rfl, hn, hm0, hb, hE, q⟩ := h
    refine ⟨fun m σ H' => H' = H ∧ ∃ e : Nat, ∃ y, σ = [some (.int m), some (.ref b), some (.int e), y] ∧ m < 2 ^ (n + 1) ∧ ∀ j, (e.testBit j = true ∨ ∃ k, m.testBit k = true ∧ bitAt E k j = true) ↔ ∃ k, m0.testBit k = true ∧ bitAt E k j = true, ⟨m0, rfl, 0, none, rfl, hm0, fun j => by rw [Nat.zero_testBit]; exact ⟨fun h => h.elim (fun z => by cases z) id, .inr⟩⟩, ?_⟩
    rintro m σ H' ⟨rfl, e, y, rfl, hm, he⟩
    refine ⟨_, rfl, _, _, rfl, rfl, _, rfl, ?_⟩
    by_cases c1 : 0 < m
    · refine if_true_of (decide_eq_true (by omega)) ⟨_, fun σ' H' z => ⟨m ^^^ 2 ^ m.log2, (top_bit c1).2.1, z⟩, ?_⟩
      obtain ⟨t1, t2, t3⟩ := top_bit c1
      have hl : m.log2 ≤ n := log2_le c1 hm
      refine ⟨_, rfl, _, rfl, _, _, rfl, rfl, ?_⟩
      have ek : ((Builtin.Int.intBits (m : Int) : Nat) : Int) - 1 = ((m.log2 : Nat) : Int) := by
        rw [bits_nat, if_neg (by omega)]; omega
      dsimp only
      rw [ek]
      refine ⟨_, rfl, _, rfl, _, rfl, _, _, _, _, rfl, rfl, hb, atI_nat (nls_get (by rw [hE]; omega)), _, _, rfl, rfl, ?_⟩
      dsimp only
      rw [or_nat]
      refine ⟨_, rfl, _, rfl, _, _, rfl, rfl, cpow (by omega), _, _, rfl, rfl, ?_⟩
      dsimp only
      rw [shl_nat, Bits.bitXor_pp (Int.natCast_nonneg _) (Int.natCast_nonneg _), Int.toNat_natCast, Int.toNat_natCast]
      refine ⟨rfl, _, _, rfl, Nat.lt_trans t2 hm, fun j => ?_⟩
      rw [← he j, Nat.testBit_or, Bool.or_eq_true]
      constructor
      · rintro ((h | h) | ⟨k, h1, h2⟩)
        · exact .inl h
        · exact .inr ⟨m.log2, t1, h⟩
        · rw [t3, Bool.and_eq_true] at h1
          exact .inr ⟨k, h1.1, h2⟩
      · rintro (h | ⟨k, h1, h2⟩)
        · exact .inl (.inl h)
        · by_cases ck : k = m.log2
          · rw [ck] at h2; exact .inl (.inr h2)
          · exact .inr ⟨k, by rw [t3, h1, decide_eq_false ck]; rfl, h2⟩
    · refine if_false_of (decide_eq_false (by omega)) ⟨_, rfl, q e fun j => ?_⟩
      have m0' : m = 0 := by omega
      rw [← he j]
      constructor
      · exact .inl
      · rintro (h | ⟨k, h1, _⟩)
        · exact h
        · rw [m0', Nat.zero_testBit] at h1; cases h1
theorem ok_behind (T : Txt K mg c fI) : DOk P w K mg base CX0 2 "one_behind_other" ["first", "second"] (spBehind K) := by
  obtain ⟨f, fd, mf, kf, F, b⟩ := T.t_one_behind_other
  obtain ⟨_, _, g_ends_behind, k_ends_behind, G_ends_behind, B_ends_behind⟩ := ok_endsBehind (P := P) (w := w) (base := base) T
  refine ⟨f, fd, mf, kf, F.ok sc_one_behind_other (fun vs H Q E h => ?_) (fun cdv A outer s H vs Q E hr h => ⟨_, pss_one (ps_ret (pe_lc (own := [("middles", 2)]) (g := gName 2) (tt := tYes) rfl sc_one_behind_other.nd (pi_list (pv 0)) (blkOk_by (N := ["first", "second", "middles"]) (sc := defScope s_one_behind_other) (by decide +kernel)) (fun _ _ _ _ _ => (pg_name (i := 2) sc_one_behind_other.nd rfl (Or.inl rfl))) (fun _ _ _ _ _ => pts_nil) (fun _ _ _ _ _ => (pe_call G_ends_behind (hr.mono (by decide)) rfl g_ends_behind k_ends_behind B_ends_behind .nil pass0 (pa_cons (pv 2) (pa_cons (pv 1) pa_nil)))))), ?_⟩), b⟩
  · obtain ⟨_, _, _, _, _, _, _, rfl, _⟩ := h; rfl
  · obtain ⟨n, a, b, E1, E2, R1, R2, rfl, hn, h1, h2, f1, g1, f2, q⟩ := h
    refine ⟨_, rfl, a, rfl, ⟨_, h1⟩, fun D nD => ?_⟩
    refine lc_list (K := K) (a := a) (xs := nls E1) (fun i H' => AccAt H D (Thn R1 R2) i H') (AccAt.start nD) (fun i H' _ h => h.1.seq h1) ?_ ?_
    · intro i y H' hy h
      obtain ⟨hi, rfl⟩ := nls_of_get hy
      have hi' : i ≤ n := by have := f1.len; omega
      refine ⟨rfl, _, rfl, _, rfl, ?_⟩
      refine ⟨n, _, b, E2, rfl, hn, fit_lt f1 g1 hi', h.1.seq h2, f2.len, fun e he => ?_⟩
      refine h.next nD hn hi' fun j => ?_
      rw [he j]
      constructor
      · rintro ⟨k, k1, k2⟩
        have r1 := (f1.bit i hi' k).mp k1
        exact ⟨k, r1, (f2.bit k (g1 i k r1).2 j).mp k2⟩
      · rintro ⟨k, r1, r2⟩
        exact ⟨k, (f1.bit i hi' k).mpr r1, (f2.bit k (g1 i k r1).2 j).mpr r2⟩
    · intro H' h
      rw [nls_len, f1.len] at h
      exact AccAt.gives h q
end
end RM
/-! Part D3: rows, one of them, all of them, turned. -/
namespace RM
open PySem PySem.Spec PyProof.Rows L2 PF
def Good (n : Nat) (E : List Nat) : Prop := E.length = n + 1 ∧ Fwd n (BitR E)
theorem Good.fit {n : Nat} {E : List Nat} (g : Good n E) : Fit n E (BitR E) := ⟨g.1, fun _ _ _ => Iff.rfl⟩
theorem Good.of {n : Nat} {E : List Nat} {R : Nat → Nat → Prop} (f : Fit n E R) (g : Fwd n R) : Good n E := ⟨f.len, fun a j h => by
  have ha : a ≤ n := by
    rcases Nat.lt_or_ge a E.length with z | z
    · have := f.len; omega
    · unfold BitR bitAt at h
      rw [List.getD_eq_getElem?_getD, List.getElem?_eq_none z] at h
      have h' : (0 : Nat).testBit j = true := h
      rw [Nat.zero_testBit] at h'; cases h'
  exact g a j ((f.bit a ha j).mp h)⟩
/-- lists of numbers, at their addresses -/
abbrev Pts := List (Addr × List Nat)
def PtsAt (K : PySem.W.Frag) (n : Nat) (H : Hp) (ps : Pts) : Prop := ∀ x ∈ ps, SqL K H x.1 (nls x.2) ∧ Good n x.2
def refs (ps : Pts) : List V := ps.map fun x => .ref x.1
theorem refs_get {ps : Pts} {i : Nat} {y : V} (h : (refs ps)[i]? = some y) : ∃ x, ps[i]? = some x ∧ y = .ref x.1 := by
  unfold refs at h
  rw [List.getElem?_map] at h
  cases e : ps[i]? with
  | none => rw [e] at h; cases h
  | some x => rw [e] at h; exact ⟨x, rfl, (Option.some.inj h).symm⟩
theorem PtsAt.mono {K : PySem.W.Frag} {n : Nat} {H H' : Hp} {ps : Pts} (h : PtsAt K n H ps) (s : Same H H') : PtsAt K n H' ps := fun x hx => ⟨s.seq (h x hx).1, (h x hx).2⟩
def rowR (n : Nat) (l : List (List Nat)) : Nat → Nat → Prop := l.foldl (fun R E => Thn R (BitR E)) (Id n)
def spRow (K : PySem.W.Frag) : Sp := fun vs H Q _ => ∃ n : Nat, ∃ pa ps, vs = [.ref pa, .int ((n + 1 : Nat) : Int)] ∧ n ≤ 300 ∧ SqL K H pa (refs ps) ∧ PtsAt K n H ps ∧ Gives H n (rowR n (ps.map (·.2))) Q
def spEither (K : PySem.W.Frag) : Sp := fun vs H Q _ => ∃ n pa ps, vs = [.ref pa] ∧ n ≤ 300 ∧ ps ≠ [] ∧ SqL K H pa (refs ps) ∧ PtsAt K n H ps ∧ ∀ H' q E, Same H H' → SqL K H' q (nls E) → Fit n E (fun a j => ∃ x ∈ ps, BitR x.2 a j) → Q (.ref q) H'
def spBoth (K : PySem.W.Frag) : Sp := fun vs H Q _ => ∃ n pa ps, vs = [.ref pa] ∧ n ≤ 300 ∧ ps ≠ [] ∧ SqL K H pa (refs ps) ∧ PtsAt K n H ps ∧ ∀ H' q E, Same H H' → SqL K H' q (nls E) → Fit n E (fun a j => ∀ x ∈ ps, BitR x.2 a j) → Q (.ref q) H'
def spTurned (K : PySem.W.Frag) : Sp := fun vs H Q _ => ∃ n a E R, vs = [.ref a] ∧ n ≤ 300 ∧ SqL K H a (nls E) ∧ Fit n E R ∧ Gives H n (fun a j => a ≤ j ∧ j ≤ n ∧ ¬ R a j) Q
theorem AccAt.tup {H0 H : Hp} {D T : Addr} {R : Nat → Nat → Prop} {i : Nat} {o : HO} (h : AccAt H0 D R i H) (nT : H T = none) : AccAt H0 D R i (upd H T o) := by
  obtain ⟨s, E, hE, a⟩ := h
  have : D ≠ T := fun z => by rw [z, nT] at hE; cases hE
  exact ⟨s.trans (same_upd nT), E, by rw [upd_ne this]; exact hE, a⟩
theorem take_snoc {α : Type} {l : List α} {i : Nat} {x : α} (h : l[i]? = some x) : l.take (i + 1) = l.take i ++ [x] := by rw [List.take_add_one, h]; rfl
section
variable {P : Program} {w : World} {K : PySem.W.Frag} {mg : Str → Option Value} {base : Heap} {c : Cs} {fI : Addr}
theorem rowR_fwd {n : Nat} : ∀ {l : List (List Nat)} {R : Nat → Nat → Prop}, Fwd n R → (∀ E ∈ l, Fwd n (BitR E)) → Fwd n (l.foldl (fun R E => Thn R (BitR E)) R)
  | [], _, f, _ => f
  | E :: l, R, f, h => rowR_fwd (l := l) (f.then_ (h E List.mem_cons_self)) fun E' hE => h E' (List.mem_cons_of_mem _ hE)
theorem ok_row (T : Txt K mg c fI) : DOk P w K mg base CX0 3 "row_ends" ["parts", "places"] (spRow K) := by
  obtain ⟨f, fd, mf, kf, F, b⟩ := T.t_row_ends
  obtain ⟨_, _, g_empty_ends, k_empty_ends, G_empty_ends, B_empty_ends⟩ := ok_empty (P := P) (w := w) (base := base) T
  obtain ⟨_, _, g_one_behind_other, k_one_behind_other, G_one_behind_other, B_one_behind_other⟩ := ok_behind (P := P) (w := w) (base := base) T
  refine ⟨f, fd, mf, kf, F.ok sc_row_ends (fun vs H Q E h => ?_) (fun cdv A outer s H vs Q E hr h => ⟨_, pss_cons (ps_set (i := 2) sc_row_ends.nd rfl (Or.inl rfl) (pe_call G_empty_ends (hr.mono (by decide)) rfl g_empty_ends k_empty_ends B_empty_ends .nil pass0 (pa_cons (pv 1) pa_nil))) (pss_cons (ps_for PassesOwn.never rfl (pi_list (pv 0)) (pg_name (i := 3) sc_row_ends.nd rfl (Or.inl rfl)) (pss_one (ps_set (i := 2) sc_row_ends.nd rfl (Or.inl rfl) (pe_call G_one_behind_other (hr.mono (by decide)) rfl g_one_behind_other k_one_behind_other B_one_behind_other .nil pass0 (pa_cons (pv 2) (pa_cons (pv 3) pa_nil)))))) (pss_one (ps_ret (pv 2)))), ?_⟩), b⟩
  · obtain ⟨_, _, _, rfl, _⟩ := h; rfl
  · obtain ⟨n, pa, ps, rfl, hn, hp, hps, q⟩ := h
    have fw : ∀ i, Fwd n (rowR n ((ps.take i).map (·.2))) := fun i => rowR_fwd (Fwd.id n) fun E hE => by
      obtain ⟨x, hx, rfl⟩ := List.mem_map.mp hE
      exact (hps x (List.mem_of_mem_take hx)).2.2
    refine ⟨_, rfl, n, rfl, hn, fun H1 e0 E0 s0 h0 f0 => ?_⟩
    refine ⟨_, rfl, pa, rfl, ⟨_, s0.seq hp⟩, ?_⟩
    refine for_list (K := K) (a := pa) (xs := refs ps) (fun i σ H' => Same H H' ∧ ∃ e E y, σ = [some (.ref pa), some (.int ((n + 1 : Nat) : Int)), some (.ref e), y] ∧ H' e = some (.lst (nls E)) ∧ Fit n E (rowR n ((ps.take i).map (·.2))))
      ⟨s0, e0, E0, none, rfl, h0, f0⟩ (fun i σ H' _ h => h.1.seq hp) ?_ ?_
    · rintro i y σ H' hy ⟨s1, e, E, y', rfl, hE, hf⟩
      obtain ⟨x, hx, rfl⟩ := refs_get hy
      have gx := (hps.mono s1) x (List.mem_of_getElem? hx)
      refine ⟨_, rfl, _, rfl, n, e, x.1, E, x.2, _, BitR x.2, rfl, hn, SqL.of hE, gx.1, hf, fw i, gx.2.fit, fun H2 e2 E2 s2 h2 f2 => ⟨s1.trans s2, e2, E2, _, rfl, h2, ?_⟩⟩
      rw [take_snoc hx, List.map_append]
      unfold rowR
      rw [List.foldl_append]
      exact f2
    · rintro σ H' ⟨s1, e, E, y, rfl, hE, hf⟩
      have el : (refs ps).length = ps.length := by unfold refs; rw [List.length_map]
      rw [el, List.take_length] at hf
      exact ⟨_, rfl, q H' e E s1 hE hf⟩
theorem ok_either (T : Txt K mg c fI) : DOk P w K mg base CX0 1 "either_ends" ["parts"] (spEither K) := by
  obtain ⟨f, fd, mf, kf, F, b⟩ := T.t_either_ends
  refine ⟨f, fd, mf, kf, F.ok sc_either_ends (fun vs H Q E h => ?_) (fun cdv A outer s H vs Q E hr h => ⟨_, pss_cons (ps_set (i := 1) sc_either_ends.nd rfl (Or.inl rfl) (pe_ix ix_list (pv 0) pe_int (fun _ _ => rfl))) (pss_cons (ps_for PassesOwn.never rfl (pi_list (pv 0)) (pg_name (i := 2) sc_either_ends.nd rfl (Or.inl rfl)) (pss_one (ps_setLc (i := 1) (own := [("one", 3), ("other", 4)]) (g := gTup K 2 (gCons (gName 3) (gCons (gName 4) gNil))) (tt := tYes) rfl sc_either_ends.nd rfl rfl (sw_true rfl rfl rfl (by decide +kernel)) (pi_zip (by rfl) T.b_zip (pa_cons (pv 1) (pa_cons (pv 2) pa_nil))) (blkOk_by (N := ["parts", "ends", "part", "one", "other"]) (sc := defScope s_either_ends) (by decide +kernel)) (fun _ _ _ _ _ => (pg_tup (by rfl) (pgs_cons (pg_name (i := 3) sc_either_ends.nd rfl (Or.inl rfl)) (pgs_cons (pg_name (i := 4) sc_either_ends.nd rfl (Or.inl rfl)) pgs_nil)))) (fun _ _ _ _ _ => pts_nil) (fun _ _ _ _ _ => (pe_op op_or (pv 3) (pv 4)))))) (pss_one (ps_ret (pv 1)))), ?_⟩), b⟩
  · obtain ⟨_, _, _, rfl, _⟩ := h; rfl
  · obtain ⟨n, pa, ps, rfl, hn, hne, hp, hps, q⟩ := h
    obtain ⟨p0, rest, rfl⟩ : ∃ p0 rest, ps = p0 :: rest := by
      cases ps with
      | nil => exact absurd rfl hne
      | cons p0 rest => exact ⟨p0, rest, rfl⟩
    have g0 := hps p0 List.mem_cons_self
    refine ⟨_, rfl, _, _, _, _, rfl, rfl, hp, atI_nat (j := 0) rfl, ?_⟩
    refine ⟨_, rfl, pa, rfl, ⟨_, hp⟩, ?_⟩
    refine for_list (K := K) (a := pa) (xs := refs (p0 :: rest)) (fun i σ H' => Same H H' ∧ ∃ e E y, σ = [some (.ref pa), some (.ref e), y, none, none] ∧ SqL K H' e (nls E) ∧ Fit n E (fun a j => BitR p0.2 a j ∨ ∃ x ∈ ((p0 :: rest).take i), BitR x.2 a j))
      ⟨Same.refl _, p0.1, p0.2, none, rfl, g0.1, g0.2.fit.ext fun a _ j => ⟨.inl, fun h => h.elim id fun ⟨x, hx, _⟩ => absurd hx List.not_mem_nil⟩⟩ (fun i σ H' _ h => h.1.seq hp) ?_ ?_
    · rintro i y σ H' hy ⟨s1, e, E, y', rfl, hE, hf⟩
      obtain ⟨x, hx, rfl⟩ := refs_get hy
      have gx := (hps.mono s1) x (List.mem_of_getElem? hx)
      refine ⟨_, rfl, _, rfl, e, x.1, _, _, rfl, hE, gx.1, fun D nD => ?_⟩
      have hR : ∀ a, a ≤ n → ∀ j, ((E.getD a 0) ||| (x.2.getD a 0)).testBit j = true ↔ (fun a j => BitR p0.2 a j ∨ ∃ x ∈ ((p0 :: rest).take (i + 1)), BitR x.2 a j) a j := fun a ha j => by
        have e1 := hf.bit a ha j
        unfold bitAt at e1
        rw [Nat.testBit_or, Bool.or_eq_true, e1, take_snoc hx]
        exact ⟨fun h => h.elim (fun h => h.elim .inl fun ⟨z, hz, hb⟩ => .inr ⟨z, List.mem_append_left _ hz, hb⟩) fun h => .inr ⟨x, List.mem_append_right _ (List.mem_singleton.mpr rfl), h⟩, fun h => h.elim (fun h => .inl (.inl h)) fun ⟨z, hz, hb⟩ => (List.mem_append.mp hz).elim (fun hz => .inl (.inr ⟨z, hz, hb⟩)) fun hz => by rw [List.mem_singleton.mp hz] at hb; exact .inr hb⟩
      refine lc_it (walk_zip (n := n + 1) (xs := nls E) (ys := nls x.2) (by rw [nls_len, nls_len, hf.len, gx.2.1, Nat.min_self])) (fun k H2 => AccAt H' D (fun a j => BitR p0.2 a j ∨ ∃ x ∈ ((p0 :: rest).take (i + 1)), BitR x.2 a j) k H2) (AccAt.start nD) (fun k H2 _ h => ⟨h.1.seq hE, h.1.seq gx.1⟩) ?_ ?_
      · rintro k v H2 H3 hk h ⟨t, v1, v2, rfl, nt, rfl, h1, h2⟩
        obtain ⟨k1, rfl⟩ := nls_of_get h1
        obtain ⟨k2, rfl⟩ := nls_of_get h2
        refine ⟨t, _, rfl, SqT.of upd_same, rfl, _, _, rfl, _, _, rfl, rfl, ?_⟩
        refine ⟨rfl, _, rfl, _, rfl, _, _, rfl, rfl, ?_⟩
        dsimp only
        rw [or_nat]
        exact (h.tup nt).next nD hn (by omega) (hR k (by omega))
      · intro H2 h
        obtain ⟨s2, E2, hE2, a2⟩ := h
        exact ⟨s1.trans s2, D, E2, _, rfl, SqL.of hE2, a2.fit⟩
    · rintro σ H' ⟨s1, e, E, y, rfl, hE, hf⟩
      refine ⟨_, rfl, q H' e E s1 hE (hf.ext fun a _ j => ?_)⟩
      have el : (refs (p0 :: rest)).length = (p0 :: rest).length := by unfold refs; rw [List.length_map]
      rw [el, List.take_length]
      exact ⟨fun h => h.elim (fun h => ⟨p0, List.mem_cons_self, h⟩) id, .inr⟩
theorem ok_both (T : Txt K mg c fI) : DOk P w K mg base CX0 1 "both_ends" ["parts"] (spBoth K) := by
  obtain ⟨f, fd, mf, kf, F, b⟩ := T.t_both_ends
  refine ⟨f, fd, mf, kf, F.ok sc_both_ends (fun vs H Q E h => ?_) (fun cdv A outer s H vs Q E hr h => ⟨_, pss_cons (ps_set (i := 1) sc_both_ends.nd rfl (Or.inl rfl) (pe_ix ix_list (pv 0) pe_int (fun _ _ => rfl))) (pss_cons (ps_for PassesOwn.never rfl (pi_list (pv 0)) (pg_name (i := 2) sc_both_ends.nd rfl (Or.inl rfl)) (pss_one (ps_setLc (i := 1) (own := [("one", 3), ("other", 4)]) (g := gTup K 2 (gCons (gName 3) (gCons (gName 4) gNil))) (tt := tYes) rfl sc_both_ends.nd rfl rfl (sw_true rfl rfl rfl (by decide +kernel)) (pi_zip (by rfl) T.b_zip (pa_cons (pv 1) (pa_cons (pv 2) pa_nil))) (blkOk_by (N := ["parts", "ends", "part", "one", "other"]) (sc := defScope s_both_ends) (by decide +kernel)) (fun _ _ _ _ _ => (pg_tup (by rfl) (pgs_cons (pg_name (i := 3) sc_both_ends.nd rfl (Or.inl rfl)) (pgs_cons (pg_name (i := 4) sc_both_ends.nd rfl (Or.inl rfl)) pgs_nil)))) (fun _ _ _ _ _ => pts_nil) (fun _ _ _ _ _ => (pe_op op_and (pv 3) (pv 4)))))) (pss_one (ps_ret (pv 1)))), ?_⟩), b⟩
  · obtain ⟨_, _, _, rfl, _⟩ := h; rfl
  · obtain ⟨n, pa, ps, rfl, hn, hne, hp, hps, q⟩ := h
    obtain ⟨p0, rest, rfl⟩ : ∃ p0 rest, ps = p0 :: rest := by
      cases ps with
      | nil => exact absurd rfl hne
      | cons p0 rest => exact ⟨p0, rest, rfl⟩
    have g0 := hps p0 List.mem_cons_self
    refine ⟨_, rfl, _, _, _, _, rfl, rfl, hp, atI_nat (j := 0) rfl, ?_⟩
    refine ⟨_, rfl, pa, rfl, ⟨_, hp⟩, ?_⟩
    refine for_list (K := K) (a := pa) (xs := refs (p0 :: rest)) (fun i σ H' => Same H H' ∧ ∃ e E y, σ = [some (.ref pa), some (.ref e), y, none, none] ∧ SqL K H' e (nls E) ∧ Fit n E (fun a j => BitR p0.2 a j ∧ ∀ x ∈ ((p0 :: rest).take i), BitR x.2 a j))
      ⟨Same.refl _, p0.1, p0.2, none, rfl, g0.1, g0.2.fit.ext fun a _ j => ⟨fun h => ⟨h, fun x hx => absurd hx List.not_mem_nil⟩, fun h => h.1⟩⟩ (fun i σ H' _ h => h.1.seq hp) ?_ ?_
    · rintro i y σ H' hy ⟨s1, e, E, y', rfl, hE, hf⟩
      obtain ⟨x, hx, rfl⟩ := refs_get hy
      have gx := (hps.mono s1) x (List.mem_of_getElem? hx)
      refine ⟨_, rfl, _, rfl, e, x.1, _, _, rfl, hE, gx.1, fun D nD => ?_⟩
      have hR : ∀ a, a ≤ n → ∀ j, ((E.getD a 0) &&& (x.2.getD a 0)).testBit j = true ↔ (fun a j => BitR p0.2 a j ∧ ∀ x ∈ ((p0 :: rest).take (i + 1)), BitR x.2 a j) a j := fun a ha j => by
        have e1 := hf.bit a ha j
        unfold bitAt at e1
        rw [Nat.testBit_and, Bool.and_eq_true, e1, take_snoc hx]
        exact ⟨fun h => ⟨h.1.1, fun z hz => (List.mem_append.mp hz).elim (h.1.2 z) fun hz => by rw [List.mem_singleton.mp hz]; exact h.2⟩, fun h => ⟨⟨h.1, fun z hz => h.2 z (List.mem_append_left _ hz)⟩, h.2 x (List.mem_append_right _ (List.mem_singleton.mpr rfl))⟩⟩
      refine lc_it (walk_zip (n := n + 1) (xs := nls E) (ys := nls x.2) (by rw [nls_len, nls_len, hf.len, gx.2.1, Nat.min_self])) (fun k H2 => AccAt H' D (fun a j => BitR p0.2 a j ∧ ∀ x ∈ ((p0 :: rest).take (i + 1)), BitR x.2 a j) k H2) (AccAt.start nD) (fun k H2 _ h => ⟨h.1.seq hE, h.1.seq gx.1⟩) ?_ ?_
      · rintro k v H2 H3 hk h ⟨t, v1, v2, rfl, nt, rfl, h1, h2⟩
        obtain ⟨k1, rfl⟩ := nls_of_get h1
        obtain ⟨k2, rfl⟩ := nls_of_get h2
        refine ⟨t, _, rfl, SqT.of upd_same, rfl, _, _, rfl, _, _, rfl, rfl, ?_⟩
        refine ⟨rfl, _, rfl, _, rfl, _, _, rfl, rfl, ?_⟩
        dsimp only
        rw [and_nat]
        exact (h.tup nt).next nD hn (by omega) (hR k (by omega))
      · intro H2 h
        obtain ⟨s2, E2, hE2, a2⟩ := h
        exact ⟨s1.trans s2, D, E2, _, rfl, SqL.of hE2, a2.fit⟩
    · rintro σ H' ⟨s1, e, E, y, rfl, hE, hf⟩
      refine ⟨_, rfl, q H' e E s1 hE (hf.ext fun a _ j => ?_)⟩
      have el : (refs (p0 :: rest)).length = (p0 :: rest).length := by unfold refs; rw [List.length_map]
      rw [el, List.take_length]
      exact ⟨fun h => h.2, fun h => ⟨h p0 List.mem_cons_self, h⟩⟩
theorem beyond_bit {n a : Nat} (ha : a ≤ n) (j : Nat) : (2 ^ (n + 1) - 2 ^ a).testBit j = (decide (a ≤ j) && decide (j ≤ n)) := by
  have hp : 0 < 2 ^ a := Nat.two_pow_pos a
  have hl : 2 ^ a - 1 < 2 ^ (n + 1) := Nat.lt_of_lt_of_le (by omega) (Nat.pow_le_pow_right (by decide) (by omega : a ≤ n + 1))
  have e : 2 ^ (n + 1) - 2 ^ a = 2 ^ (n + 1) - ((2 ^ a - 1) + 1) := by omega
  rw [e, Nat.testBit_two_pow_sub_succ hl, Nat.testBit_two_pow_sub_one]
  by_cases h1 : a ≤ j
  · rw [decide_eq_true h1, decide_eq_false (by omega : ¬ j < a)]
    by_cases h2 : j ≤ n
    · rw [decide_eq_true h2, decide_eq_true (by omega : j < n + 1)]; rfl
    · rw [decide_eq_false h2, decide_eq_false (by omega : ¬ j < n + 1)]; rfl
  · rw [decide_eq_false h1, decide_eq_true (by omega : j < a), Bool.false_and]
    cases decide (j < n + 1) <;> rfl
theorem ok_turned (T : Txt K mg c fI) : DOk P w K mg base CX0 1 "turned_ends" ["once"] (spTurned K) := by
  obtain ⟨f, fd, mf, kf, F, b⟩ := T.t_turned_ends
  refine ⟨f, fd, mf, kf, F.ok sc_turned_ends (fun vs H Q E h => ?_) (fun cdv A outer s H vs Q E hr h => ⟨_, pss_cons (ps_set (i := 1) sc_turned_ends.nd rfl (Or.inr rfl) (pe_op op_shl pe_int (pe_callB call_len_seq (by rfl) T.b_len PySem.boot_len (pa_cons (pv 0) pa_nil)))) (pss_one (ps_ret (pe_lc (own := [("place", 2), ("ends", 3)]) (g := gTup K 2 (gCons (gName 2) (gCons (gName 3) gNil))) (tt := tYes) rfl sc_turned_ends.nd (pi_enum (by rfl) T.b_enumerate (pa_cons (pv 0) pa_nil)) (blkOk_by (N := ["once", "beyond", "place", "ends"]) (sc := defScope s_turned_ends) (by decide +kernel)) (fun _ _ _ _ _ => (pg_tup (by rfl) (pgs_cons (pg_name (i := 2) sc_turned_ends.nd rfl (Or.inl rfl)) (pgs_cons (pg_name (i := 3) sc_turned_ends.nd rfl (Or.inl rfl)) pgs_nil)))) (fun _ _ _ _ _ => pts_nil) (fun _ _ _ _ _ => (pe_op op_and (pe_op op_sub (pv 1) (pe_op op_shl pe_int (pv 2))) (pe_un un_inv (pv 3))))))), ?_⟩), b⟩
  · obtain ⟨_, _, _, _, rfl, _⟩ := h; rfl
  · obtain ⟨n, a, E, R, rfl, hn, hE, hf, q⟩ := h
    have hlen : ((nls E).length : Int) = ((n + 1 : Nat) : Int) := by rw [nls_len, hf.len]
    refine ⟨_, rfl, _, _, rfl, .inl hE, _, _, rfl, rfl, (by rw [hlen]; exact cpow (by omega)), ?_⟩
    dsimp only
    rw [hlen, shl_nat]
    refine ⟨_, rfl, a, _, rfl, hE, fun D nD => ?_⟩
    refine lc_it (walk_enum (xs := nls E)) (fun k H2 => AccAt H D (fun a j => a ≤ j ∧ j ≤ n ∧ ¬ R a j) k H2) (AccAt.start nD) (fun k H2 _ h => h.1.seq hE) ?_ ?_
    · rintro k v H2 H3 hk h ⟨t, v1, v2, rfl, nt, rfl, h1, h2⟩
      rw [nls_len, hf.len] at hk
      cases h1
      obtain ⟨k2, rfl⟩ := nls_of_get h2
      refine ⟨t, _, rfl, SqT.of upd_same, rfl, _, _, rfl, _, _, rfl, rfl, ?_⟩
      refine ⟨rfl, _, rfl, _, rfl, _, _, rfl, rfl, cpow (by omega), _, _, rfl, rfl, _, rfl, _, rfl, _, _, rfl, rfl, ?_⟩
      dsimp only
      rw [shl_nat]
      have es : ((2 ^ (n + 1) : Nat) : Int) - ((2 ^ k : Nat) : Int) = ((2 ^ (n + 1) - 2 ^ k : Nat) : Int) := by
        have : 2 ^ k ≤ 2 ^ (n + 1) := Nat.pow_le_pow_right (by decide) (by omega)
        omega
      rw [es]
      obtain ⟨x, hx, hb⟩ := andNot_nat (2 ^ (n + 1) - 2 ^ k) (E.getD k 0)
      rw [hx]
      refine (h.tup nt).next nD hn (by omega) fun j => ?_
      rw [hb, beyond_bit (by omega)]
      have e1 := hf.bit k (by omega) j
      unfold bitAt at e1
      rw [Bool.and_eq_true, Bool.and_eq_true, decide_eq_true_eq, decide_eq_true_eq, Bool.not_eq_true', ← Bool.not_eq_true, e1, and_assoc]
    · intro H2 h
      rw [nls_len, hf.len] at h
      exact h.gives q
end
end RM
/-! Part D4: repeated pieces. -/
namespace RM
open PySem PySem.Spec PyProof.Rows L2 PF
def spRepeated (K : PySem.W.Frag) : Sp := fun vs H Q _ => ∃ n a E R, ∃ t : Nat, vs = [.ref a, .int t] ∧ n ≤ 300 ∧ t ≤ 1000 ∧ SqL K H a (nls E) ∧ Fit n E R ∧ Fwd n R ∧ Gives H n (Pow n R t) Q
def spAny (K : PySem.W.Frag) : Sp := fun vs H Q _ => ∃ n a E R, vs = [.ref a] ∧ n ≤ 300 ∧ SqL K H a (nls E) ∧ Fit n E R ∧ Fwd n R ∧ Gives H n (fun a j => ∃ t, Pow n R t a j) Q
def spCounted (K : PySem.W.Frag) : Sp := fun vs H Q _ => ∃ n a E R, ∃ k : Nat, ∃ m : Option Nat, vs = [.ref a, .int k, optI m] ∧ n ≤ 300 ∧ k ≤ 100 ∧ (∀ x, m = some x → k ≤ x ∧ x ≤ 100) ∧ SqL K H a (nls E) ∧ Fit n E R ∧ Fwd n R ∧ Gives H n (CntR n R k m) Q
section
variable {P : Program} {w : World} {K : PySem.W.Frag} {mg : Str → Option Value} {base : Heap} {c : Cs} {fI : Addr}
theorem ok_repeated (T : Txt K mg c fI) : DOk P w K mg base CX0 3 "repeated_ends" ["once", "times"] (spRepeated K) := by
  obtain ⟨f, fd, mf, kf, F, b⟩ := T.t_repeated_ends
  obtain ⟨_, _, g_empty_ends, k_empty_ends, G_empty_ends, B_empty_ends⟩ := ok_empty (P := P) (w := w) (base := base) T
  obtain ⟨_, _, g_one_behind_other, k_one_behind_other, G_one_behind_other, B_one_behind_other⟩ := ok_behind (P := P) (w := w) (base := base) T
  refine ⟨f, fd, mf, kf, F.ok sc_repeated_ends (fun vs H Q E h => ?_) (fun cdv A outer s H vs Q E hr h => ⟨_, pss_cons (ps_set (i := 2) sc_repeated_ends.nd rfl (Or.inl rfl) (pe_call G_empty_ends (hr.mono (by decide)) rfl g_empty_ends k_empty_ends B_empty_ends .nil pass0 (pa_cons (pe_callB call_len_seq (by rfl) T.b_len PySem.boot_len (pa_cons (pv 0) pa_nil)) pa_nil))) (pss_cons (ps_set (i := 3) sc_repeated_ends.nd rfl (Or.inl rfl) (pv 0)) (pss_cons (ps_while PassesOwn.never (pt_cmpR op_gt (pv 1) pe_int (nomark _)) (pss_cons (ps_if (pt_cmpR op_eq (pe_op op_mod (pv 1) pe_int) pe_int (nomark _)) (pss_one (ps_set (i := 2) sc_repeated_ends.nd rfl (Or.inl rfl) (pe_call G_one_behind_other (hr.mono (by decide)) rfl g_one_behind_other k_one_behind_other B_one_behind_other .nil pass0 (pa_cons (pv 2) (pa_cons (pv 3) pa_nil))))) pss_nil) (pss_cons (ps_set (i := 1) sc_repeated_ends.nd rfl (Or.inl rfl) (pe_op op_fdiv (pv 1) pe_int)) (pss_one (ps_if (pt_cmpR op_gt (pv 1) pe_int (nomark _)) (pss_one (ps_set (i := 3) sc_repeated_ends.nd rfl (Or.inl rfl) (pe_call G_one_behind_other (hr.mono (by decide)) rfl g_one_behind_other k_one_behind_other B_one_behind_other .nil pass0 (pa_cons (pv 3) (pa_cons (pv 3) pa_nil))))) pss_nil))))) (pss_one (ps_ret (pv 2))))), ?_⟩), b⟩
  · obtain ⟨_, _, _, _, _, rfl, _⟩ := h; rfl
  · obtain ⟨n, a, E, R, t0, rfl, hn, ht, ha, hf, hw, q⟩ := h
    have hlen : (((nls E).length : Nat) : Int) = ((n + 1 : Nat) : Int) := by rw [nls_len, hf.len]
    refine ⟨_, rfl, _, _, rfl, .inl ha, n, by rw [hlen]; rfl, hn, fun H1 e0 Ee0 s0 h0 f0 => ?_⟩
    refine ⟨_, rfl, ?_⟩
    refine ⟨fun t σ H' => Same H H' ∧ ∃ e d : Nat, ∃ ea Ee da Ed, σ = [some (.ref a), some (.int t), some (.ref ea), some (.ref da)] ∧ e + t * d = t0 ∧ H' ea = some (.lst (nls Ee)) ∧ Fit n Ee (Pow n R e) ∧ (0 < t → SqL K H' da (nls Ed) ∧ Fit n Ed (Pow n R d)),
      ⟨t0, s0, 0, 1, e0, Ee0, a, E, rfl, by omega, h0, f0, fun _ => ⟨s0.seq ha, hf.ext fun x hx j => (pow_one hw x j).symm⟩⟩, ?_⟩
    rintro t σ H2 ⟨s1, e, d, ea, Ee, da, Ed, rfl, he, hea, fe, hd⟩
    refine ⟨_, rfl, _, _, rfl, rfl, _, rfl, ?_⟩
    by_cases c1 : 0 < t
    · obtain ⟨hda, fd'⟩ := hd c1
      refine if_true_of (decide_eq_true (by omega)) ⟨_, fun σ' H' z => ⟨t / 2, Nat.div_lt_self c1 (by decide), z⟩, ?_⟩
      -- the second half of the turn
      have half : ∀ (H3 : Hp) (e' : Nat) (ea' : Addr) (Ee' : List Nat) (D : Ends), Same H H3 → SqL K H3 da (nls Ed) → e' + (t / 2) * (2 * d) = t0 → H3 ea' = some (.lst (nls Ee')) → Fit n Ee' (Pow n R e') →
          (∀ σ H', (Same H H' ∧ ∃ e d : Nat, ∃ ea Ee da Ed, σ = [some (.ref a), some (.int ((t / 2 : Nat) : Int)), some (.ref ea), some (.ref da)] ∧ e + (t / 2) * d = t0 ∧ H' ea = some (.lst (nls Ee)) ∧ Fit n Ee (Pow n R e) ∧ (0 < t / 2 → SqL K H' da (nls Ed) ∧ Fit n Ed (Pow n R d))) → D.nx σ H') →
          tSeq (tAsg (tOp (rI CDiv fun i j => .int (i / j)) (tVar 1) (tC (.int 2))) (gName 1)) (tIfS (tTest (tOp (rI0 fun i j => .bl (decide (j < i))) (tVar 1) (tC (.int 0)))) (tAsg (tCall (spBehind K) [] E0 (tCons (tVar 3) (tCons (tVar 3) tNil))) (gName 3)) tNext) D [some (.ref a), some (.int t), some (.ref ea'), some (.ref da)] H3 := by
        intro H3 e' ea' Ee' D s3 hda3 he' hea' fe' hD
        refine ⟨_, rfl, _, _, rfl, rfl, ⟨by decide, by decide⟩, ?_⟩
        have ed : (t : Int) / 2 = ((t / 2 : Nat) : Int) := by omega
        dsimp only
        rw [ed]
        refine ⟨_, rfl, _, _, rfl, rfl, _, rfl, ?_⟩
        by_cases c3 : 0 < t / 2
        · refine if_true_of (decide_eq_true (by omega)) ?_
          refine ⟨_, rfl, _, rfl, n, da, da, Ed, Ed, _, _, rfl, hn, hda3, hda3, fd', Fwd.pow hw d, fd', fun H4 q4 E4 s4 h4 f4 => ?_⟩
          refine hD _ _ ⟨s3.trans s4, e', 2 * d, ea', Ee', q4, E4, rfl, he', s4 _ _ hea', fe', fun _ => ⟨SqL.of h4, f4.ext fun x hx j => ?_⟩⟩
          rw [show 2 * d = d + d by omega]
          exact (pow_add hw d d hx j).symm
        · refine if_false_of (decide_eq_false (by omega)) ?_
          exact hD _ _ ⟨s3, e', 2 * d, ea', Ee', da, Ed, rfl, he', hea', fe', fun z => absurd z c3⟩
      refine ⟨_, rfl, _, _, rfl, rfl, (by show (0 : Int) < 2; decide), rfl, _, rfl, ?_⟩
      have em : (t : Int) % 2 = ((t % 2 : Nat) : Int) := by omega
      have e1 : decide (V.int ((t : Int) % 2) = V.int 1) = decide (t % 2 = 1) := by rw [em]; exact eq_nat (t % 2) 1
      dsimp only
      rw [e1]
      by_cases c2 : t % 2 = 1
      · refine if_true_of (decide_eq_true c2) ?_
        refine ⟨_, rfl, _, rfl, n, ea, da, Ee, Ed, _, _, rfl, hn, SqL.of hea, hda, fe, Fwd.pow hw e, fd', fun H3 q3 E3 s3 h3 f3 => ?_⟩
        refine half H3 (e + d) q3 E3 _ (s1.trans s3) (s3.seq hda) ?_ h3 (f3.ext fun x hx j => (pow_add hw e d hx j).symm) fun σ H' z => z
        have h2 : t = 2 * (t / 2) + 1 := by omega
        rw [h2] at he
        rw [← he, Nat.add_mul, Nat.one_mul]
        rw [show t / 2 * (2 * d) = 2 * (t / 2) * d by rw [Nat.mul_comm 2 (t / 2), Nat.mul_assoc]]
        have : (2 * (t / 2) + 1) / 2 = t / 2 := by omega
        omega
      · refine if_false_of (decide_eq_false c2) ?_
        refine half H2 e ea Ee _ s1 hda ?_ hea fe fun σ H' z => z
        have h2 : t = 2 * (t / 2) := by omega
        rw [show t / 2 * (2 * d) = 2 * (t / 2) * d by rw [Nat.mul_comm 2 (t / 2), Nat.mul_assoc], ← h2]
        exact he
    · refine if_false_of (decide_eq_false (by omega)) ⟨_, rfl, ?_⟩
      have t0' : t = 0 := by omega
      rw [t0', Nat.zero_mul, Nat.add_zero] at he
      rw [he] at fe
      exact q H2 ea Ee s1 hea fe
end
end RM
/-! Part D5: any number of pieces; a counted number. -/
namespace RM
open PySem PySem.Spec PyProof.Rows L2 PF
def Star (n : Nat) (R : Nat → Nat → Prop) : Nat → Nat → Prop := fun a j => ∃ t, Pow n R t a j
theorem Star.fwd {n : Nat} {R : Nat → Nat → Prop} (f : Fwd n R) : Fwd n (Star n R) := fun a j ⟨t, h⟩ => Fwd.pow f t a j h
theorem Star.self {n : Nat} {R : Nat → Nat → Prop} {a : Nat} (h : a ≤ n) : Star n R a a := ⟨0, rfl, h⟩
theorem Star.step {n : Nat} {R : Nat → Nat → Prop} {a k j : Nat} (h : R a k) (s : Star n R k j) : Star n R a j := by
  obtain ⟨t, h2⟩ := s
  exact ⟨t + 1, k, h, h2⟩
theorem Star.trans {n : Nat} {R : Nat → Nat → Prop} (f : Fwd n R) {a k j : Nat} (h : Star n R a k) (s : Star n R k j) : Star n R a j := by
  obtain ⟨t, h⟩ := h
  obtain ⟨t', s⟩ := s
  have ha : a ≤ n := by have := Fwd.pow f t a k h; omega
  exact ⟨t + t', (pow_add f t t' ha j).mpr ⟨k, h, s⟩⟩
theorem Star.closed {n : Nat} {R : Nat → Nat → Prop} {p : Nat} {S : Nat → Prop} (hp : S p) (h1 : ∀ k, R p k → S k) (h2 : ∀ k, S k → k ≠ p → ∀ j, Star n R k j → S j) {j : Nat} (h : Star n R p j) : S j := by
  obtain ⟨t, h⟩ := h
  induction t with
  | zero => rw [← h.1]; exact hp
  | succ t ih =>
    obtain ⟨k, hk, hj⟩ := h
    by_cases e : k = p
    · subst e; exact ih hj
    · exact h2 k (h1 k hk) e j ⟨t, hj⟩
theorem and_lt {a c : Nat} {f : Nat → Bool} (h : ∀ j, c.testBit j = (a.testBit j && f j)) {m : Nat} (ha : a.testBit m = true) (hf : f m = false) : c < a := by
  have e : c &&& a = c := Nat.eq_of_testBit_eq fun j => by
    rw [Nat.testBit_and, h j]
    cases a.testBit j <;> cases f j <;> rfl
  have le : c ≤ a := by
    have := @Nat.and_le_right c a
    rw [e] at this; exact this
  rcases Nat.lt_or_eq_of_le le with l | l
  · exact l
  · have := h m
    rw [l, ha, hf] at this; cases this
/-- some bit of r, by r & -r -/
theorem low_bit {r : Nat} (h : 0 < r) : ∃ c : Nat, Builtin.bitAnd (r : Int) (-(r : Int)) = (c : Int) ∧ 0 < c ∧ r.testBit c.log2 = true := by
  obtain ⟨c, e, hb⟩ := andNot_nat r (r - 1)
  have en : Builtin.bitNot ((r - 1 : Nat) : Int) = -(r : Int) := by
    show -((r - 1 : Nat) : Int) - 1 = -(r : Int)
    omega
  rw [en] at e
  have hc : 0 < c := by
    rcases Nat.eq_zero_or_pos c with z | z
    · exfalso
      have ee : r &&& (r - 1) = r := Nat.eq_of_testBit_eq fun j => by
        have := hb j
        rw [z, Nat.zero_testBit] at this
        rw [Nat.testBit_and]
        cases h1 : r.testBit j with
        | false => rfl
        | true =>
          rw [h1, Bool.true_and] at this
          cases h2 : (r - 1).testBit j with
          | false => rw [h2] at this; cases this
          | true => rfl
      have := @Nat.and_le_right r (r - 1)
      omega
    · exact z
  refine ⟨c, e, hc, ?_⟩
  have t := (top_bit hc).1
  rw [hb, Bool.and_eq_true] at t
  exact t.1
theorem set_get {E : List Nat} {i x a : Nat} (h : i < E.length) : (E.set i x).getD a 0 = if a = i then x else E.getD a 0 := by
  rw [List.getD_eq_getElem?_getD, List.getElem?_set, List.getD_eq_getElem?_getD]
  by_cases e : i = a
  · rw [if_pos e, if_pos e.symm, if_pos h]; rfl
  · rw [if_neg e, if_neg (fun z => e z.symm)]
theorem nls_set (E : List Nat) (i x : Nat) : (nls E).set i (V.int x) = nls (E.set i x) := by
  unfold nls
  rw [List.map_set]
theorem ixn_nat {n j : Nat} (hj : j < n) : ixN n (j : Int) = some j := by
  unfold ixN
  rw [if_pos (Int.natCast_nonneg j), if_pos (by omega), Int.toNat_natCast]
theorem nls_rep (n : Nat) : (List.replicate n [V.int 0]).flatten = nls (List.replicate n 0) := by
  unfold nls
  rw [List.map_replicate]
  induction n with
  | zero => rfl
  | succ n ih => rw [List.replicate_succ, List.replicate_succ, List.flatten_cons, ih]; rfl
theorem same_own {H0 H : Hp} {D : Addr} {o : HO} (s : Same H0 H) (hD : H0 D = none) : Same H0 (upd H D o) := fun b u e => by
  have : b ≠ D := fun z => by rw [z, hD] at e; cases e
  rw [upd_ne this]; exact s b u e
section
variable {P : Program} {w : World} {K : PySem.W.Frag} {mg : Str → Option Value} {base : Heap} {c : Cs} {fI : Addr}
theorem ok_any (T : Txt K mg c fI) : DOk P w K mg base CX0 1 "any_number_ends" ["once"] (spAny K) := by
  obtain ⟨f, fd, mf, kf, F, b⟩ := T.t_any_number_ends
  refine ⟨f, fd, mf, kf, F.ok sc_any_number_ends (fun vs H Q E h => ?_) (fun cdv A outer s H vs Q E hr h => ⟨_, pss_cons (ps_set (i := 1) sc_any_number_ends.nd rfl (Or.inl rfl) (pe_op op_rep (pe_lst (pa_cons pe_int pa_nil)) (pe_callB call_len_seq (by rfl) T.b_len PySem.boot_len (pa_cons (pv 0) pa_nil)))) (pss_cons (ps_for PassesOwn.never rfl (pi_range3 (by rfl) T.b_range (pa_cons (pe_op op_sub (pe_callB call_len_seq (by rfl) T.b_len PySem.boot_len (pa_cons (pv 0) pa_nil)) pe_int) (pa_cons (pe_un un_neg pe_int) (pa_cons (pe_un un_neg pe_int) pa_nil)))) (pg_name (i := 2) sc_any_number_ends.nd rfl (Or.inl rfl)) (pss_cons (ps_set (i := 3) sc_any_number_ends.nd rfl (Or.inl rfl) (pe_op op_shl pe_int (pv 2))) (pss_cons (ps_set (i := 4) sc_any_number_ends.nd rfl (Or.inl rfl) (pe_op op_and (pe_ix ix_list (pv 0) (pv 2) (fun _ _ => rfl)) (pe_un un_inv (pv 3)))) (pss_cons (ps_while PassesOwn.never (pt_cmpR op_gt (pv 4) pe_int (nomark _)) (pss_cons (ps_set (i := 5) sc_any_number_ends.nd rfl (Or.inl rfl) (pe_op op_sub (pe_bits (pe_op op_and (pv 4) (pe_un un_neg (pv 4)))) pe_int)) (pss_cons (ps_aug (i := 3) sc_any_number_ends.nd rfl (Or.inl rfl) (pe_ix ix_list (pv 1) (pv 5) (fun _ _ => rfl)) iop_or) (pss_one (ps_aug (i := 4) sc_any_number_ends.nd rfl (Or.inl rfl) (pe_un un_inv (pv 3)) iop_and))))) (pss_one (ps_asg (pv 3) (pg_sub (pv 1) (pv 2) set_list))))))) (pss_one (ps_ret (pv 1)))), ?_⟩), b⟩
  · obtain ⟨_, _, _, _, rfl, _⟩ := h; rfl
  · obtain ⟨n, a, E, R, rfl, hn, ha, hf, hw, q⟩ := h
    have hl1 : (nls E).length = n + 1 := by rw [nls_len, hf.len]
    refine ⟨(by decide : 1 ≤ sizeLine), fun L nL => ?_⟩
    have sL : Same H (upd H L (.lst [.int 0])) := same_upd nL
    refine ⟨_, rfl, _, _, rfl, .inl (sL.seq ha), L, _, _, rfl, rfl, upd_same, by omega, by rw [hl1]; omega, ?_, fun D nD => ?_⟩
    · rw [hl1, Int.toNat_natCast]; exact Nat.le_trans (by show 1 * (n + 1) ≤ 301; omega) (by decide)
    rw [hl1, Int.toNat_natCast, nls_rep]
    have nD0 : H D = none := by
      cases e : H D with
      | none => rfl
      | some o => rw [sL D o e] at nD; cases nD
    have s0 := same_own (o := .lst (nls (List.replicate (n + 1) 0))) sL nD0
    -- the turns
    refine ⟨_, rfl, _, _, rfl, .inl (s0.seq ha), _, _, rfl, rfl, _, rfl, _, rfl, _, _, _, n + 1, rfl, ?_, ?_⟩
    · rw [hl1]
      have := RgC.neg (i := (((n + 1 : Nat) : Int) - 1)) (j := -1) (by omega) (by omega) (by omega) (by omega)
      have e : ((((n + 1 : Nat) : Int) - 1) - (-1)).toNat = n + 1 := by omega
      rw [e] at this
      exact this
    rw [hl1]
    refine for_rangeC (fun i σ H' => Same H H' ∧ ∃ Es y2 y3 y4 y5, σ = [some (.ref a), some (.ref D), y2, y3, y4, y5] ∧ H' D = some (.lst (nls Es)) ∧ Es.length = n + 1 ∧ ∀ k, k ≤ n → n < k + i → ∀ j, bitAt Es k j = true ↔ Star n R k j)
      ⟨s0, _, none, none, none, none, rfl, upd_same, List.length_replicate, fun k h1 h2 => by omega⟩ ?_ ?_
    · rintro i σ H' hi ⟨s1, Es, y2, y3, y4, y5, rfl, hE, hl, hb⟩
      have ep : ((n + 1 : Nat) : Int) - 1 + (i : Int) * (-1) = ((n - i : Nat) : Int) := by omega
      rw [ep]
      generalize hp : n - i = p
      have hpn : p ≤ n := by omega
      refine ⟨_, rfl, _, _, rfl, rfl, cpow (by omega), _, rfl, _, rfl, ?_⟩
      dsimp only
      rw [shl_nat]
      refine ⟨_, _, _, _, rfl, rfl, s1.seq ha, atI_nat (nls_get (by rw [hf.len]; omega)), _, rfl, _, rfl, _, _, rfl, rfl, ?_⟩
      obtain ⟨r0, e0, b0⟩ := andNot_nat (E.getD p 0) (2 ^ p)
      dsimp only
      rw [e0]
      have b0' : ∀ k, r0.testBit k = true ↔ R p k ∧ k ≠ p := fun k => by
        have := hf.bit p hpn k
        unfold bitAt at this
        rw [b0, Bool.and_eq_true, this, Bool.not_eq_true', ← Bool.not_eq_true, pow_bit]
        exact ⟨fun h => ⟨h.1, fun z => h.2 z.symm⟩, fun h => ⟨h.1, fun z => h.2 z.symm⟩⟩
      refine ⟨fun r σ H2 => H2 = H' ∧ ∃ x : Nat, ∃ y5, σ = [some (.ref a), some (.ref D), some (.int p), some (.int x), some (.int r), y5] ∧ x.testBit p = true ∧ (∀ k, x.testBit k = true → Star n R p k) ∧ (∀ k, R p k → x.testBit k = true ∨ r.testBit k = true) ∧ (∀ k, r.testBit k = true → R p k ∧ x.testBit k = false) ∧ (∀ k, x.testBit k = true → k ≠ p → ∀ j, Star n R k j → x.testBit j = true),
        ⟨r0, rfl, 2 ^ p, y5, rfl, (pow_bit p p).mpr rfl, fun k h => by rw [← (pow_bit p k).mp h]; exact .self hpn, fun k h => ?_, fun k h => ?_, fun k h1 h2 => absurd ((pow_bit p k).mp h1).symm h2⟩, ?_⟩
      · by_cases z : p = k
        · exact .inl ((pow_bit p k).mpr z)
        · exact .inr ((b0' k).mpr ⟨h, fun e => z e.symm⟩)
      · have h := (b0' k).mp h
        refine ⟨h.1, ?_⟩
        rw [Nat.testBit_two_pow]; exact decide_eq_false fun z => h.2 z.symm
      rintro r σ H2 ⟨rfl, x, y5', rfl, x1, x2, x3, x4, x5⟩
      refine ⟨_, rfl, _, _, rfl, rfl, _, rfl, ?_⟩
      by_cases c1 : 0 < r
      · obtain ⟨z, ez, z0, z1⟩ := low_bit c1
        obtain ⟨g1, g2⟩ := x4 _ z1
        generalize hm : z.log2 = m at z1 g1 g2
        have mn := hw p m g1
        have mp : m ≠ p := fun e => by rw [e, x1] at g2; cases g2
        refine if_true_of (decide_eq_true (by omega)) ⟨fun σ' H2 => ∃ r', r' < r ∧ _, fun σ' H2 h => h, ?_⟩
        refine ⟨_, rfl, _, rfl, _, rfl, _, _, rfl, rfl, _, rfl, _, _, rfl, rfl, ?_⟩
        dsimp only
        rw [ez]
        have ek : ((Builtin.Int.intBits (z : Int) : Nat) : Int) - 1 = ((m : Nat) : Int) := by
          rw [bits_nat, if_neg (by omega), hm]; omega
        rw [ek]
        refine ⟨_, rfl, _, rfl, _, rfl, _, _, _, _, rfl, rfl, SqL.of hE, atI_nat (nls_get (by rw [hl]; omega)), _, _, rfl, rfl, ?_⟩
        dsimp only
        rw [or_nat]
        have hbm : ∀ j, (Es.getD m 0).testBit j = true ↔ Star n R m j := hb m mn.2 (by omega)
        refine ⟨_, rfl, _, rfl, _, rfl, _, _, rfl, rfl, ?_⟩
        obtain ⟨r', er, br⟩ := andNot_nat r (x ||| Es.getD m 0)
        dsimp only
        rw [er]
        have orb : ∀ j, (x ||| Es.getD m 0).testBit j = true ↔ x.testBit j = true ∨ Star n R m j := fun j => by rw [Nat.testBit_or, Bool.or_eq_true, hbm j]
        refine ⟨r', and_lt br z1 ?_, rfl, x ||| Es.getD m 0, _, rfl, (orb p).mpr (.inl x1), fun k h => ?_, fun k h => ?_, fun k h => ?_, fun k h1 h2 j h3 => ?_⟩
        · rw [(orb m).mpr (.inr (.self mn.2))]; rfl
        · rcases (orb k).mp h with h | h
          · exact x2 k h
          · exact .step g1 h
        · cases t : (x ||| Es.getD m 0).testBit k with
          | true => exact .inl rfl
          | false =>
            refine .inr ?_
            rw [br, t]
            rcases x3 k h with h' | h'
            · rw [(orb k).mpr (.inl h')] at t; cases t
            · rw [h']; rfl
        · rw [br, Bool.and_eq_true, Bool.not_eq_true'] at h
          exact ⟨(x4 k h.1).1, h.2⟩
        · rcases (orb k).mp h1 with h | h
          · exact (orb j).mpr (.inl (x5 k h h2 j h3))
          · exact (orb j).mpr (.inr (.trans hw h h3))
      · have r0' : r = 0 := by omega
        refine if_false_of (decide_eq_false (by omega)) ⟨_, rfl, _, rfl, _, rfl, ?_⟩
        refine ⟨D, _, _, p, rfl, rfl, hE, ?_, ?_⟩
        · rw [nls_len]; exact ixn_nat (by rw [hl]; omega)
        rw [nls_set]
        refine ⟨same_own s1 nD0, _, _, _, _, _, rfl, upd_same, by rw [List.length_set, hl], fun k h1 h2 j => ?_⟩
        unfold bitAt
        rw [set_get (by rw [hl]; omega)]
        by_cases e : k = p
        · rw [if_pos e, e]
          refine ⟨x2 j, fun h => Star.closed (S := fun j => x.testBit j = true) x1 (fun k h => ?_) x5 h⟩
          rcases x3 k h with z | z
          · exact z
          · rw [r0', Nat.zero_testBit] at z; cases z
        · rw [if_neg e]
          exact hb k h1 (by omega) j
    · rintro σ H' ⟨s1, Es, y2, y3, y4, y5, rfl, hE, hl, hb⟩
      exact ⟨_, rfl, q H' D Es s1 hE ⟨hl, fun k hk j => hb k hk (by omega) j⟩⟩
end
end RM
/-! Part D6: a counted number of pieces; bytes; places. -/
namespace RM
open PySem PySem.Spec PyProof.Rows L2 PF
def spBytes (K : PySem.W.Frag) : Sp := fun vs H Q _ => ∃ b s M q, vs = [.ref b, .ref s] ∧ SqL K H b (bls M) ∧ M.length = 256 ∧ SqL K H s (nls q) ∧ Ok8 q ∧ q.length ≤ 300 ∧ Gives H q.length (ByteR q fun c => M.getD c false) Q
/-- what holds at a place -/
def holdsN (k : Kd) (q : List Nat) (i : Nat) : Bool := match k with
  | .begin_ => decide (i = 0)
  | .end_ => decide (i = q.length)
  | .edge => edgeN q i
  | _ => !edgeN q i
def spHolds (K : PySem.W.Frag) : Sp := fun vs H Q _ => ∃ k : Kd, ∃ i : Nat, ∃ s q, vs = [.str (kdS k), .int i, .ref s] ∧ (k = .begin_ ∨ k = .end_ ∨ k = .edge ∨ k = .noEdge) ∧ SqL K H s (nls q) ∧ Ok8 q ∧ i ≤ q.length ∧ q.length ≤ 300 ∧ Q (.bl (holdsN k q i)) H
theorem bls_get {M : List Bool} {a : Nat} (h : a < M.length) : (bls M)[a]? = some (.bl (M.getD a false)) := by
  unfold bls
  rw [List.getElem?_map, List.getD_eq_getElem?_getD, List.getElem?_eq_getElem h]; rfl
theorem atI_neg1 {l : List V} {x : V} (h : l.getLast? = some x) : atI l (-1) = some x := by
  have hl : 0 < l.length := by
    cases l with
    | nil => cases h
    | cons _ _ => simp
  rw [List.getLast?_eq_getElem?] at h
  unfold atI ixN
  rw [if_neg (by decide), if_pos (by omega)]
  have e : ((-1 : Int) + (l.length : Int)).toNat = l.length - 1 := by omega
  rw [e]
  exact h
section
variable {P : Program} {w : World} {K : PySem.W.Frag} {mg : Str → Option Value} {base : Heap} {c : Cs} {fI : Addr}
theorem ok_counted (T : Txt K mg c fI) : DOk P w K mg base CX0 4 "counted_ends" ["once", "least", "most"] (spCounted K) := by
  obtain ⟨f, fd, mf, kf, F, b⟩ := T.t_counted_ends
  obtain ⟨_, _, g_repeated_ends, k_repeated_ends, G_repeated_ends, B_repeated_ends⟩ := ok_repeated (P := P) (w := w) (base := base) T
  obtain ⟨_, _, g_one_behind_other, k_one_behind_other, G_one_behind_other, B_one_behind_other⟩ := ok_behind (P := P) (w := w) (base := base) T
  obtain ⟨_, _, g_any_number_ends, k_any_number_ends, G_any_number_ends, B_any_number_ends⟩ := ok_any (P := P) (w := w) (base := base) T
  obtain ⟨_, _, g_either_ends, k_either_ends, G_either_ends, B_either_ends⟩ := ok_either (P := P) (w := w) (base := base) T
  obtain ⟨_, _, g_empty_ends, k_empty_ends, G_empty_ends, B_empty_ends⟩ := ok_empty (P := P) (w := w) (base := base) T
  refine ⟨f, fd, mf, kf, F.ok sc_counted_ends (fun vs H Q E h => ?_) (fun cdv A outer s H vs Q E hr h => ⟨_, pss_cons (ps_set (i := 3) sc_counted_ends.nd rfl (Or.inl rfl) (pe_call G_repeated_ends (hr.mono (by decide)) rfl g_repeated_ends k_repeated_ends B_repeated_ends .nil pass0 (pa_cons (pv 0) (pa_cons (pv 1) pa_nil)))) (pss_cons (ps_if (pt_cmpR op_isN (pv 2) pe_non (nomark _)) (pss_one (ps_ret (pe_call G_one_behind_other (hr.mono (by decide)) rfl g_one_behind_other k_one_behind_other B_one_behind_other .nil pass0 (pa_cons (pv 3) (pa_cons (pe_call G_any_number_ends (hr.mono (by decide)) rfl g_any_number_ends k_any_number_ends B_any_number_ends .nil pass0 (pa_cons (pv 0) pa_nil)) pa_nil))))) pss_nil) (pss_cons (ps_if (pt_cmpR op_eq (pv 2) (pv 1) (nomark _)) (pss_one (ps_ret (pv 3))) pss_nil) (pss_cons (ps_set (i := 4) sc_counted_ends.nd rfl (Or.inl rfl) (pe_call G_either_ends (hr.mono (by decide)) rfl g_either_ends k_either_ends B_either_ends .nil pass0 (pa_cons (pe_lst (pa_cons (pe_call G_empty_ends (hr.mono (by decide)) rfl g_empty_ends k_empty_ends B_empty_ends .nil pass0 (pa_cons (pe_callB call_len_seq (by rfl) T.b_len PySem.boot_len (pa_cons (pv 0) pa_nil)) pa_nil)) (pa_cons (pv 0) pa_nil))) pa_nil))) (pss_one (ps_ret (pe_call G_one_behind_other (hr.mono (by decide)) rfl g_one_behind_other k_one_behind_other B_one_behind_other .nil pass0 (pa_cons (pv 3) (pa_cons (pe_call G_repeated_ends (hr.mono (by decide)) rfl g_repeated_ends k_repeated_ends B_repeated_ends .nil pass0 (pa_cons (pv 4) (pa_cons (pe_op op_sub (pv 2) (pv 1)) pa_nil))) pa_nil)))))))), ?_⟩), b⟩
  · obtain ⟨_, _, _, _, _, _, rfl, _⟩ := h; rfl
  · obtain ⟨n, a, E, R, k, m, rfl, hn, hk, hm, ha, hf, hw, q⟩ := h
    have hl1 : (nls E).length = n + 1 := by rw [nls_len, hf.len]
    refine ⟨_, rfl, _, rfl, n, a, E, R, k, rfl, hn, by omega, ha, hf, hw, fun H1 e1 E1 s1 h1 f1 => ?_⟩
    have w1 := Fwd.pow hw k
    refine ⟨_, rfl, rfl, _, rfl, ?_⟩
    cases m with
    | none =>
      refine if_true_of rfl ?_
      refine ⟨_, rfl, _, rfl, n, a, E, R, rfl, hn, s1.seq ha, hf, hw, fun H2 e2 E2 s2 h2 f2 => ?_⟩
      exact ⟨n, e1, e2, E1, E2, _, _, rfl, hn, SqL.of (s2 _ _ h1), SqL.of h2, f1, w1, f2, fun H3 e3 E3 s3 h3 f3 => q H3 e3 E3 ((s1.trans s2).trans s3) h3 f3⟩
    | some m =>
      refine if_false_of (decide_eq_false fun z => by cases z) ?_
      obtain ⟨m1, m2⟩ := hm m rfl
      refine ⟨_, rfl, _, rfl, rfl, _, rfl, ?_⟩
      by_cases c1 : m = k
      · refine if_true_of (by rw [show optI (some m) = V.int (m : Nat) from rfl, eq_nat]; exact decide_eq_true c1) ⟨_, rfl, q H1 e1 E1 s1 h1 (f1.ext fun x _ j => ?_)⟩
        show _ ↔ Thn (Pow n R k) (Pow n (OrId n R) (m - k)) x j
        rw [c1, Nat.sub_self]
        exact (then_id w1 x j).symm
      · refine if_false_of (by rw [show optI (some m) = V.int (m : Nat) from rfl, eq_nat]; exact decide_eq_false c1) ?_
        refine ⟨_, rfl, _, _, rfl, .inl (s1.seq ha), n, by rw [hl1]; rfl, hn, fun H2 e2 E2 s2 h2 f2 => ⟨_, rfl, (by show 2 ≤ sizeLine; decide), fun L nL => ?_⟩⟩
        have s12 := s1.trans s2
        have sL : Same H2 (upd H2 L (.lst [.ref e2, .ref a])) := same_upd nL
        refine ⟨n, L, [(e2, E2), (a, E)], rfl, hn, (fun z => by cases z), SqL.of upd_same, fun x hx => ?_, fun H3 e3 E3 s3 h3 f3 => ?_⟩
        · rcases List.mem_cons.mp hx with e | hx
          · rw [e]; exact ⟨SqL.of (sL _ _ h2), Good.of f2 (Fwd.id n)⟩
          · rw [List.mem_singleton.mp hx]; exact ⟨(s12.trans sL).seq ha, Good.of hf hw⟩
        have hwo := orId_fwd hw
        have f3' : Fit n E3 (OrId n R) := f3.ext fun x hx j => by
          constructor
          · rintro ⟨y, hy, hb⟩
            rcases List.mem_cons.mp hy with e | hy
            · rw [e] at hb; exact .inl ((f2.bit x hx j).mp hb)
            · rw [List.mem_singleton.mp hy] at hb; exact .inr ((hf.bit x hx j).mp hb)
          · rintro (h | h)
            · exact ⟨_, List.mem_cons_self, (f2.bit x hx j).mpr h⟩
            · exact ⟨_, List.mem_cons_of_mem _ List.mem_cons_self, (hf.bit x hx j).mpr h⟩
        have s13 := (s12.trans sL).trans s3
        have ek : (m : Int) - (k : Int) = ((m - k : Nat) : Int) := by omega
        refine ⟨_, rfl, _, rfl, _, rfl, _, rfl, _, _, rfl, rfl, n, e3, E3, OrId n R, m - k, by dsimp only; rw [ek]; rfl, hn, by omega, h3, f3', hwo, fun H4 e4 E4 s4 h4 f4 => ?_⟩
        exact ⟨n, e1, e4, E1, E4, _, _, rfl, hn, SqL.of (s4 _ _ (s3 _ _ (sL _ _ (s2 _ _ h1)))), SqL.of h4, f1, w1, f4, fun H5 e5 E5 s5 h5 f5 => q H5 e5 E5 ((s13.trans s4).trans s5) h5 f5⟩
theorem ok_bytes (T : Txt K mg c fI) : DOk P w K mg base CX0 1 "byte_ends" ["members", "subject"] (spBytes K) := by
  obtain ⟨f, fd, mf, kf, F, b⟩ := T.t_byte_ends
  refine ⟨f, fd, mf, kf, F.ok sc_byte_ends (fun vs H Q E h => ?_) (fun cdv A outer s H vs Q E hr h => ⟨_, pss_cons (ps_setLc (i := 2) (own := [("place", 3), ("byte", 4)]) (g := gTup K 2 (gCons (gName 3) (gCons (gName 4) gNil))) (tt := tYes) rfl sc_byte_ends.nd rfl rfl (sw_true rfl rfl rfl (by decide +kernel)) (pi_enum (by rfl) T.b_enumerate (pa_cons (pv 1) pa_nil)) (blkOk_by (N := ["members", "subject", "ends", "place", "byte"]) (sc := defScope s_byte_ends) (by decide +kernel)) (fun _ _ _ _ _ => (pg_tup (by rfl) (pgs_cons (pg_name (i := 3) sc_byte_ends.nd rfl (Or.inl rfl)) (pgs_cons (pg_name (i := 4) sc_byte_ends.nd rfl (Or.inl rfl)) pgs_nil)))) (fun _ _ _ _ _ => pts_nil) (fun _ _ _ _ _ => (pe_ifExp (pt_val (pe_ix (show IxR _ (rIxL K) from ix_list) (pv 0) (pv 4) (fun _ _ => rfl))) (pe_op op_shl pe_int (pe_op op_add (pv 3) pe_int)) pe_int))) (pss_one (ps_ret (pe_op op_cat (pv 2) (pe_lst (pa_cons pe_int pa_nil))))), ?_⟩), b⟩
  · obtain ⟨_, _, _, _, rfl, _⟩ := h; rfl
  · obtain ⟨ma, sa, M, q, rfl, hM, hml, hs, h8, hn, g⟩ := h
    have hlen : (nls q).length = q.length := nls_len q
    refine ⟨_, rfl, sa, _, rfl, hs, fun D nD => ?_⟩
    refine lc_it (walk_enum (xs := nls q)) (fun k H2 => AccAt H D (ByteR q fun c => M.getD c false) k H2) (AccAt.start nD) (fun k H2 _ h => h.1.seq hs) ?_ ?_
    · rintro k v H2 H3 hk h ⟨t, v1, v2, rfl, nt, rfl, h1, h2⟩
      rw [hlen] at hk
      cases h1
      obtain ⟨k2, rfl⟩ := nls_of_get h2
      have ek : q[k]? = some (q.getD k 0) := by rw [List.getD_eq_getElem?_getD, List.getElem?_eq_getElem k2]; rfl
      have c8 : q.getD k 0 < 256 := h8 _ (List.mem_of_getElem? ek)
      have ht := h.tup (o := .tup [V.int k, V.int (q.getD k 0)]) nt
      refine ⟨t, _, rfl, SqT.of upd_same, rfl, _, _, rfl, _, _, rfl, rfl, ?_⟩
      refine ⟨rfl, _, rfl, _, rfl, _, _, _, _, rfl, rfl, ht.1.seq hM, atI_nat (bls_get (by rw [hml]; exact c8)), _, rfl, ?_⟩
      cases cm : M.getD (q.getD k 0) false with
      | true =>
        refine if_true_of rfl ?_
        refine ⟨_, rfl, _, _, rfl, rfl, _, _, rfl, rfl, cpow (k := k + 1) (by omega), ?_⟩
        dsimp only
        rw [show ((k : Int) + 1) = ((k + 1 : Nat) : Int) from rfl, shl_nat]
        refine ht.next nD (n := 300) (by decide) (by omega) fun j => ?_
        rw [pow_bit]
        exact ⟨fun e => ⟨e.symm, _, ek, cm⟩, fun e => e.1.symm⟩
      | false =>
        refine if_false_of rfl ?_
        refine ht.next (x := 0) nD (n := 300) (by decide) (by omega) fun j => ?_
        rw [Nat.zero_testBit]
        refine ⟨fun e => (by cases e), fun ⟨_, c, hc, hm⟩ => ?_⟩
        rw [ek] at hc
        cases hc
        have hm' : M.getD (q.getD k 0) false = true := hm
        rw [cm] at hm'; cases hm'
    · rintro H2 ⟨s2, E, hE, hA⟩
      rw [hlen] at hA
      refine ⟨_, rfl, (by decide : 1 ≤ sizeLine), fun L nL => ?_⟩
      have sL : Same H2 (upd H2 L (.lst [.int 0])) := same_upd nL
      refine ⟨_, _, _, _, rfl, rfl, sL _ _ hE, upd_same, ?_, fun p np => ?_⟩
      · rw [nls_len, hA.len]; exact Nat.le_trans (by show q.length + 1 ≤ 301; omega) (by decide)
      · refine g _ p (E ++ [0]) ((s2.trans sL).trans (same_upd np)) (by rw [← nls_app E 0]; exact upd_same) (Acc.fit (hA.snoc fun j => ?_))
        rw [Nat.zero_testBit]
        refine ⟨fun e => (by cases e), fun ⟨_, c, hc, _⟩ => ?_⟩
        rw [List.getElem?_eq_none (Nat.le_refl _)] at hc; cases hc
end
end RM
/-! Part D7: places; a form. -/
namespace RM
open PySem PySem.Spec PyProof.Rows L2 PF
theorem wordAtN_get {q : List Nat} {i : Nat} (h : i < q.length) : wordAtN q i = wordN (q.getD i 0) := by
  unfold wordAtN
  rw [List.getD_eq_getElem?_getD, List.getElem?_eq_getElem h]; rfl
theorem wordAtN_out {q : List Nat} {i : Nat} (h : q.length ≤ i) : wordAtN q i = false := by
  unfold wordAtN
  rw [List.getElem?_eq_none h]
theorem kd_eq (k l : Kd) : decide (V.str (kdS k) = V.str (kdS l)) = decide (k = l) := by
  cases k <;> cases l <;> decide +kernel
theorem tandV_of {ta tb : TE} {σ : L2.St} {H : Hp} {Q : VK} (x : Bool) (hq : Q (.bl x) H) (h : Q (.bl x) H → tAndV ta tb σ H Q) : tAndV ta tb σ H Q := h hq
theorem ite_of {c : Bool} {A B : Prop} (h1 : c = true → A) (h2 : c = false → B) : if c = true then A else B := by
  cases c with
  | true => exact if_true_of rfl (h1 rfl)
  | false => exact if_false_of rfl (h2 rfl)
section
variable {P : Program} {w : World} {K : PySem.W.Frag} {mg : Str → Option Value} {base : Heap} {c : Cs} {fI : Addr}
theorem ok_holds (T : Txt K mg c fI) : DOk P w K mg base CX0 2 "holds_at" ["kind", "place", "subject"] (spHolds K) := by
  obtain ⟨f, fd, mf, kf, F, b⟩ := T.t_holds_at
  obtain ⟨_, _, g_is_word_byte, k_is_word_byte, G_is_word_byte, B_is_word_byte⟩ := ok_word (P := P) (w := w) (base := base) T
  refine ⟨f, fd, mf, kf, F.ok sc_holds_at (fun vs H Q E h => ?_) (fun cdv A outer s H vs Q E hr h => ⟨_, pss_cons (ps_if (pt_cmpR op_eq (pv 0) (pe_globS rfl T.g_BEGIN) (nomark _)) (pss_one (ps_ret (pe_cmpR op_eq (pv 1) pe_int (nomark _)))) pss_nil) (pss_cons (ps_if (pt_cmpR op_eq (pv 0) (pe_globS rfl T.g_END) (nomark _)) (pss_one (ps_ret (pe_cmpR op_eq (pv 1) (pe_callB call_len_seq (by rfl) T.b_len PySem.boot_len (pa_cons (pv 2) pa_nil)) (nomark _)))) pss_nil) (pss_cons (ps_set (i := 3) sc_holds_at.nd rfl (Or.inl rfl) (pe_and (pe_cmpR op_gt (pv 1) pe_int (nomark _)) (pe_one (pe_call G_is_word_byte (hr.mono (by decide)) rfl g_is_word_byte k_is_word_byte B_is_word_byte .nil pass0 (pa_cons (pe_ix ix_list (pv 2) (pe_op op_sub (pv 1) pe_int) (fun _ _ => rfl)) pa_nil))))) (pss_cons (ps_set (i := 4) sc_holds_at.nd rfl (Or.inl rfl) (pe_and (pe_cmpR op_lt (pv 1) (pe_callB call_len_seq (by rfl) T.b_len PySem.boot_len (pa_cons (pv 2) pa_nil)) (nomark _)) (pe_one (pe_call G_is_word_byte (hr.mono (by decide)) rfl g_is_word_byte k_is_word_byte B_is_word_byte .nil pass0 (pa_cons (pe_ix ix_list (pv 2) (pv 1) (fun _ _ => rfl)) pa_nil))))) (pss_one (ps_ret (pe_cmpR op_eq (pe_cmpR op_ne (pv 3) (pv 4) (nomark _)) (pe_cmpR op_eq (pv 0) (pe_globS rfl T.g_EDGE) (nomark _)) (nomark _))))))), ?_⟩), b⟩
  · obtain ⟨_, _, _, _, rfl, _⟩ := h; rfl
  · obtain ⟨k, i, sa, q, rfl, hk, hs, h8, hi, hn, g⟩ := h
    have hlen : (nls q).length = q.length := nls_len q
    have eb : decide (V.str (kdS k) = V.str "begin") = decide (k = .begin_) := kd_eq k .begin_
    have ee : decide (V.str (kdS k) = V.str "end") = decide (k = .end_) := kd_eq k .end_
    have ed : decide (V.str (kdS k) = V.str "edge") = decide (k = .edge) := kd_eq k .edge
    dsimp only [tSeq, tIfS, tTest]
    refine ⟨_, rfl, rfl, _, rfl, ?_⟩
    rw [eb]
    by_cases c1 : k = .begin_
    · refine if_true_of (decide_eq_true c1) ⟨_, rfl, rfl, ?_⟩
      have := eq_nat i 0
      rw [c1] at g
      rw [show V.int (0 : Int) = V.int ((0 : Nat) : Int) from rfl, this]
      exact g
    refine if_false_of (decide_eq_false c1) ?_
    refine ⟨_, rfl, rfl, _, rfl, ?_⟩
    rw [ee]
    by_cases c2 : k = .end_
    · refine if_true_of (decide_eq_true c2) ⟨_, rfl, _, rfl, _, _, rfl, .inl hs, rfl, ?_⟩
      rw [c2] at g
      rw [hlen, eq_nat]
      exact g
    refine if_false_of (decide_eq_false c2) ?_
    -- what is ahead, and what is behind
    have last : ∀ (x1 x2 : Bool), x1 = (if i = 0 then false else wordAtN q (i - 1)) → x2 = wordAtN q i → Q (.bl (decide (V.bl (!decide (V.bl x1 = V.bl x2)) = V.bl (decide (k = .edge))))) H := by
      intro x1 x2 e1 e2
      have : holdsN k q i = decide (V.bl (!decide (V.bl x1 = V.bl x2)) = V.bl (decide (k = .edge))) := by
        have hed : edgeN q i = (x1 != x2) := by unfold edgeN; rw [← e1, ← e2]
        rcases hk with e | e | e | e
        · exact absurd e c1
        · exact absurd e c2
        · subst e; show edgeN q i = _; rw [hed]; cases x1 <;> cases x2 <;> decide +kernel
        · subst e; show (!edgeN q i) = _; rw [hed]; cases x1 <;> cases x2 <;> decide +kernel
      rw [← this]; exact g
    have w8 : ∀ a, a < q.length → (nls q)[a]? = some (.int (q.getD a 0)) := fun a ha => nls_get ha
    dsimp only [tNext, tSeq, tAsg]
    refine tandV_of (if i = 0 then false else wordAtN q (i - 1)) ?_ fun hq => ?_
    · refine tandV_of (wordAtN q i) ?_ fun hq => ?_
      · refine ⟨_, rfl, _, rfl, rfl, _, rfl, rfl, rfl, ?_⟩
        rw [ed]
        exact last _ _ rfl rfl
      · refine ⟨_, rfl, _, rfl, _, _, rfl, .inl hs, _, _, rfl, rfl, _, rfl, ite_of (fun z => ?_) fun z => ?_⟩
        · have z := of_decide_eq_true z
          rw [hlen] at z
          have z : i < q.length := by omega
          refine ⟨_, rfl, _, rfl, _, _, _, _, rfl, rfl, hs, atI_nat (nls_get z), _, rfl, ?_⟩
          rw [← wordAtN_get z]; exact hq
        · have z := of_decide_eq_false z
          rw [hlen] at z
          rw [wordAtN_out (by omega)] at hq
          exact hq
    · refine ⟨_, rfl, _, _, rfl, rfl, _, rfl, ite_of (fun z => ?_) fun z => ?_⟩
      · have z := of_decide_eq_true z
        have z : 0 < i := by omega
        have ei : (i : Int) - 1 = ((i - 1 : Nat) : Int) := by omega
        refine ⟨_, rfl, _, rfl, _, _, rfl, rfl, _, _, _, .int (q.getD (i - 1) 0), rfl, rfl, hs, (by rw [ei]; exact atI_nat (nls_get (by omega))), _, rfl, ?_⟩
        rw [if_neg (by omega), wordAtN_get (by omega)] at hq
        exact hq
      · have z := of_decide_eq_false z
        rw [if_pos (by omega)] at hq
        exact hq
end
end RM
/-! Part D8: what a form fits. -/
namespace RM
open PySem PySem.Spec PyProof.Rows L2 PF
def spForm (K : PySem.W.Frag) (c : Cs) : Sp := fun vs H Q _ => ∃ fa ea sa fm ps q, vs = [.ref fa, .ref ea, .ref sa] ∧ FormAt c.fm H fa fm ∧ Shp (List.length (α := Addr × List Nat) ps) fm ∧ ps.length ≤ 2000 ∧ SqL K H ea (refs ps) ∧ PtsAt K q.length H ps ∧ SqL K H sa (nls q) ∧ Ok8 q ∧ q.length ≤ 300 ∧
  ∀ H' x E, Same H H' → SqL K H' x (nls E) → Fit q.length E (comb q (fun p => BitR ((ps.map (·.2)).getD p [])) fm) → Q (.ref x) H'
/-- the p-th of them -/
def ptOf (ps : Pts) (p : Nat) : Addr × List Nat := ps.getD p (0, [])
theorem ptOf_get {ps : Pts} {p : Nat} (h : p < ps.length) : ps[p]? = some (ptOf ps p) := by
  unfold ptOf
  rw [List.getD_eq_getElem?_getD, List.getElem?_eq_getElem h]; rfl
theorem ptOf_snd {ps : Pts} {p : Nat} : (ptOf ps p).2 = (ps.map (·.2)).getD p [] := by
  unfold ptOf
  rw [List.getD_eq_getElem?_getD, List.getD_eq_getElem?_getD, List.getElem?_map]
  cases ps[p]? <;> rfl
theorem ptOf_at {K : PySem.W.Frag} {n : Nat} {H : Hp} {ps : Pts} (h : PtsAt K n H ps) {p : Nat} (l : p < ps.length) : SqL K H (ptOf ps p).1 (nls (ptOf ps p).2) ∧ Good n (ptOf ps p).2 := h _ (List.mem_of_getElem? (ptOf_get l))
theorem refs_at {ps : Pts} {p : Nat} (h : p < ps.length) : (refs ps)[p]? = some (.ref (ptOf ps p).1) := by
  unfold refs
  rw [List.getElem?_map, ptOf_get h]; rfl
theorem refs_snoc (l : Pts) (x : Addr × List Nat) : refs l ++ [V.ref x.1] = refs (l ++ [x]) := by
  unfold refs
  rw [List.map_append]; rfl
theorem mem_memOf (f : Nat → Bool) : (memOf f).length = 256 := by unfold memOf; rw [List.length_map, List.length_range]
theorem shp_parts {i : Nat} {fm : Fm} (h : Shp i fm) : (∀ p ∈ fm.parts, p < i) ∧ fm.parts.length ≤ i + 1 := by
  have one : ∀ {j : Nat}, j < i → ∀ p ∈ [j], p < i := fun h p hp => by rw [List.mem_singleton.mp hp]; exact h
  cases h with
  | byte f => exact ⟨fun p h => absurd h List.not_mem_nil, Nat.zero_le _⟩
  | begin_ => exact ⟨fun p h => absurd h List.not_mem_nil, Nat.zero_le _⟩
  | end_ => exact ⟨fun p h => absurd h List.not_mem_nil, Nat.zero_le _⟩
  | edge => exact ⟨fun p h => absurd h List.not_mem_nil, Nat.zero_le _⟩
  | noEdge => exact ⟨fun p h => absurd h List.not_mem_nil, Nat.zero_le _⟩
  | row js h l => exact ⟨h, Nat.le_succ_of_le l⟩
  | either js h l _ => exact ⟨h, Nat.le_succ_of_le l⟩
  | both js h l _ => exact ⟨h, Nat.le_succ_of_le l⟩
  | turned j h => exact ⟨one h, Nat.le_add_left _ _⟩
  | counted j n m h _ _ => exact ⟨one h, Nat.le_add_left _ _⟩
  | group j k h => exact ⟨one h, Nat.le_add_left _ _⟩
theorem pe_fldK {X : Cx} {K : PySem.W.Frag} {o : Expr} {f : Str} {pos : Pos} {ta : TE} (hK : X.K = K) (he : PE X o ta) (hb : attributeBase o f X.env (eval o X.env) = eval o X.env) : PE X (.Attribute o f pos) (tFld K ta f) := hK ▸ pe_fld he hb
section
variable {P : Program} {w : World} {K : PySem.W.Frag} {mg : Str → Option Value} {base : Heap} {c : Cs} {fI : Addr}
theorem fo_kind {H : Hp} {fa : Addr} {fm : Fm} {Q : V → Prop} (T : Txt K mg c fI) (h : FormAt c.fm H fa fm) (q : Q (.str (kdS fm.kd))) : ∃ a' C dx fs v, V.ref fa = .ref a' ∧ H a' = some (.ins C dx fs) ∧ Cls K C ∧ NoAttr K C "kind" ∧ fs.lookup ("kind" : Str) = some v ∧ Q v := by
  obtain ⟨dx, pa, tv, h1, h2, h3⟩ := h
  exact ⟨_, _, _, _, _, rfl, h1, T.c_Form, T.n_Form_kind, lk_here, q⟩
theorem fo_parts {H : Hp} {fa : Addr} {fm : Fm} {Q : V → Prop} (T : Txt K mg c fI) (h : FormAt c.fm H fa fm) (q : ∀ pa, H pa = some (.lst (nls fm.parts)) → Q (.ref pa)) : ∃ a' C dx fs v, V.ref fa = .ref a' ∧ H a' = some (.ins C dx fs) ∧ Cls K C ∧ NoAttr K C "parts" ∧ fs.lookup ("parts" : Str) = some v ∧ Q v := by
  obtain ⟨dx, pa, tv, h1, h2, h3⟩ := h
  exact ⟨_, _, _, _, _, rfl, h1, T.c_Form, T.n_Form_parts, (lk_past (by decide +kernel)).trans lk_here, q pa h2⟩
theorem fo_told {H : Hp} {fa : Addr} {fm : Fm} {Q : V → Prop} (T : Txt K mg c fI) (h : FormAt c.fm H fa fm) (q : ∀ tv, ToldAt H tv fm.tl → Q tv) : ∃ a' C dx fs v, V.ref fa = .ref a' ∧ H a' = some (.ins C dx fs) ∧ Cls K C ∧ NoAttr K C "told" ∧ fs.lookup ("told" : Str) = some v ∧ Q v := by
  obtain ⟨dx, pa, tv, h1, h2, h3⟩ := h
  exact ⟨_, _, _, _, _, rfl, h1, T.c_Form, T.n_Form_told, (lk_past (by decide +kernel)).trans ((lk_past (by decide +kernel)).trans lk_here), q tv h3⟩
theorem kd_yes {fa : Addr} {fm : Fm} {σ : L2.St} {H : Hp} {t u : TS} {D : Ends} (T : Txt K mg c fI) (l : Kd) (h0 : σ[0]? = some (some (.ref fa))) (h : FormAt c.fm H fa fm) (e : fm.kd = l) (q : t D σ H) : tIfS (tTest (tOp rEq (tFld K (tVar 0) "kind") (tC (.str (kdS l))))) t u D σ H :=
  ⟨_, h0, fo_kind T h ⟨rfl, _, rfl, if_true_of (by rw [kd_eq]; exact decide_eq_true e) q⟩⟩
theorem kd_no {fa : Addr} {fm : Fm} {σ : L2.St} {H : Hp} {t u : TS} {D : Ends} (T : Txt K mg c fI) (l : Kd) (h0 : σ[0]? = some (some (.ref fa))) (h : FormAt c.fm H fa fm) (e : fm.kd ≠ l) (q : u D σ H) : tIfS (tTest (tOp rEq (tFld K (tVar 0) "kind") (tC (.str (kdS l))))) t u D σ H :=
  ⟨_, h0, fo_kind T h ⟨rfl, _, rfl, if_false_of (by rw [kd_eq]; exact decide_eq_false e) q⟩⟩
theorem rowR_parts (n : Nat) (ps : Pts) : ∀ (js : List Nat) (R : Nat → Nat → Prop), ((js.map (ptOf ps)).map (·.2)).foldl (fun R E => Thn R (BitR E)) R = js.foldl (fun R p => Thn R (BitR ((ps.map (·.2)).getD p []))) R
  | [], R => rfl
  | j :: js, R => by
    rw [List.map_cons, List.map_cons, List.foldl_cons, List.foldl_cons, rowR_parts n ps js, ptOf_snd]
theorem ok_formEnds (T : Txt K mg c fI) : DOk P w K mg base CX0 5 "form_ends" ["form", "ends_of", "subject"] (spForm K c) := by
  obtain ⟨f, fd, mf, kf, F, b⟩ := T.t_form_ends
  obtain ⟨_, _, g_byte_ends, k_byte_ends, G_byte_ends, B_byte_ends⟩ := ok_bytes (P := P) (w := w) (base := base) T
  obtain ⟨_, _, g_row_ends, k_row_ends, G_row_ends, B_row_ends⟩ := ok_row (P := P) (w := w) (base := base) T
  obtain ⟨_, _, g_either_ends, k_either_ends, G_either_ends, B_either_ends⟩ := ok_either (P := P) (w := w) (base := base) T
  obtain ⟨_, _, g_both_ends, k_both_ends, G_both_ends, B_both_ends⟩ := ok_both (P := P) (w := w) (base := base) T
  obtain ⟨_, _, g_turned_ends, k_turned_ends, G_turned_ends, B_turned_ends⟩ := ok_turned (P := P) (w := w) (base := base) T
  obtain ⟨_, _, g_counted_ends, k_counted_ends, G_counted_ends, B_counted_ends⟩ := ok_counted (P := P) (w := w) (base := base) T
  obtain ⟨_, _, g_holds_at, k_holds_at, G_holds_at, B_holds_at⟩ := ok_holds (P := P) (w := w) (base := base) T
  refine ⟨f, fd, mf, kf, F.ok sc_form_ends (fun vs H Q E h => ?_) (fun cdv A outer s H vs Q E hr h => ⟨_, pss_cons (ps_setLc (i := 3) (own := [("part", 5)]) (g := gName 5) (tt := tYes) rfl sc_form_ends.nd rfl rfl (sw_true rfl rfl rfl (by decide +kernel)) (pi_list (pe_fld (pv 0) rfl)) (blkOk_by (N := ["form", "ends_of", "subject", "parts", "places", "part", "place"]) (sc := defScope s_form_ends) (by decide +kernel)) (fun _ _ _ _ _ => (pg_name (i := 5) sc_form_ends.nd rfl (Or.inl rfl))) (fun _ _ _ _ _ => pts_nil) (fun _ _ _ _ _ => (pe_ix (show IxR _ (rIxL K) from ix_list) (pv 1) (pv 5) (fun _ _ => rfl)))) (pss_cons (ps_set (i := 4) sc_form_ends.nd rfl (Or.inl rfl) (pe_op op_add (pe_callB call_len_seq (by rfl) T.b_len PySem.boot_len (pa_cons (pv 2) pa_nil)) pe_int)) (pss_cons (ps_if (pt_cmpR op_eq (pe_fld (pv 0) rfl) (pe_globS rfl T.g_BYTE) (nomark _)) (pss_one (ps_ret (pe_call G_byte_ends (hr.mono (by decide)) rfl g_byte_ends k_byte_ends B_byte_ends .nil pass0 (pa_cons (pe_fld (pv 0) rfl) (pa_cons (pv 2) pa_nil))))) pss_nil) (pss_cons (ps_if (pt_cmpR op_eq (pe_fld (pv 0) rfl) (pe_globS rfl T.g_ROW) (nomark _)) (pss_one (ps_ret (pe_call G_row_ends (hr.mono (by decide)) rfl g_row_ends k_row_ends B_row_ends .nil pass0 (pa_cons (pv 3) (pa_cons (pv 4) pa_nil))))) pss_nil) (pss_cons (ps_if (pt_cmpR op_eq (pe_fld (pv 0) rfl) (pe_globS rfl T.g_EITHER) (nomark _)) (pss_one (ps_ret (pe_call G_either_ends (hr.mono (by decide)) rfl g_either_ends k_either_ends B_either_ends .nil pass0 (pa_cons (pv 3) pa_nil)))) pss_nil) (pss_cons (ps_if (pt_cmpR op_eq (pe_fld (pv 0) rfl) (pe_globS rfl T.g_BOTH) (nomark _)) (pss_one (ps_ret (pe_call G_both_ends (hr.mono (by decide)) rfl g_both_ends k_both_ends B_both_ends .nil pass0 (pa_cons (pv 3) pa_nil)))) pss_nil) (pss_cons (ps_if (pt_cmpR op_eq (pe_fld (pv 0) rfl) (pe_globS rfl T.g_TURNED) (nomark _)) (pss_one (ps_ret (pe_call G_turned_ends (hr.mono (by decide)) rfl g_turned_ends k_turned_ends B_turned_ends .nil pass0 (pa_cons (pe_ix ix_list (pv 3) pe_int (fun _ _ => rfl)) pa_nil)))) pss_nil) (pss_cons (ps_if (pt_cmpR op_eq (pe_fld (pv 0) rfl) (pe_globS rfl T.g_COUNTED) (nomark _)) (pss_one (ps_ret (pe_call G_counted_ends (hr.mono (by decide)) rfl g_counted_ends k_counted_ends B_counted_ends .nil pass0 (pa_cons (pe_ix ix_list (pv 3) pe_int (fun _ _ => rfl)) (pa_cons (pe_ix ix_tup (pe_fld (pv 0) rfl) pe_int (fun _ _ => rfl)) (pa_cons (pe_ix ix_tup (pe_fld (pv 0) rfl) pe_int (fun _ _ => rfl)) pa_nil)))))) pss_nil) (pss_cons (ps_if (pt_cmpR op_eq (pe_fld (pv 0) rfl) (pe_globS rfl T.g_GROUP) (nomark _)) (pss_one (ps_ret (pe_ix ix_list (pv 3) pe_int (fun _ _ => rfl)))) pss_nil) (pss_one (ps_ret (pe_lc (own := [("place", 6)]) (g := gName 6) (tt := tYes) rfl sc_form_ends.nd (pi_range1 (by rfl) T.b_range (pa_cons (pv 4) pa_nil)) (blkOk_by (N := ["form", "ends_of", "subject", "parts", "places", "part", "place"]) (sc := defScope s_form_ends) (by decide +kernel)) (fun _ _ _ _ _ => (pg_name (i := 6) sc_form_ends.nd rfl (Or.inl rfl))) (fun _ _ _ _ _ => pts_nil) (fun _ _ _ _ _ => (pe_ifExp (pt_val (pe_call G_holds_at (hr.mono (by decide)) rfl g_holds_at k_holds_at B_holds_at .nil pass0 (pa_cons (pe_fldK (K := K) rfl (pv 0) rfl) (pa_cons (pv 6) (pa_cons (pv 2) pa_nil))))) (pe_op op_shl pe_int (pv 6)) pe_int))))))))))))), ?_⟩), b⟩
  · obtain ⟨_, _, _, _, _, _, rfl, _⟩ := h; rfl
  · obtain ⟨fa, ea, sa, fm, ps, q, rfl, hfm, hsh, hsz, hea, hps, hs, h8, hn, g⟩ := h
    have hlen : (nls q).length = q.length := nls_len q
    obtain ⟨hpl, hpz⟩ := shp_parts hsh
    refine ⟨_, rfl, fo_parts T hfm fun pa hpa => ⟨pa, rfl, ⟨_, SqL.of hpa⟩, fun D nD => ?_⟩⟩
    refine lc_list (K := K) (a := pa) (xs := nls fm.parts) (fun i H' => Same H H' ∧ H' D = some (.lst (refs ((fm.parts.take i).map (ptOf ps))))) ⟨same_upd nD, upd_same⟩ (fun i H' _ h => h.1.seq (SqL.of hpa)) ?_ ?_
    · rintro i y H' hy ⟨s1, h1⟩
      obtain ⟨hi, rfl⟩ := nls_of_get hy
      have ep : fm.parts[i]? = some (fm.parts.getD i 0) := by rw [List.getD_eq_getElem?_getD, List.getElem?_eq_getElem hi]; rfl
      have hp := hpl _ (List.mem_of_getElem? ep)
      refine ⟨rfl, _, rfl, _, rfl, _, _, _, _, rfl, rfl, s1.seq hea, atI_nat (refs_at hp), _, h1, ?_, same_own s1 nD, ?_⟩
      · unfold refs; rw [List.length_map, List.length_map, List.length_take]; exact Nat.lt_of_le_of_lt (by omega : min i fm.parts.length ≤ 2001) (by decide)
      · rw [take_snoc ep, List.map_append]
        rw [refs_snoc]
        exact upd_same
    rintro H1 ⟨s1, h1⟩
    rw [nls_len, List.take_length] at h1
    refine ⟨_, rfl, _, _, rfl, .inl (s1.seq hs), _, _, rfl, rfl, ?_⟩
    rw [hlen]
    dsimp only [tSeq, tNext]
    have hf1 := hfm.mono s1
    have pp : PtsAt K q.length H1 (fm.parts.map (ptOf ps)) := fun x hx => by
      obtain ⟨p, hp, rfl⟩ := List.mem_map.mp hx
      exact ptOf_at (hps.mono s1) (hpl p hp)
    have hD := SqL.of (K := K) h1
    by_cases hk : fm.kd = .begin_ ∨ fm.kd = .end_ ∨ fm.kd = .edge ∨ fm.kd = .noEdge
    · have hc : comb q (fun p => BitR ((ps.map (·.2)).getD p [])) fm = AtP q.length (holdsN fm.kd q) := by
        cases hsh with
        | begin_ => rfl
        | end_ => rfl
        | edge => rfl
        | noEdge => rfl
        | byte f => rcases hk with e | e | e | e <;> cases e
        | row js hj hl => rcases hk with e | e | e | e <;> cases e
        | either js hj hl hne => rcases hk with e | e | e | e <;> cases e
        | both js hj hl hne => rcases hk with e | e | e | e <;> cases e
        | turned j hj => rcases hk with e | e | e | e <;> cases e
        | counted j n m hj hn1 hm => rcases hk with e | e | e | e <;> cases e
        | group j k hj => rcases hk with e | e | e | e <;> cases e
      have no : ∀ l : Kd, (l ≠ .begin_ ∧ l ≠ .end_ ∧ l ≠ .edge ∧ l ≠ .noEdge) → fm.kd ≠ l := fun l hl e => by
        rcases hk with z | z | z | z
        · exact hl.1 (e ▸ z)
        · exact hl.2.1 (e ▸ z)
        · exact hl.2.2.1 (e ▸ z)
        · exact hl.2.2.2 (e ▸ z)
      refine kd_no T .byte rfl hf1 (no _ (by decide)) (kd_no T .row rfl hf1 (no _ (by decide)) (kd_no T .either rfl hf1 (no _ (by decide)) (kd_no T .both rfl hf1 (no _ (by decide)) (kd_no T .turned rfl hf1 (no _ (by decide)) (kd_no T .counted rfl hf1 (no _ (by decide)) (kd_no T .group rfl hf1 (no _ (by decide)) ?_))))))
      refine ⟨_, rfl, ((q.length + 1 : Nat) : Int), rfl, by omega, by omega, fun D2 nD2 => ?_⟩
      refine lc_range (lo := 0) (n := (((q.length + 1 : Nat) : Int)).toNat) (fun i H' => AccAt H1 D2 (AtP q.length (holdsN fm.kd q)) i H') (AccAt.start nD2) ?_ ?_
      · intro i H' hi h
        have hi' : i ≤ q.length := by omega
        have ei : (0 : Int) + (i : Int) = (i : Int) := Int.zero_add _
        rw [ei]
        refine ⟨rfl, _, rfl, fo_kind T (hf1.mono h.1) ⟨_, rfl, _, rfl, fm.kd, i, sa, q, rfl, hk, (s1.trans h.1).seq hs, h8, hi', hn, _, rfl, ?_⟩⟩
        cases hh : holdsN fm.kd q i with
        | true =>
          refine if_true_of rfl ⟨_, rfl, _, _, rfl, rfl, cpow (by omega), ?_⟩
          dsimp only
          rw [shl_nat]
          exact h.next nD2 hn hi' fun j => (pow_bit i j).trans ⟨fun e => ⟨e, hi', hh⟩, fun e => e.1⟩
        | false =>
          refine if_false_of rfl ?_
          refine h.next (x := 0) nD2 hn hi' fun j => ?_
          rw [Nat.zero_testBit]
          exact ⟨fun e => (by cases e), fun ⟨_, _, e⟩ => by rw [hh] at e; cases e⟩
      · intro H' h
        rw [Int.toNat_natCast] at h
        obtain ⟨s2, E2, hE2, hA⟩ := h
        refine g H' D2 E2 (s1.trans s2) (SqL.of hE2) ?_
        rw [hc]
        exact hA.fit
    cases hsh with
    | byte f =>
      refine kd_yes T .byte rfl hf1 rfl ⟨_, rfl, fo_told T hf1 fun tv ht => ?_⟩
      obtain ⟨ma, rfl, hma⟩ := ht
      exact ⟨_, rfl, ma, sa, memOf f, q, rfl, SqL.of hma, mem_memOf f, s1.seq hs, h8, hn, fun H' x E s' h' hfit => g H' x E (s1.trans s') (SqL.of h') hfit⟩
    | row js hj hl =>
      refine kd_no T .byte rfl hf1 (fun z => by cases z) (kd_yes T .row rfl hf1 rfl ?_)
      refine ⟨_, rfl, _, rfl, q.length, D, js.map (ptOf ps), rfl, hn, hD, pp, fun H' x E s' h' hfit => g H' x E (s1.trans s') (SqL.of h') ?_⟩
      have e := rowR_parts q.length ps js (PF.Id q.length)
      unfold rowR at hfit
      rw [e] at hfit
      exact hfit
    | either js hj hl hne =>
      refine kd_no T .byte rfl hf1 (fun z => by cases z) (kd_no T .row rfl hf1 (fun z => by cases z) (kd_yes T .either rfl hf1 rfl ?_))
      refine ⟨_, rfl, q.length, D, js.map (ptOf ps), rfl, hn, fun z => hne (List.map_eq_nil_iff.mp z), hD, pp, fun H' x E s' h' hfit => g H' x E (s1.trans s') h' (hfit.ext fun a _ j => ?_)⟩
      constructor
      · rintro ⟨x, hx, hb⟩
        obtain ⟨p, hp, rfl⟩ := List.mem_map.mp hx
        exact ⟨p, hp, by show BitR _ a j; rw [← ptOf_snd]; exact hb⟩
      · rintro ⟨p, hp, hb⟩
        exact ⟨_, List.mem_map.mpr ⟨p, hp, rfl⟩, by rw [ptOf_snd]; exact hb⟩
    | both js hj hl hne =>
      refine kd_no T .byte rfl hf1 (fun z => by cases z) (kd_no T .row rfl hf1 (fun z => by cases z) (kd_no T .either rfl hf1 (fun z => by cases z) (kd_yes T .both rfl hf1 rfl ?_)))
      refine ⟨_, rfl, q.length, D, js.map (ptOf ps), rfl, hn, fun z => hne (List.map_eq_nil_iff.mp z), hD, pp, fun H' x E s' h' hfit => g H' x E (s1.trans s') h' (hfit.ext fun a _ j => ?_)⟩
      constructor
      · intro h p hp
        show BitR _ a j
        rw [← ptOf_snd]
        exact h _ (List.mem_map.mpr ⟨p, hp, rfl⟩)
      · intro h x hx
        obtain ⟨p, hp, rfl⟩ := List.mem_map.mp hx
        rw [ptOf_snd]
        exact h p hp
    | turned j hj =>
      refine kd_no T .byte rfl hf1 (fun z => by cases z) (kd_no T .row rfl hf1 (fun z => by cases z) (kd_no T .either rfl hf1 (fun z => by cases z) (kd_no T .both rfl hf1 (fun z => by cases z) (kd_yes T .turned rfl hf1 rfl ?_))))
      have pj := ptOf_at (hps.mono s1) hj
      refine ⟨_, rfl, _, _, _, _, rfl, rfl, hD, atI_nat (j := 0) rfl, q.length, _, _, _, rfl, hn, pj.1, pj.2.fit, fun H' x E s' h' hfit => g H' x E (s1.trans s') (SqL.of h') ?_⟩
      rw [ptOf_snd] at hfit
      exact hfit
    | counted j n m hj hn1 hm =>
      refine kd_no T .byte rfl hf1 (fun z => by cases z) (kd_no T .row rfl hf1 (fun z => by cases z) (kd_no T .either rfl hf1 (fun z => by cases z) (kd_no T .both rfl hf1 (fun z => by cases z) (kd_no T .turned rfl hf1 (fun z => by cases z) (kd_yes T .counted rfl hf1 rfl ?_)))))
      have pj := ptOf_at (hps.mono s1) hj
      refine ⟨_, rfl, _, _, _, _, rfl, rfl, hD, atI_nat (j := 0) rfl, _, rfl, fo_told T hf1 fun tv ht => ?_⟩
      obtain ⟨ta, rfl, hta⟩ := ht
      refine ⟨_, _, _, _, rfl, rfl, SqT.of hta, atI_nat (j := 0) rfl, _, rfl, fo_told T hf1 fun tv ht' => ?_⟩
      obtain ⟨ta', rfl, hta'⟩ := ht'
      refine ⟨_, _, _, _, rfl, rfl, SqT.of hta', atI_nat (j := 1) rfl, q.length, _, _, _, n, m, rfl, hn, hn1, hm, pj.1, pj.2.fit, pj.2.2, fun H' x E s' h' hfit => g H' x E (s1.trans s') (SqL.of h') ?_⟩
      rw [ptOf_snd] at hfit
      exact hfit
    | group j k hj =>
      refine kd_no T .byte rfl hf1 (fun z => by cases z) (kd_no T .row rfl hf1 (fun z => by cases z) (kd_no T .either rfl hf1 (fun z => by cases z) (kd_no T .both rfl hf1 (fun z => by cases z) (kd_no T .turned rfl hf1 (fun z => by cases z) (kd_no T .counted rfl hf1 (fun z => by cases z) (kd_yes T .group rfl hf1 rfl ?_))))))
      have pj := ptOf_at (hps.mono s1) hj
      refine ⟨_, rfl, _, _, _, _, rfl, rfl, hD, atI_nat (j := 0) rfl, g H1 _ _ s1 pj.1 ?_⟩
      have := pj.2.fit
      rw [ptOf_snd] at this ⊢
      exact this
    | begin_ => exact absurd (.inl rfl) hk
    | end_ => exact absurd (.inr (.inl rfl)) hk
    | edge => exact absurd (.inr (.inr (.inl rfl))) hk
    | noEdge => exact absurd (.inr (.inr (.inr rfl))) hk
end
end RM
/-! Part CL: what all ends share. -/
namespace RM
open PySem PySem.Spec PyProof.Rows L2 PF
def Bytes8 (ns : List Int) : Prop := ∀ z ∈ ns, 0 ≤ z ∧ z ≤ 255
def nat8 (ns : List Int) : List Nat := ns.map Int.toNat
theorem nls_nat8 {ns : List Int} (h : Bytes8 ns) : nls (nat8 ns) = ns.map V.int := by
  unfold nls nat8
  rw [List.map_map]
  refine List.map_congr_left fun z hz => ?_
  have := h z hz
  show V.int ((z.toNat : Nat) : Int) = V.int z
  rw [Int.toNat_of_nonneg this.1]
theorem ok8_nat8 {ns : List Int} (h : Bytes8 ns) : Ok8 (nat8 ns) := fun x hx => by
  obtain ⟨z, hz, rfl⟩ := List.mem_map.mp hx
  have := h z hz
  omega
theorem text_nat8 (ns : List Int) : WrPattNeutral.text ns = tx (nat8 ns) := by
  unfold WrPattNeutral.text tx nat8
  rw [List.map_map]
  rfl
theorem nat8_len (ns : List Int) : (nat8 ns).length = ns.length := by unfold nat8; rw [List.length_map]
theorem short_iff (ns : List Int) : WrPatt.short (WrPattNeutral.text ns) = decide (ns.length ≤ 200) := by
  unfold WrPatt.short
  rw [text_nat8, tx_length, nat8_len]
  rfl
/-- a fault's answer -/
def fltA (e : Flt) : List Int := [9, 2, 0, e.1, e.2]
theorem roomH_suite {A : Around} {x : Option Value} (r : Room 1 A) : L2H.RoomH 1 (A.mark x) := ⟨r.dp, r.un⟩
theorem lst_ret {H : Hp} {Q : VK} {l : List V} (h : l.length ≤ 5) (q : ∀ H' p, H' p = some (.lst l) → Q (.ref p) H') : l.length ≤ sizeLine ∧ ∀ p, H p = none → Q (.ref p) (upd H p (.lst l)) :=
  ⟨Nat.le_trans h (by decide), fun p _ => q _ p upd_same⟩
/-- an error of the class at S is what «except S» names -/
theorem exm_self {K : PySem.W.Frag} {S : Addr} (h1 : PySem.W.subIn K (.ref S) (.type "BaseException") = some true) (h2 : PySem.W.isClsIn K S = true) (h3 : PySem.W.typeIn K (.ref S) = some (.type "type")) (h4 : PySem.W.subIn K (.ref S) (.ref S) = some true) :
    PySem.W.exmOne K (.ref S) (.ref S) = some true := by
  have e1 : (PySem.W.subIn K (.ref S) (.type "BaseException") == some true) = true := by rw [h1] <;> rfl
  have e2 : ((PySem.W.clsIn K S).isSome && PySem.W.typeIn K (.ref S) == some (.type "type")) = true := by
    have h2' : (PySem.W.clsIn K S).isSome = true := h2
    rw [h2', h3] <;> rfl
  show (if (PySem.W.subIn K (.ref S) (.type "BaseException") == some true) = true then (if ((PySem.W.clsIn K S).isSome && PySem.W.typeIn K (.ref S) == some (.type "type")) = true then PySem.W.subIn K (.ref S) (.ref S) else none) else none) = some true
  rw [if_pos e1, if_pos e2]
  exact h4
theorem bytes8_of {ns : List Int} (h : ns.all (PySem.W.Codec.inInt 0 255) = true) : Bytes8 ns := fun z hz => by
  have q := List.all_eq_true.mp h z hz
  have q' : (decide ((0 : Int) ≤ z) && decide (z ≤ 255)) = true := q
  rw [Bool.and_eq_true, decide_eq_true_eq, decide_eq_true_eq] at q'
  exact q'
end RM
/-! Part D9: what all forms fit. -/
namespace RM
open PySem PySem.Spec PyProof.Rows L2 PF
theorem comb_congr {q : List Nat} {ρ ρ' : Nat → Nat → Nat → Prop} {i : Nat} {fm : Fm} (h : Shp i fm) (e : ∀ p, p < i → ρ p = ρ' p) : comb q ρ fm = comb q ρ' fm := by
  cases h with
  | byte f => rfl
  | begin_ => rfl
  | end_ => rfl
  | edge => rfl
  | noEdge => rfl
  | row js hj _ =>
    have go : ∀ (l : List Nat) (R : Nat → Nat → Prop), (∀ p ∈ l, p < i) → l.foldl (fun R p => Thn R (ρ p)) R = l.foldl (fun R p => Thn R (ρ' p)) R := by
      intro l
      induction l with
      | nil => exact fun R _ => rfl
      | cons p l ih =>
        intro R hl
        rw [List.foldl_cons, List.foldl_cons, e p (hl p List.mem_cons_self)]
        exact ih _ fun x hx => hl x (List.mem_cons_of_mem _ hx)
    exact go js _ hj
  | either js hj _ _ =>
    funext a j
    refine propext ⟨fun ⟨p, hp, hr⟩ => ⟨p, hp, by rw [← e p (hj p hp)]; exact hr⟩, fun ⟨p, hp, hr⟩ => ⟨p, hp, by rw [e p (hj p hp)]; exact hr⟩⟩
  | both js hj _ _ =>
    funext a j
    refine propext ⟨fun h p hp => by rw [← e p (hj p hp)]; exact h p hp, fun h p hp => by rw [e p (hj p hp)]; exact h p hp⟩
  | turned j hj =>
    show (fun a k => a ≤ k ∧ k ≤ q.length ∧ ¬ ρ j a k) = fun a k => a ≤ k ∧ k ≤ q.length ∧ ¬ ρ' j a k
    rw [e j hj]
  | counted j n m hj _ _ =>
    show CntR q.length (ρ j) n m = CntR q.length (ρ' j) n m
    rw [e j hj]
  | group j k hj => exact e j hj
def spAllEnds (K : PySem.W.Frag) (c : Cs) : Sp := fun vs H Q _ => ∃ fl sa fas fs q, vs = [.ref fl, .ref sa] ∧ SqL K H fl (fas.map V.ref) ∧ FormsAt c.fm H fas fs ∧ (∀ i, i < fs.length → ∃ fm, fs[i]? = some fm ∧ Shp i fm) ∧ fs.length ≤ 2000 ∧ SqL K H sa (nls q) ∧ Ok8 q ∧ q.length ≤ 300 ∧
  ∀ H' x ps, Same H H' → SqL K H' x (refs ps) → PtsAt K q.length H' ps → ps.length = fs.length → (∀ i, i < fs.length → Local q fs (ps.map (·.2)) i) → Q (.ref x) H'
section
variable {P : Program} {w : World} {K : PySem.W.Frag} {mg : Str → Option Value} {base : Heap} {c : Cs} {fI : Addr}
theorem getD_app {l : List (List Nat)} {x : List Nat} {p : Nat} (h : p < l.length) : (l ++ [x]).getD p [] = l.getD p [] := by
  rw [List.getD_eq_getElem?_getD, List.getD_eq_getElem?_getD, List.getElem?_append_left h]
theorem getD_last {l : List (List Nat)} {x : List Nat} {i : Nat} (h : l.length = i) : (l ++ [x]).getD i [] = x := by
  rw [List.getD_eq_getElem?_getD, List.getElem?_append_right (by omega), h, Nat.sub_self]; rfl
/-- a list of numbers isn't a list of addresses: it stays where that one changes -/
theorem seq_off {H : Hp} {D p : Addr} {ps : Pts} {E : List Nat} {o : HO} (hD : H D = some (.lst (refs ps))) (hE : E ≠ []) (h : SqL K H p (nls E)) : SqL K (upd H D o) p (nls E) := by
  by_cases e : p = D
  · subst e
    rcases h with (h | ⟨o', h⟩) | h
    · rw [hD] at h
      injection h with h
      injection h with h
      cases E with
      | nil => exact absurd rfl hE
      | cons x E =>
        cases ps with
        | nil => cases h
        | cons y ps =>
          have h0 : V.ref y.1 = V.int x := (List.cons.inj h).1
          cases h0
    · rw [hD] at h; cases h
    · exact .inr h
  · rcases h with (h | ⟨o', h⟩) | h
    · exact .inl (.inl (by rw [upd_ne e]; exact h))
    · exact .inl (.inr ⟨o', by rw [upd_ne e]; exact h⟩)
    · exact .inr h
theorem ok_allEnds (T : Txt K mg c fI) : DOk P w K mg base CX0 6 "all_ends" ["forms", "subject"] (spAllEnds K c) := by
  obtain ⟨f, fd, mf, kf, F, b⟩ := T.t_all_ends
  obtain ⟨_, _, g_form_ends, k_form_ends, G_form_ends, B_form_ends⟩ := ok_formEnds (P := P) (w := w) (base := base) T
  refine ⟨f, fd, mf, kf, F.ok sc_all_ends (fun vs H Q E h => ?_) (fun cdv A outer s H vs Q E hr h => ⟨_, pss_cons (ps_set (i := 2) sc_all_ends.nd rfl (Or.inl rfl) (pe_lst pa_nil)) (pss_cons (ps_for PassesOwn.never rfl (pi_list (pv 0)) (pg_name (i := 3) sc_all_ends.nd rfl (Or.inl rfl)) (pss_one (ps_expr (pe_bm PySem.F.plainAttrs_list PySem.F.slot_list_append PySem.F.type_list_append mt_append (pv 2) (pa_cons (pe_call G_form_ends (hr.mono (by decide)) rfl g_form_ends k_form_ends B_form_ends .nil pass0 (pa_cons (pv 3) (pa_cons (pv 2) (pa_cons (pv 1) pa_nil)))) pa_nil))))) (pss_one (ps_ret (pv 2)))), ?_⟩), b⟩
  · obtain ⟨_, _, _, _, _, rfl, _⟩ := h; rfl
  · obtain ⟨fl, sa, fas, fs, q, rfl, hfl, hfs, hsh, hsz, hs, h8, hn, g⟩ := h
    refine ⟨Nat.zero_le _, fun D nD => ?_⟩
    have s0 : Same H (upd H D (.lst [])) := same_upd nD
    refine ⟨_, rfl, fl, rfl, ⟨_, s0.seq hfl⟩, ?_⟩
    refine for_list (K := K) (a := fl) (xs := fas.map V.ref) (fun i σ H' => Same H H' ∧ ∃ ps y, σ = [some (.ref fl), some (.ref sa), some (.ref D), y] ∧ H' D = some (.lst (refs ps)) ∧ ps.length = i ∧ PtsAt K q.length H' ps ∧ ∀ k, k < i → Local q fs (ps.map (·.2)) k)
      ⟨s0, [], none, rfl, upd_same, rfl, fun x hx => absurd hx List.not_mem_nil, fun k hk => absurd hk (Nat.not_lt_zero _)⟩ (fun i σ H' _ h => h.1.seq hfl) ?_ ?_
    · rintro i y σ H' hy ⟨s1, ps, y', rfl, hD, hl, hps, hlo⟩
      rw [List.getElem?_map] at hy
      obtain ⟨fa, hfa, rfl⟩ := Option.map_eq_some_iff.mp hy
      have hi : i < fs.length := by
        have := (List.getElem?_eq_some_iff.mp hfa).1
        rw [hfs.1] at this; exact this
      obtain ⟨fm, hfm, hs1⟩ := hsh i hi
      have hF := (hfs.2 i fa fm hfa hfm).mono s1
      refine ⟨_, rfl, .inl ⟨rfl, _, SqL.of hD⟩, _, rfl, _, rfl, _, rfl, ?_⟩
      refine ⟨fa, D, sa, fm, ps, q, rfl, hF, by rw [hl]; exact hs1, by omega, SqL.of hD, hps, s1.seq hs, h8, hn, fun H2 x E s2 hx hf => ?_⟩
      have hD2 := s2 _ _ hD
      have gx : Good q.length E := Good.of hf (comb_fwd (by rw [← hl] at hs1; exact hs1) fun p hp => by
        have := (ptOf_at hps hp).2.2
        rw [ptOf_snd] at this
        exact this)
      refine ⟨D, _, _, rfl, rfl, hD2, ?_, ?_⟩
      · unfold refs; rw [List.length_map, hl]; exact Nat.lt_of_lt_of_le hi (Nat.le_trans hsz (by decide))
      have nD' : H D = none := nD
      refine ⟨same_own (s1.trans s2) nD, ps ++ [(x, E)], _, rfl, ?_, ?_, ?_, ?_⟩
      · rw [refs_snoc ps (x, E)]; exact upd_same
      · rw [List.length_append, hl]; rfl
      · intro z hz
        rcases List.mem_append.mp hz with hz | hz
        · have := (hps.mono s2) z hz
          exact ⟨seq_off hD2 (fun e => by have := this.2.1; rw [e] at this; cases this) this.1, this.2⟩
        · rw [List.mem_singleton.mp hz]
          exact ⟨seq_off hD2 (fun e => by have t := gx.1; rw [show E = [] from e] at t; cases t) hx, gx⟩
      · intro k hk fm' hfm'
        obtain ⟨fm2, hfm2, hs2⟩ := hsh k (by omega)
        rw [hfm'] at hfm2
        cases hfm2
        have em : (ps ++ [(x, E)]).map (·.2) = ps.map (·.2) ++ [E] := by rw [List.map_append]; rfl
        have lm : (ps.map (·.2)).length = i := by rw [List.length_map, hl]
        rw [em, comb_congr (ρ' := fun p => BitR ((ps.map (·.2)).getD p [])) hs2 fun p hp => by rw [getD_app (by omega)]]
        rcases Nat.lt_succ_iff_lt_or_eq.mp hk with z | z
        · rw [getD_app (by omega)]
          exact hlo k z fm' hfm'
        · subst z
          rw [getD_last lm]
          rw [hfm] at hfm'
          cases hfm'
          exact hf
    · rintro σ H' ⟨s1, ps, y, rfl, hD, hl, hps, hlo⟩
      rw [List.length_map, hfs.1] at hl hlo
      exact ⟨_, rfl, g H' D ps s1 (SqL.of hD) hps hl hlo⟩
end
end RM
/-! Part E1: from the reader's forms to what they fit. -/
namespace RM
open PySem PySem.Spec PyProof.Rows L2 PF
/-- lists of numbers, of a pattern's forms: what they say of it -/
structure Whole (q : List Nat) (fs : List Fm) (Es : List (List Nat)) (a : WrPatt.Pat) : Prop where
  len : Es.length = fs.length
  loc : ∀ i, i < fs.length → Local q fs Es i
theorem Whole.fit {q : List Nat} {fs : List Fm} {Es : List (List Nat)} {a : WrPatt.Pat} {g : Nat} (h8 : Ok8 q) (h : Whole q fs Es a) (l : Lay fs 0 fs.length 0 g a) : 0 < fs.length ∧ Fit q.length (Es.getD (fs.length - 1) []) (RelR (WrPatt.rel (tx q) a)) :=
  ⟨(Lay.lt l).1, lay_fit h8 l fun i _ hi => h.loc i hi⟩
section
variable {P : Program} {w : World} {K : PySem.W.Frag} {mg : Str → Option Value} {base : Heap} {c : Cs} {fI : Addr}
variable {F H : Hp} {r : Addr} {p : List Nat} {place groups : Nat} {fs : List Fm} {lv : List Addr} {M : Mem}
theorem rd_f_formsAt {Q : V → Prop} (T : Txt K mg c fI) (R : RS K c F H r p place groups fs lv M) (q : ∀ (fl : Addr) (fas : List Addr), SqL K H fl (fas.map V.ref) → FormsAt c.fm H fas fs → Q (.ref fl)) : ∃ a C dx fs v, V.ref r = .ref a ∧ H a = some (.ins C dx fs) ∧ Cls K C ∧ NoAttr K C "forms" ∧ fs.lookup ("forms" : Str) = some v ∧ Q v := by
  obtain ⟨G, dx, pl, fl, ll, fas, _, f, _, o⟩ := R
  exact ⟨_, _, _, _, _, rfl, o.get 0 rfl, T.c_Reader, T.n_Reader_forms, rd_forms, q fl fas (SqL.of (o.get 1 rfl)) (f.mono o.le)⟩
theorem RS.from_ (R : RS K c F H r p place groups fs lv M) : Same F H := by
  obtain ⟨G, dx, pl, fl, ll, fas, s, f, _, o⟩ := R
  exact s.trans o.le
theorem Own.later {G H H' : Hp} {M : Mem} (o : Own G H M) (s : Same H H') : Own G H' M := ⟨o.le.trans s, o.nd, fun q hq => s _ _ (o.holds q hq), o.fresh⟩
theorem RS.later {H' : Hp} (R : RS K c F H r p place groups fs lv M) (s : Same H H') : RS K c F H' r p place groups fs lv M := by
  obtain ⟨G, dx, pl, fl, ll, fas, s0, f, hp, o⟩ := R
  exact ⟨G, dx, pl, fl, ll, fas, s0, f, hp, o.later s⟩
/-- the last of them, of the whole pattern -/
theorem last_at {q : List Nat} {H : Hp} {ps : Pts} {fs : List Fm} {a : WrPatt.Pat} {g : Nat} (h8 : Ok8 q) (hps : PtsAt K q.length H ps) (hl : ps.length = fs.length) (hlo : ∀ i, i < fs.length → Local q fs (ps.map (·.2)) i) (l : Lay fs 0 fs.length 0 g a) :
    ∃ x E, atI (refs ps) (-1) = some (.ref x) ∧ SqL K H x (nls E) ∧ Fit q.length E (RelR (WrPatt.rel (tx q) a)) := by
  obtain ⟨h0, hf⟩ := Whole.fit (g := g) h8 ⟨by rw [List.length_map]; exact hl, hlo⟩ l
  have hz : fs.length - 1 < ps.length := by omega
  have e := ptOf_at hps hz
  refine ⟨(ptOf ps (fs.length - 1)).1, (ptOf ps (fs.length - 1)).2, atI_neg1 ?_, e.1, ?_⟩
  · rw [List.getLast?_eq_getElem?]
    have : (refs ps).length - 1 = fs.length - 1 := by unfold refs; rw [List.length_map, hl]
    rw [this]
    exact refs_at hz
  · rw [ptOf_snd]; exact hf
theorem forms_shp {fs : List Fm} {a : WrPatt.Pat} {g : Nat} (l : Lay fs 0 fs.length 0 g a) : ∀ i, i < fs.length → ∃ fm, fs[i]? = some fm ∧ Shp i fm := fun i hi => lay_shp l i (Nat.zero_le _) hi
theorem forms_len {p : List Nat} {r : Except Flt Rd} {S : Rd} (h8 : Ok8 p) (h : p.length ≤ 300) (hr : Res p Rd.start r) (e : r = .ok S) : S.forms.length ≤ 2000 := by
  have := res_len h8 hr (start_sm p) S e
  omega
end
/-! ### fits -/
def fitsDue (i j : Nat) (p q : List Int) : List Int := PyWrpats.fits i j p q
theorem fits_not {i j : Nat} {p q : List Int} (h : ¬ (p.length ≤ 200 ∧ q.length ≤ 200 ∧ i ≤ j ∧ j ≤ q.length)) : PyWrpats.fits i j p q = [9, 1] := by
  show WrPattNeutral.told (WrPatt.answer (.fits (WrPattNeutral.text p) (WrPattNeutral.text q) ((i : Int).toNat) ((j : Int).toNat))) = _
  unfold WrPatt.answer
  rw [if_pos]
  · rfl
  · show (WrPatt.short _ && (WrPatt.short _ && (decide (_ ≤ _) && decide (_ ≤ _)))) = false
    rw [short_iff, short_iff, text_nat8, tx_length, nat8_len, Int.toNat_natCast, Int.toNat_natCast, ← Bool.not_eq_true]
    simp only [Bool.and_eq_true, decide_eq_true_eq]
    omega
theorem fits_is {i j : Nat} {p q : List Int} (h : p.length ≤ 200 ∧ q.length ≤ 200 ∧ i ≤ j ∧ j ≤ q.length) : PyWrpats.fits i j p q = match WrPatt.read (tx (nat8 p)) with
    | .error e => fltA e
    | .ok (a, _) => [0, if (WrPatt.rel (tx (nat8 q)) a).has i j = true then 1 else 0] := by
  show WrPattNeutral.told (WrPatt.answer (.fits (WrPattNeutral.text p) (WrPattNeutral.text q) ((i : Int).toNat) ((j : Int).toNat))) = _
  unfold WrPatt.answer
  rw [if_neg]
  · dsimp only [WrPatt.withPat]
    rw [text_nat8, text_nat8, Int.toNat_natCast, Int.toNat_natCast]
    cases WrPatt.read (tx (nat8 p)) with
    | error e => rfl
    | ok x =>
      obtain ⟨a, g⟩ := x
      dsimp only
      unfold WrPatt.fitsAt
      cases (WrPatt.rel (tx (nat8 q)) a).has i j <;> rfl
  · show ¬ (WrPatt.short _ && (WrPatt.short _ && (decide (_ ≤ _) && decide (_ ≤ _)))) = false
    rw [short_iff, short_iff, text_nat8, tx_length, nat8_len, Int.toNat_natCast, Int.toNat_natCast, Bool.not_eq_false]
    simp only [Bool.and_eq_true, decide_eq_true_eq]
    exact h
def spFits (K : PySem.W.Frag) : Sp := fun vs H Q _ => ∃ i j : Nat, ∃ pl sl p q, vs = [.int i, .int j, .ref pl, .ref sl] ∧ SqL K H pl (p.map V.int) ∧ SqL K H sl (q.map V.int) ∧ p.length ≤ 300 ∧ q.length ≤ 300 ∧ Bytes8 p ∧ Bytes8 q ∧ ∀ H' t, H' t = some (.lst ((PyWrpats.fits i j p q).map V.int)) → Q (.ref t) H'
end RM
/-! Part DP: whether it fits a piece. -/
namespace RM
open PySem PySem.Spec PyProof.Rows L2 PF
def spPiece (K : PySem.W.Frag) : Sp := fun vs H Q _ => ∃ e E, ∃ a j : Nat, vs = [.ref e, .int a, .int j] ∧ SqL K H e (nls E) ∧ a < E.length ∧ Q (.bl (bitAt E a j)) H
section
variable {P : Program} {w : World} {K : PySem.W.Frag} {mg : Str → Option Value} {base : Heap} {c : Cs} {fI : Addr}
theorem ok_piece (T : Txt K mg c fI) : DOk P w K mg base CX0 1 "fits_piece" ["ends", "start", "to"] (spPiece K) := by
  obtain ⟨f, fd, mf, kf, F, b⟩ := T.t_fits_piece
  refine ⟨f, fd, mf, kf, F.ok sc_fits_piece (fun vs H Q E h => ?_) (fun cdv A outer s H vs Q E hr h => ⟨_, pss_one (ps_ret (pe_cmpR op_eq (pe_op op_and (pe_op op_shr (pe_ix ix_list (pv 0) (pv 1) (fun _ _ => rfl)) (pv 2)) pe_int) pe_int (nomark _))), ?_⟩), b⟩
  · obtain ⟨_, _, _, _, rfl, _⟩ := h; rfl
  · obtain ⟨e, E, a, j, rfl, he, ha, q⟩ := h
    refine ⟨_, rfl, _, rfl, _, _, _, _, rfl, rfl, he, atI_nat (nls_get ha), _, rfl, _, _, rfl, rfl, Int.natCast_nonneg j, _, _, rfl, rfl, rfl, ?_⟩
    have key : decide (V.int (Builtin.bitAnd (((E.getD a 0 : Nat) : Int) / 2 ^ ((j : Int).toNat)) 1) = V.int 1) = bitAt E a j := by
      have e1 : ((E.getD a 0 : Nat) : Int) / 2 ^ ((j : Int).toNat) = ((E.getD a 0 / 2 ^ j : Nat) : Int) := by
        rw [Int.toNat_natCast, Int.natCast_ediv]
        rw [show ((2 ^ j : Nat) : Int) = (2 : Int) ^ j from PySem.W.kbt_cast j]
      have e3 : Builtin.bitAnd ((E.getD a 0 / 2 ^ j : Nat) : Int) 1 = ((E.getD a 0 / 2 ^ j &&& 1 : Nat) : Int) := and_nat _ 1
      rw [e1, e3]
      refine (eq_nat _ 1).trans ?_
      unfold bitAt
      rw [Nat.testBit_eq_decide_div_mod_eq, Nat.and_one_is_mod]
    show Q (.bl (decide (V.int (Builtin.bitAnd (((E.getD a 0 : Nat) : Int) / 2 ^ ((j : Int).toNat)) 1) = V.int 1))) H
    rw [key]
    exact q
end
end RM
/-! Part E2: fits. -/
namespace RM
open PySem PySem.Spec PyProof.Rows L2 PF
section
variable {P : Program} {w : World} {K : PySem.W.Frag} {mg : Str → Option Value} {base : Heap} {c : Cs} {fI : Addr}
theorem ok_fits {f : Addr} {fd : FuncData} (F : Fun K "fits" "fits" s_fits f fd) (T : Txt K mg c fI) : FnOk P w K mg base CX0 12 f fd ["start", "to", "pattern", "subject"] (spFits K) := by
  obtain ⟨_, _, g_read_pattern, k_read_pattern, G_read_pattern, B_read_pattern⟩ := ok_pattern (P := P) (w := w) (base := base) T
  obtain ⟨_, _, g_all_ends, k_all_ends, G_all_ends, B_all_ends⟩ := ok_allEnds (P := P) (w := w) (base := base) T
  obtain ⟨_, _, g_fits_piece, k_fits_piece, G_fits_piece, B_fits_piece⟩ := ok_piece (P := P) (w := w) (base := base) T
  refine F.ok sc_fits (fun vs H Q E h => ?_) (fun cdv A outer s H vs Q E hr h => ⟨_, pss_cons (ps_if (PW.pt (pw_or (pt_cmpR op_gt (pe_callB call_len_seq (by rfl) T.b_len PySem.boot_len (pa_cons (pv 2) pa_nil)) (pe_globI rfl T.g_LONGEST) (nomark _)) (pw_or (pt_cmpR op_gt (pe_callB call_len_seq (by rfl) T.b_len PySem.boot_len (pa_cons (pv 3) pa_nil)) (pe_globI rfl T.g_LONGEST) (nomark _)) (pw_or1 (pt_not (pt_chain op_le op_le (pv 0) (pv 1) (pe_callB call_len_seq (by rfl) T.b_len PySem.boot_len (pa_cons (pv 3) pa_nil)))))))) (pss_one (ps_ret (pe_lst (pa_cons (pe_globI rfl T.g_REFUSED) (pa_cons (pe_globI rfl T.g_BEYOND_BOUNDS) pa_nil))))) pss_nil) (pss_cons (ps_try_as (i := 5) (tb := fun W => tAsg (tCallS (spReadPattern K c) (WE W) (tCons (tVar 2) tNil)) (gName 4)) (ts := fun a cls d => tRet (tTold c.fl a cls d (tCons (tC (.int 0)) (tCons (tVar 5) tNil)))) (Wout := fun _ _ _ _ => False) rfl rfl sc_fits.nd rfl rfl ⟨rfl, by decide, Or.inl T.flt.gC⟩ takes0 (fun W pn xe tk _ => pss_one (ps_set (i := 4) sc_fits.nd rfl (Or.inl rfl) (by exact (pe_callS G_read_pattern (hr.mono (by decide)) rfl g_read_pattern k_read_pattern B_read_pattern (fun σ => passAt tk σ) (by exact (pa_cons (pv 2) pa_nil)))))) (fun a oe cls d pn hz hf => pss_one (ps_ret (by exact (pe_told T hz hf (roomH_suite (hr.mono (by decide))) rfl (by exact (pa_cons (pe_globI rfl T.g_FIRST) (pa_cons (pv 5) pa_nil)))))))) (pss_cons (ps_set (i := 6) sc_fits.nd rfl (Or.inl rfl) (pe_ix ix_list (pe_call G_all_ends (hr.mono (by decide)) rfl g_all_ends k_all_ends B_all_ends .nil pass0 (pa_cons (pe_fld (pv 4) rfl) (pa_cons (pv 3) pa_nil))) (pe_un un_neg pe_int) (fun _ _ => rfl))) (pss_one (ps_ret (pe_lst (pa_cons (pe_globI rfl T.g_ANSWERED) (pa_cons (pe_ifExp (pt_val (pe_call G_fits_piece (hr.mono (by decide)) rfl g_fits_piece k_fits_piece B_fits_piece .nil pass0 (pa_cons (pv 6) (pa_cons (pv 0) (pa_cons (pv 1) pa_nil))))) pe_int pe_int) pa_nil))))))), ?_⟩)
  · obtain ⟨_, _, _, _, _, _, rfl, _⟩ := h; rfl
  · obtain ⟨i, j, pl, sl, p, q, rfl, hp, hs, h300, h300q, h8p, h8q, g⟩ := h
    have refused : ¬ (p.length ≤ 200 ∧ q.length ≤ 200 ∧ i ≤ j ∧ j ≤ q.length) → tRet (tLst (tCons (tC (.int 9)) (tCons (tC (.int 1)) tNil))) { nx := fun _ H' => Q .non H', rt := Q } (L2.start ["start", "to", "pattern", "subject", "reader", "fault", "ends"] [.int i, .int j, .ref pl, .ref sl]) H := fun no =>
      lst_ret (by decide) fun H' t h => g H' t (by rw [fits_not no]; exact h)
    refine ⟨_, rfl, _, _, rfl, .inl hp, _, _, rfl, rfl, _, rfl, ?_⟩
    rw [List.length_map]
    by_cases c1 : 200 < p.length
    · exact if_true_of (decide_eq_true (by omega)) (if_true_of rfl (refused (by omega)))
    refine if_false_of (decide_eq_false (by omega)) ⟨_, rfl, _, _, rfl, .inl hs, _, _, rfl, rfl, _, rfl, ?_⟩
    rw [List.length_map]
    by_cases c2 : 200 < q.length
    · exact if_true_of (decide_eq_true (by omega)) (if_true_of rfl (refused (by omega)))
    refine if_false_of (decide_eq_false (by omega)) ?_
    refine ⟨_, rfl, _, rfl, _, _, rfl, rfl, _, rfl, ?_⟩
    by_cases c3 : i ≤ j
    case neg => exact if_false_of (decide_eq_false (by omega)) ⟨_, rfl, if_true_of rfl (refused (by omega))⟩
    refine if_true_of (decide_eq_true (by omega)) ⟨_, rfl, _, _, rfl, .inl hs, _, _, rfl, rfl, _, rfl, ?_⟩
    rw [List.length_map]
    by_cases c4 : j ≤ q.length
    case neg => exact if_true_of (by rw [decide_eq_false (by omega)]; rfl) (refused (by omega))
    refine if_false_of (by rw [decide_eq_true (by omega)]; rfl) ?_
    have due := fits_is (i := i) (j := j) (p := p) (q := q) ⟨by omega, by omega, c3, c4⟩
    obtain ⟨res, hres, hm⟩ := read_sim (ok8_nat8 h8p)
    refine ⟨_, rfl, H, pl, nat8 p, res, rfl, Same.refl _, by rw [nls_nat8 h8p]; exact hp, ok8_nat8 h8p, by rw [nat8_len]; exact h300, hres, fun e he d H1 s1 hd => ?_, fun S' hS H1 r lv M R => ?_⟩
    · refine ⟨true, T.flt.te, fun _ a ha => ?_, fun z => by cases z⟩
      refine ⟨_, rfl, _, rfl, rfl, d, _, _, rfl, hd, fun t nt => g _ t ?_⟩
      rw [due]
      cases er : WrPatt.read (tx (nat8 p)) with
      | error e' =>
        rw [er] at hm
        rw [he] at hm
        cases hm
        exact upd_same
      | ok x =>
        obtain ⟨y, g⟩ := x
        rw [er] at hm
        obtain ⟨S, hS, _⟩ := hm
        rw [he] at hS; cases hS
    · cases er : WrPatt.read (tx (nat8 p)) with
      | error e' =>
        rw [er] at hm
        rw [hS] at hm; cases hm
      | ok x =>
        obtain ⟨y, gr⟩ := x
        rw [er] at hm due
        obtain ⟨S, hS2, hg, _, hlay⟩ := hm
        rw [hS] at hS2
        cases hS2
        have s1 := RS.from_ R
        have e8 := ok8_nat8 h8q
        refine ⟨_, rfl, rd_f_formsAt T R fun fl fas hfl hfs => ⟨_, rfl, fl, sl, fas, S'.forms, nat8 q, rfl, hfl, hfs, forms_shp hlay, forms_len (ok8_nat8 h8p) (by rw [nat8_len]; exact h300) hres hS, by rw [nls_nat8 h8q]; exact s1.seq hs, e8, by rw [nat8_len]; exact h300q, fun H2 x ps s2 hx hps hl hlo => ?_⟩⟩
        obtain ⟨ea, E, hat, hE, hf⟩ := last_at e8 hps hl hlo hlay
        have n1 : j ≤ (nat8 q).length := by rw [nat8_len]; exact c4
        refine ⟨_, rfl, _, _, _, _, rfl, rfl, hx, hat, ?_⟩
        refine ⟨_, rfl, _, rfl, _, rfl, ea, E, i, j, rfl, hE, by rw [hf.len]; omega, _, rfl, ?_⟩
        have hb := hf.bit i (by omega) j
        unfold RelR at hb
        have eb : bitAt E i j = (WrPatt.rel (tx (nat8 q)) y).has i j := by
          cases h1 : bitAt E i j <;> cases h2 : (WrPatt.rel (tx (nat8 q)) y).has i j
          · rfl
          · rw [h1, h2] at hb; exact absurd (hb.mpr rfl) (by decide)
          · rw [h1, h2] at hb; exact absurd (hb.mp rfl) (by decide)
          · rfl
        rw [eb]
        dsimp only at due
        cases hh : (WrPatt.rel (tx (nat8 q)) y).has i j with
        | true =>
          rw [hh] at due
          exact if_true_of rfl (lst_ret (by show 2 ≤ 5; decide) fun H' t h => g H' t (by rw [due]; exact h))
        | false =>
          rw [hh] at due
          exact if_false_of rfl (lst_ret (by show 2 ≤ 5; decide) fun H' t h => g H' t (by rw [due]; exact h))
end
end RM
/-! Part E3: the end. -/
namespace RM
open PySem PySem.Spec PyProof.Rows L2 PF
theorem int_lo {z : Int} {n : Int} (h : PySem.W.Codec.inInt 0 n z = true) : 0 ≤ z := by
  have h' : (decide ((0 : Int) ≤ z) && decide (z ≤ n)) = true := h
  rw [Bool.and_eq_true, decide_eq_true_eq] at h'
  exact h'.1
theorem all_mk {P : Program} {w : World} {K : PySem.W.Frag} {h : Heap} {mg : Str → Option Value} {fa : Addr} (X : K.In h) (G : h.Ns mainGlobals mg) (hfa : mg "fits" = some (.ref fa))
    {tk_BYTE : Tok}
    {tk_BEGIN : Tok}
    {tk_END : Tok}
    {tk_EDGE : Tok}
    {tk_NO_EDGE : Tok}
    {tk_ROW : Tok}
    {tk_EITHER : Tok}
    {tk_BOTH : Tok}
    {tk_TURNED : Tok}
    {tk_COUNTED : Tok}
    {tk_GROUP : Tok}
    {tk_SPECIALS : Tok}
    {tk_NOT_PLAIN : Tok}
    {tk_NOT_PLAIN_IN_SET : Tok}
    {tk_NOT_ATOMS : Tok}
    {tk_CANNOT_STAND : Tok}
    {tk_WRONG_NUMBER : Tok}
    {tk_WRONG_ITEM : Tok}
    {tk_WRONG_GROUP : Tok}
    {tk_MOST_GROUPS : Tok}
    {tk_MOST_TIMES : Tok}
    {tk_PATTERN_ENDED : Tok}
    {tk_LONGEST : Tok}
    {tk_ANSWERED : Tok}
    {tk_REFUSED : Tok}
    {tk_BEYOND_BOUNDS : Tok}
    {tk_FAULTY : Tok}
    {tk_FIRST : Tok}
    {C1 : Addr}
    {C2 : Addr}
    {C3 : Addr}
    {C4 : Addr}
    {nm q : Str} {NF : Addr} {bs : List Value} {sn : List Str} {sub : List Value} {ab : Bool} {col : Option Bool} {dd : Option Addr} {m0 m1 m2 m3 m5 : Option Value} {fF : Addr} {odF anF : Option Addr} {slF : Array (Option Value)} {ocF dcF pmF cdF ctF : Value}
    {f0 : Addr} {od0 an0 : Option Addr} {sl0 : Array (Option Value)} {oc0 kV0 dc0 pm0 cd0 ct0 : Value}
    {f1 : Addr} {od1 an1 : Option Addr} {sl1 : Array (Option Value)} {oc1 kV1 dc1 pm1 cd1 ct1 : Value}
    {f2 : Addr} {od2 an2 : Option Addr} {sl2 : Array (Option Value)} {oc2 kV2 dc2 pm2 cd2 ct2 : Value}
    {f3 : Addr} {od3 an3 : Option Addr} {sl3 : Array (Option Value)} {oc3 kV3 dc3 pm3 cd3 ct3 : Value}
    {f4 : Addr} {od4 an4 : Option Addr} {sl4 : Array (Option Value)} {oc4 kV4 dc4 pm4 cd4 ct4 : Value}
    {f5 : Addr} {od5 an5 : Option Addr} {sl5 : Array (Option Value)} {oc5 kV5 dc5 pm5 cd5 ct5 : Value}
    {f6 : Addr} {od6 an6 : Option Addr} {sl6 : Array (Option Value)} {oc6 kV6 dc6 pm6 cd6 ct6 : Value}
    {f7 : Addr} {od7 an7 : Option Addr} {sl7 : Array (Option Value)} {oc7 kV7 dc7 pm7 cd7 ct7 : Value}
    {f8 : Addr} {od8 an8 : Option Addr} {sl8 : Array (Option Value)} {oc8 kV8 dc8 pm8 cd8 ct8 : Value}
    {f9 : Addr} {od9 an9 : Option Addr} {sl9 : Array (Option Value)} {oc9 kV9 dc9 pm9 cd9 ct9 : Value}
    {f10 : Addr} {od10 an10 : Option Addr} {sl10 : Array (Option Value)} {oc10 kV10 dc10 pm10 cd10 ct10 : Value}
    {f11 : Addr} {od11 an11 : Option Addr} {sl11 : Array (Option Value)} {oc11 kV11 dc11 pm11 cd11 ct11 : Value}
    {f12 : Addr} {od12 an12 : Option Addr} {sl12 : Array (Option Value)} {oc12 kV12 dc12 pm12 cd12 ct12 : Value}
    {f13 : Addr} {od13 an13 : Option Addr} {sl13 : Array (Option Value)} {oc13 kV13 dc13 pm13 cd13 ct13 : Value}
    {f14 : Addr} {od14 an14 : Option Addr} {sl14 : Array (Option Value)} {oc14 kV14 dc14 pm14 cd14 ct14 : Value}
    {f15 : Addr} {od15 an15 : Option Addr} {sl15 : Array (Option Value)} {oc15 kV15 dc15 pm15 cd15 ct15 : Value}
    {f16 : Addr} {od16 an16 : Option Addr} {sl16 : Array (Option Value)} {oc16 kV16 dc16 pm16 cd16 ct16 : Value}
    {f18 : Addr} {od18 an18 : Option Addr} {sl18 : Array (Option Value)} {oc18 kV18 dc18 pm18 cd18 ct18 : Value}
    {f19 : Addr} {od19 an19 : Option Addr} {sl19 : Array (Option Value)} {oc19 kV19 dc19 pm19 cd19 ct19 : Value}
    {f20 : Addr} {od20 an20 : Option Addr} {sl20 : Array (Option Value)} {oc20 kV20 dc20 pm20 cd20 ct20 : Value}
    {f21 : Addr} {od21 an21 : Option Addr} {sl21 : Array (Option Value)} {oc21 kV21 dc21 pm21 cd21 ct21 : Value}
    {f22 : Addr} {od22 an22 : Option Addr} {sl22 : Array (Option Value)} {oc22 kV22 dc22 pm22 cd22 ct22 : Value}
    {f23 : Addr} {od23 an23 : Option Addr} {sl23 : Array (Option Value)} {oc23 kV23 dc23 pm23 cd23 ct23 : Value}
    {f24 : Addr} {od24 an24 : Option Addr} {sl24 : Array (Option Value)} {oc24 kV24 dc24 pm24 cd24 ct24 : Value}
    {f25 : Addr} {od25 an25 : Option Addr} {sl25 : Array (Option Value)} {oc25 kV25 dc25 pm25 cd25 ct25 : Value}
    {f26 : Addr} {od26 an26 : Option Addr} {sl26 : Array (Option Value)} {oc26 kV26 dc26 pm26 cd26 ct26 : Value}
    {f27 : Addr} {od27 an27 : Option Addr} {sl27 : Array (Option Value)} {oc27 kV27 dc27 pm27 cd27 ct27 : Value}
    {f28 : Addr} {od28 an28 : Option Addr} {sl28 : Array (Option Value)} {oc28 kV28 dc28 pm28 cd28 ct28 : Value}
    {f29 : Addr} {od29 an29 : Option Addr} {sl29 : Array (Option Value)} {oc29 kV29 dc29 pm29 cd29 ct29 : Value}
    {f30 : Addr} {od30 an30 : Option Addr} {sl30 : Array (Option Value)} {oc30 kV30 dc30 pm30 cd30 ct30 : Value}
    {f31 : Addr} {od31 an31 : Option Addr} {sl31 : Array (Option Value)} {oc31 kV31 dc31 pm31 cd31 ct31 : Value}
    {f32 : Addr} {od32 an32 : Option Addr} {sl32 : Array (Option Value)} {oc32 kV32 dc32 pm32 cd32 ct32 : Value}
    {f33 : Addr} {od33 an33 : Option Addr} {sl33 : Array (Option Value)} {oc33 kV33 dc33 pm33 cd33 ct33 : Value}
    {f34 : Addr} {od34 an34 : Option Addr} {sl34 : Array (Option Value)} {oc34 kV34 dc34 pm34 cd34 ct34 : Value}
    {f35 : Addr} {od35 an35 : Option Addr} {sl35 : Array (Option Value)} {oc35 kV35 dc35 pm35 cd35 ct35 : Value}
    {f36 : Addr} {od36 an36 : Option Addr} {sl36 : Array (Option Value)} {oc36 kV36 dc36 pm36 cd36 ct36 : Value}
    {f37 : Addr} {od37 an37 : Option Addr} {sl37 : Array (Option Value)} {oc37 kV37 dc37 pm37 cd37 ct37 : Value}
    {f38 : Addr} {od38 an38 : Option Addr} {sl38 : Array (Option Value)} {oc38 kV38 dc38 pm38 cd38 ct38 : Value}
    {f39 : Addr} {od39 an39 : Option Addr} {sl39 : Array (Option Value)} {oc39 kV39 dc39 pm39 cd39 ct39 : Value}
    {f40 : Addr} {od40 an40 : Option Addr} {sl40 : Array (Option Value)} {oc40 kV40 dc40 pm40 cd40 ct40 : Value}
    {f41 : Addr} {od41 an41 : Option Addr} {sl41 : Array (Option Value)} {oc41 kV41 dc41 pm41 cd41 ct41 : Value}
    {f42 : Addr} {od42 an42 : Option Addr} {sl42 : Array (Option Value)} {oc42 kV42 dc42 pm42 cd42 ct42 : Value}
    {f43 : Addr} {od43 an43 : Option Addr} {sl43 : Array (Option Value)} {oc43 kV43 dc43 pm43 cd43 ct43 : Value}
    {f44 : Addr} {od44 an44 : Option Addr} {sl44 : Array (Option Value)} {oc44 kV44 dc44 pm44 cd44 ct44 : Value}
    {f45 : Addr} {od45 an45 : Option Addr} {sl45 : Array (Option Value)} {oc45 kV45 dc45 pm45 cd45 ct45 : Value}
    {f46 : Addr} {od46 an46 : Option Addr} {sl46 : Array (Option Value)} {oc46 kV46 dc46 pm46 cd46 ct46 : Value}
    {f47 : Addr} {od47 an47 : Option Addr} {sl47 : Array (Option Value)} {oc47 kV47 dc47 pm47 cd47 ct47 : Value}
    {f48 : Addr} {od48 an48 : Option Addr} {sl48 : Array (Option Value)} {oc48 kV48 dc48 pm48 cd48 ct48 : Value}
    {f49 : Addr} {od49 an49 : Option Addr} {sl49 : Array (Option Value)} {oc49 kV49 dc49 pm49 cd49 ct49 : Value}
    {f50 : Addr} {od50 an50 : Option Addr} {sl50 : Array (Option Value)} {oc50 kV50 dc50 pm50 cd50 ct50 : Value}
    {f51 : Addr} {od51 an51 : Option Addr} {sl51 : Array (Option Value)} {oc51 kV51 dc51 pm51 cd51 ct51 : Value}
    {f52 : Addr} {od52 an52 : Option Addr} {sl52 : Array (Option Value)} {oc52 kV52 dc52 pm52 cd52 ct52 : Value}
    (z_BYTE : PySem.W.nsIn K mainGlobals "BYTE" = some (some (.str "byte" tk_BYTE)))
    (z_BEGIN : PySem.W.nsIn K mainGlobals "BEGIN" = some (some (.str "begin" tk_BEGIN)))
    (z_END : PySem.W.nsIn K mainGlobals "END" = some (some (.str "end" tk_END)))
    (z_EDGE : PySem.W.nsIn K mainGlobals "EDGE" = some (some (.str "edge" tk_EDGE)))
    (z_NO_EDGE : PySem.W.nsIn K mainGlobals "NO_EDGE" = some (some (.str "no edge" tk_NO_EDGE)))
    (z_ROW : PySem.W.nsIn K mainGlobals "ROW" = some (some (.str "row" tk_ROW)))
    (z_EITHER : PySem.W.nsIn K mainGlobals "EITHER" = some (some (.str "either" tk_EITHER)))
    (z_BOTH : PySem.W.nsIn K mainGlobals "BOTH" = some (some (.str "both" tk_BOTH)))
    (z_TURNED : PySem.W.nsIn K mainGlobals "TURNED" = some (some (.str "turned" tk_TURNED)))
    (z_COUNTED : PySem.W.nsIn K mainGlobals "COUNTED" = some (some (.str "counted" tk_COUNTED)))
    (z_GROUP : PySem.W.nsIn K mainGlobals "GROUP" = some (some (.str "group" tk_GROUP)))
    (z_SPECIALS : PySem.W.nsIn K mainGlobals "SPECIALS" = some (some (.str "\\|&~*+?{}.^$()[]-:" tk_SPECIALS)))
    (z_NOT_PLAIN : PySem.W.nsIn K mainGlobals "NOT_PLAIN" = some (some (.str "\\|&~*+?{}.^$()[]" tk_NOT_PLAIN)))
    (z_NOT_PLAIN_IN_SET : PySem.W.nsIn K mainGlobals "NOT_PLAIN_IN_SET" = some (some (.str "]-^" tk_NOT_PLAIN_IN_SET)))
    (z_NOT_ATOMS : PySem.W.nsIn K mainGlobals "NOT_ATOMS" = some (some (.str "~|&)" tk_NOT_ATOMS)))
    (z_CANNOT_STAND : PySem.W.nsIn K mainGlobals "CANNOT_STAND" = some (some (.int 1 tk_CANNOT_STAND)))
    (z_WRONG_NUMBER : PySem.W.nsIn K mainGlobals "WRONG_NUMBER" = some (some (.int 2 tk_WRONG_NUMBER)))
    (z_WRONG_ITEM : PySem.W.nsIn K mainGlobals "WRONG_ITEM" = some (some (.int 3 tk_WRONG_ITEM)))
    (z_WRONG_GROUP : PySem.W.nsIn K mainGlobals "WRONG_GROUP" = some (some (.int 4 tk_WRONG_GROUP)))
    (z_MOST_GROUPS : PySem.W.nsIn K mainGlobals "MOST_GROUPS" = some (some (.int 32 tk_MOST_GROUPS)))
    (z_MOST_TIMES : PySem.W.nsIn K mainGlobals "MOST_TIMES" = some (some (.int 100 tk_MOST_TIMES)))
    (z_PATTERN_ENDED : PySem.W.nsIn K mainGlobals "PATTERN_ENDED" = some (some (.int 256 tk_PATTERN_ENDED)))
    (z_LONGEST : PySem.W.nsIn K mainGlobals "LONGEST" = some (some (.int 200 tk_LONGEST)))
    (z_ANSWERED : PySem.W.nsIn K mainGlobals "ANSWERED" = some (some (.int 0 tk_ANSWERED)))
    (z_REFUSED : PySem.W.nsIn K mainGlobals "REFUSED" = some (some (.int 9 tk_REFUSED)))
    (z_BEYOND_BOUNDS : PySem.W.nsIn K mainGlobals "BEYOND_BOUNDS" = some (some (.int 1 tk_BEYOND_BOUNDS)))
    (z_FAULTY : PySem.W.nsIn K mainGlobals "FAULTY" = some (some (.int 2 tk_FAULTY)))
    (z_FIRST : PySem.W.nsIn K mainGlobals "FIRST" = some (some (.int 0 tk_FIRST)))
    (z_len : PySem.W.nsIn K mainGlobals "len" = some none)
    (z_range : PySem.W.nsIn K mainGlobals "range" = some none)
    (z_enumerate : PySem.W.nsIn K mainGlobals "enumerate" = some none)
    (z_ord : PySem.W.nsIn K mainGlobals "ord" = some none)
    (z_zip : PySem.W.nsIn K mainGlobals "zip" = some none)
    (g_Reader : PySem.W.nsIn K mainGlobals "Reader" = some (some (.ref C1)))
    (pg_Reader : PySem.W.plainGet K C1 Str.empty = true)
    (hd_Reader : PySem.W.hasDictIn K C1 = true)
    (po_Reader : PySem.W.plainOver K C1 = true)
    (sa_Reader : PySem.W.findIn K (.ref C1) "__setattr__" = some (some (.builtin "object.__setattr__")))
    (mk_Reader : PySem.W.makesIn K C1 = true)
    (kc_Reader : PySem.W.keepIn K (.ref C1) = true)
    (n_Reader_pattern : PySem.W.findIn K (.ref C1) "pattern" = some none)
    (n_Reader_place : PySem.W.findIn K (.ref C1) "place" = some none)
    (n_Reader_forms : PySem.W.findIn K (.ref C1) "forms" = some none)
    (n_Reader_groups : PySem.W.findIn K (.ref C1) "groups" = some none)
    (n_Reader_levels : PySem.W.findIn K (.ref C1) "levels" = some none)
    (g_Level : PySem.W.nsIn K mainGlobals "Level" = some (some (.ref C2)))
    (pg_Level : PySem.W.plainGet K C2 Str.empty = true)
    (hd_Level : PySem.W.hasDictIn K C2 = true)
    (po_Level : PySem.W.plainOver K C2 = true)
    (sa_Level : PySem.W.findIn K (.ref C2) "__setattr__" = some (some (.builtin "object.__setattr__")))
    (mk_Level : PySem.W.makesIn K C2 = true)
    (kc_Level : PySem.W.keepIn K (.ref C2) = true)
    (n_Level_rows : PySem.W.findIn K (.ref C2) "rows" = some none)
    (n_Level_parts : PySem.W.findIn K (.ref C2) "parts" = some none)
    (n_Level_pieces : PySem.W.findIn K (.ref C2) "pieces" = some none)
    (n_Level_turned : PySem.W.findIn K (.ref C2) "turned" = some none)
    (n_Level_shut : PySem.W.findIn K (.ref C2) "shut" = some none)
    (n_Level_groups_before_part : PySem.W.findIn K (.ref C2) "groups_before_part" = some none)
    (n_Level_group : PySem.W.findIn K (.ref C2) "group" = some none)
    (g_Form : PySem.W.nsIn K mainGlobals "Form" = some (some (.ref C3)))
    (pg_Form : PySem.W.plainGet K C3 Str.empty = true)
    (hd_Form : PySem.W.hasDictIn K C3 = true)
    (po_Form : PySem.W.plainOver K C3 = true)
    (sa_Form : PySem.W.findIn K (.ref C3) "__setattr__" = some (some (.builtin "object.__setattr__")))
    (mk_Form : PySem.W.makesIn K C3 = true)
    (kc_Form : PySem.W.keepIn K (.ref C3) = true)
    (n_Form_kind : PySem.W.findIn K (.ref C3) "kind" = some none)
    (n_Form_parts : PySem.W.findIn K (.ref C3) "parts" = some none)
    (n_Form_told : PySem.W.findIn K (.ref C3) "told" = some none)
    (g_Fault : PySem.W.nsIn K mainGlobals "Fault" = some (some (.ref C4)))
    (xL : K.lookup C4 = some (excClassObj nm q C4 NF bs [.type "Exception", .type "BaseException", .type "object"] true sn sub ab col dd m0 m1 m2 m3 m5 "Exception.__new__"))
    (fsa : PySem.W.findIn K (.ref C4) "__setattr__" = some (some (.builtin "object.__setattr__")))
    (fga : PySem.W.findIn K (.ref C4) "__getattribute__" = some (some (.builtin "BaseException.__getattribute__")))
    (fgg : PySem.W.findIn K (.ref C4) "__getattr__" = some none)
    (fnr : PySem.W.findIn K (.ref C4) "rule" = some none)
    (fnp : PySem.W.findIn K (.ref C4) "place" = some none)
    (faI : PySem.W.findIn K (.ref C4) "__init__" = some (some (.ref fF)))
    (ftI : PySem.W.typeIn K (.ref fF) = some (.type "function"))
    (flI : K.lookup fF = some ⟨ocF, odF, .func (PySem.W.fnOf "__init__" "Fault.__init__" (FX.iA ⟨132, 17, 132, 21⟩ ⟨132, 23, 132, 27⟩ ⟨132, 29, 132, 34⟩) (FX.iB ⟨133, 8, 133, 12⟩ ⟨133, 8, 133, 17⟩ ⟨133, 20, 133, 24⟩ ⟨133, 8, 133, 24⟩ ⟨134, 8, 134, 12⟩ ⟨134, 8, 134, 18⟩ ⟨134, 21, 134, 26⟩ ⟨134, 8, 134, 26⟩) FX.iS .none .none dcF pmF anF cdF ctF), slF⟩)
    (fcI : PySem.W.codeIn K cdF "Fault.__init__" = true)
    (fkC : PySem.W.keepIn K (.ref C4) = true)
    (feC : PySem.W.subIn K (.ref C4) (.type "BaseException") = some true)
    (ftC : PySem.W.typeIn K (.ref C4) = some (.type "type"))
    (fhC : PySem.W.hasDictIn K C4 = true)
    (fiC : PySem.W.isClsIn K C4 = true)
    (fsC : PySem.W.subIn K (.ref C4) (.ref C4) = some true)
    (a0 : PySem.W.findIn K (.ref C3) "__init__" = some (some (.ref f0)))
    (i0 : PySem.W.isFn K (.ref f0) = true)
    (l0 : K.lookup f0 = some ⟨oc0, od0, .func (PySem.W.fnOf "__init__" "Form.__init__" (defArgs s_Form_init) (defBody s_Form_init) (defScope s_Form_init) .none kV0 dc0 pm0 an0 cd0 ct0), sl0⟩)
    (c0 : PySem.W.codeIn K cd0 "Form.__init__" = true)
    (k0 : PySem.W.keepIn K (.ref f0) = true)
    (a1 : PySem.W.nsIn K mainGlobals "all_ends" = some (some (.ref f1)))
    (l1 : K.lookup f1 = some ⟨oc1, od1, .func (PySem.W.fnOf "all_ends" "all_ends" (defArgs s_all_ends) (defBody s_all_ends) (defScope s_all_ends) .none kV1 dc1 pm1 an1 cd1 ct1), sl1⟩)
    (c1 : PySem.W.codeIn K cd1 "all_ends" = true)
    (k1 : PySem.W.keepIn K (.ref f1) = true)
    (a2 : PySem.W.nsIn K mainGlobals "fits_piece" = some (some (.ref f2)))
    (l2 : K.lookup f2 = some ⟨oc2, od2, .func (PySem.W.fnOf "fits_piece" "fits_piece" (defArgs s_fits_piece) (defBody s_fits_piece) (defScope s_fits_piece) .none kV2 dc2 pm2 an2 cd2 ct2), sl2⟩)
    (c2 : PySem.W.codeIn K cd2 "fits_piece" = true)
    (k2 : PySem.W.keepIn K (.ref f2) = true)
    (a3 : PySem.W.nsIn K mainGlobals "form_ends" = some (some (.ref f3)))
    (l3 : K.lookup f3 = some ⟨oc3, od3, .func (PySem.W.fnOf "form_ends" "form_ends" (defArgs s_form_ends) (defBody s_form_ends) (defScope s_form_ends) .none kV3 dc3 pm3 an3 cd3 ct3), sl3⟩)
    (c3 : PySem.W.codeIn K cd3 "form_ends" = true)
    (k3 : PySem.W.keepIn K (.ref f3) = true)
    (a4 : PySem.W.nsIn K mainGlobals "byte_ends" = some (some (.ref f4)))
    (l4 : K.lookup f4 = some ⟨oc4, od4, .func (PySem.W.fnOf "byte_ends" "byte_ends" (defArgs s_byte_ends) (defBody s_byte_ends) (defScope s_byte_ends) .none kV4 dc4 pm4 an4 cd4 ct4), sl4⟩)
    (c4 : PySem.W.codeIn K cd4 "byte_ends" = true)
    (k4 : PySem.W.keepIn K (.ref f4) = true)
    (a5 : PySem.W.nsIn K mainGlobals "holds_at" = some (some (.ref f5)))
    (l5 : K.lookup f5 = some ⟨oc5, od5, .func (PySem.W.fnOf "holds_at" "holds_at" (defArgs s_holds_at) (defBody s_holds_at) (defScope s_holds_at) .none kV5 dc5 pm5 an5 cd5 ct5), sl5⟩)
    (c5 : PySem.W.codeIn K cd5 "holds_at" = true)
    (k5 : PySem.W.keepIn K (.ref f5) = true)
    (a6 : PySem.W.nsIn K mainGlobals "is_word_byte" = some (some (.ref f6)))
    (l6 : K.lookup f6 = some ⟨oc6, od6, .func (PySem.W.fnOf "is_word_byte" "is_word_byte" (defArgs s_is_word_byte) (defBody s_is_word_byte) (defScope s_is_word_byte) .none kV6 dc6 pm6 an6 cd6 ct6), sl6⟩)
    (c6 : PySem.W.codeIn K cd6 "is_word_byte" = true)
    (k6 : PySem.W.keepIn K (.ref f6) = true)
    (a7 : PySem.W.nsIn K mainGlobals "empty_ends" = some (some (.ref f7)))
    (l7 : K.lookup f7 = some ⟨oc7, od7, .func (PySem.W.fnOf "empty_ends" "empty_ends" (defArgs s_empty_ends) (defBody s_empty_ends) (defScope s_empty_ends) .none kV7 dc7 pm7 an7 cd7 ct7), sl7⟩)
    (c7 : PySem.W.codeIn K cd7 "empty_ends" = true)
    (k7 : PySem.W.keepIn K (.ref f7) = true)
    (a8 : PySem.W.nsIn K mainGlobals "row_ends" = some (some (.ref f8)))
    (l8 : K.lookup f8 = some ⟨oc8, od8, .func (PySem.W.fnOf "row_ends" "row_ends" (defArgs s_row_ends) (defBody s_row_ends) (defScope s_row_ends) .none kV8 dc8 pm8 an8 cd8 ct8), sl8⟩)
    (c8 : PySem.W.codeIn K cd8 "row_ends" = true)
    (k8 : PySem.W.keepIn K (.ref f8) = true)
    (a9 : PySem.W.nsIn K mainGlobals "one_behind_other" = some (some (.ref f9)))
    (l9 : K.lookup f9 = some ⟨oc9, od9, .func (PySem.W.fnOf "one_behind_other" "one_behind_other" (defArgs s_one_behind_other) (defBody s_one_behind_other) (defScope s_one_behind_other) .none kV9 dc9 pm9 an9 cd9 ct9), sl9⟩)
    (c9 : PySem.W.codeIn K cd9 "one_behind_other" = true)
    (k9 : PySem.W.keepIn K (.ref f9) = true)
    (a10 : PySem.W.nsIn K mainGlobals "ends_behind" = some (some (.ref f10)))
    (l10 : K.lookup f10 = some ⟨oc10, od10, .func (PySem.W.fnOf "ends_behind" "ends_behind" (defArgs s_ends_behind) (defBody s_ends_behind) (defScope s_ends_behind) .none kV10 dc10 pm10 an10 cd10 ct10), sl10⟩)
    (c10 : PySem.W.codeIn K cd10 "ends_behind" = true)
    (k10 : PySem.W.keepIn K (.ref f10) = true)
    (a11 : PySem.W.nsIn K mainGlobals "either_ends" = some (some (.ref f11)))
    (l11 : K.lookup f11 = some ⟨oc11, od11, .func (PySem.W.fnOf "either_ends" "either_ends" (defArgs s_either_ends) (defBody s_either_ends) (defScope s_either_ends) .none kV11 dc11 pm11 an11 cd11 ct11), sl11⟩)
    (c11 : PySem.W.codeIn K cd11 "either_ends" = true)
    (k11 : PySem.W.keepIn K (.ref f11) = true)
    (a12 : PySem.W.nsIn K mainGlobals "both_ends" = some (some (.ref f12)))
    (l12 : K.lookup f12 = some ⟨oc12, od12, .func (PySem.W.fnOf "both_ends" "both_ends" (defArgs s_both_ends) (defBody s_both_ends) (defScope s_both_ends) .none kV12 dc12 pm12 an12 cd12 ct12), sl12⟩)
    (c12 : PySem.W.codeIn K cd12 "both_ends" = true)
    (k12 : PySem.W.keepIn K (.ref f12) = true)
    (a13 : PySem.W.nsIn K mainGlobals "turned_ends" = some (some (.ref f13)))
    (l13 : K.lookup f13 = some ⟨oc13, od13, .func (PySem.W.fnOf "turned_ends" "turned_ends" (defArgs s_turned_ends) (defBody s_turned_ends) (defScope s_turned_ends) .none kV13 dc13 pm13 an13 cd13 ct13), sl13⟩)
    (c13 : PySem.W.codeIn K cd13 "turned_ends" = true)
    (k13 : PySem.W.keepIn K (.ref f13) = true)
    (a14 : PySem.W.nsIn K mainGlobals "counted_ends" = some (some (.ref f14)))
    (l14 : K.lookup f14 = some ⟨oc14, od14, .func (PySem.W.fnOf "counted_ends" "counted_ends" (defArgs s_counted_ends) (defBody s_counted_ends) (defScope s_counted_ends) .none kV14 dc14 pm14 an14 cd14 ct14), sl14⟩)
    (c14 : PySem.W.codeIn K cd14 "counted_ends" = true)
    (k14 : PySem.W.keepIn K (.ref f14) = true)
    (a15 : PySem.W.nsIn K mainGlobals "repeated_ends" = some (some (.ref f15)))
    (l15 : K.lookup f15 = some ⟨oc15, od15, .func (PySem.W.fnOf "repeated_ends" "repeated_ends" (defArgs s_repeated_ends) (defBody s_repeated_ends) (defScope s_repeated_ends) .none kV15 dc15 pm15 an15 cd15 ct15), sl15⟩)
    (c15 : PySem.W.codeIn K cd15 "repeated_ends" = true)
    (k15 : PySem.W.keepIn K (.ref f15) = true)
    (a16 : PySem.W.nsIn K mainGlobals "any_number_ends" = some (some (.ref f16)))
    (l16 : K.lookup f16 = some ⟨oc16, od16, .func (PySem.W.fnOf "any_number_ends" "any_number_ends" (defArgs s_any_number_ends) (defBody s_any_number_ends) (defScope s_any_number_ends) .none kV16 dc16 pm16 an16 cd16 ct16), sl16⟩)
    (c16 : PySem.W.codeIn K cd16 "any_number_ends" = true)
    (k16 : PySem.W.keepIn K (.ref f16) = true)
    (a18 : PySem.W.nsIn K mainGlobals "among" = some (some (.ref f18)))
    (l18 : K.lookup f18 = some ⟨oc18, od18, .func (PySem.W.fnOf "among" "among" (defArgs s_among) (defBody s_among) (defScope s_among) .none kV18 dc18 pm18 an18 cd18 ct18), sl18⟩)
    (c18 : PySem.W.codeIn K cd18 "among" = true)
    (k18 : PySem.W.keepIn K (.ref f18) = true)
    (a19 : PySem.W.nsIn K mainGlobals "is_printed" = some (some (.ref f19)))
    (l19 : K.lookup f19 = some ⟨oc19, od19, .func (PySem.W.fnOf "is_printed" "is_printed" (defArgs s_is_printed) (defBody s_is_printed) (defScope s_is_printed) .none kV19 dc19 pm19 an19 cd19 ct19), sl19⟩)
    (c19 : PySem.W.codeIn K cd19 "is_printed" = true)
    (k19 : PySem.W.keepIn K (.ref f19) = true)
    (a20 : PySem.W.nsIn K mainGlobals "is_digit" = some (some (.ref f20)))
    (l20 : K.lookup f20 = some ⟨oc20, od20, .func (PySem.W.fnOf "is_digit" "is_digit" (defArgs s_is_digit) (defBody s_is_digit) (defScope s_is_digit) .none kV20 dc20 pm20 an20 cd20 ct20), sl20⟩)
    (c20 : PySem.W.codeIn K cd20 "is_digit" = true)
    (k20 : PySem.W.keepIn K (.ref f20) = true)
    (a21 : PySem.W.findIn K (.ref C2) "__init__" = some (some (.ref f21)))
    (i21 : PySem.W.isFn K (.ref f21) = true)
    (l21 : K.lookup f21 = some ⟨oc21, od21, .func (PySem.W.fnOf "__init__" "Level.__init__" (defArgs s_Level_init) (defBody s_Level_init) (defScope s_Level_init) .none kV21 dc21 pm21 an21 cd21 ct21), sl21⟩)
    (c21 : PySem.W.codeIn K cd21 "Level.__init__" = true)
    (k21 : PySem.W.keepIn K (.ref f21) = true)
    (a22 : PySem.W.findIn K (.ref C2) "bars_groups" = some (some (.ref f22)))
    (i22 : PySem.W.isFn K (.ref f22) = true)
    (l22 : K.lookup f22 = some ⟨oc22, od22, .func (PySem.W.fnOf "bars_groups" "Level.bars_groups" (defArgs s_Level_bars_groups) (defBody s_Level_bars_groups) (defScope s_Level_bars_groups) .none kV22 dc22 pm22 an22 cd22 ct22), sl22⟩)
    (c22 : PySem.W.codeIn K cd22 "Level.bars_groups" = true)
    (k22 : PySem.W.keepIn K (.ref f22) = true)
    (a23 : PySem.W.findIn K (.ref C1) "__init__" = some (some (.ref f23)))
    (i23 : PySem.W.isFn K (.ref f23) = true)
    (l23 : K.lookup f23 = some ⟨oc23, od23, .func (PySem.W.fnOf "__init__" "Reader.__init__" (defArgs s_Reader_init) (defBody s_Reader_init) (defScope s_Reader_init) .none kV23 dc23 pm23 an23 cd23 ct23), sl23⟩)
    (c23 : PySem.W.codeIn K cd23 "Reader.__init__" = true)
    (k23 : PySem.W.keepIn K (.ref f23) = true)
    (a24 : PySem.W.findIn K (.ref C1) "now" = some (some (.ref f24)))
    (i24 : PySem.W.isFn K (.ref f24) = true)
    (l24 : K.lookup f24 = some ⟨oc24, od24, .func (PySem.W.fnOf "now" "Reader.now" (defArgs s_Reader_now) (defBody s_Reader_now) (defScope s_Reader_now) .none kV24 dc24 pm24 an24 cd24 ct24), sl24⟩)
    (c24 : PySem.W.codeIn K cd24 "Reader.now" = true)
    (k24 : PySem.W.keepIn K (.ref f24) = true)
    (a25 : PySem.W.findIn K (.ref C1) "passes" = some (some (.ref f25)))
    (i25 : PySem.W.isFn K (.ref f25) = true)
    (l25 : K.lookup f25 = some ⟨oc25, od25, .func (PySem.W.fnOf "passes" "Reader.passes" (defArgs s_Reader_passes) (defBody s_Reader_passes) (defScope s_Reader_passes) .none kV25 dc25 pm25 an25 cd25 ct25), sl25⟩)
    (c25 : PySem.W.codeIn K cd25 "Reader.passes" = true)
    (k25 : PySem.W.keepIn K (.ref f25) = true)
    (a26 : PySem.W.findIn K (.ref C1) "need" = some (some (.ref f26)))
    (i26 : PySem.W.isFn K (.ref f26) = true)
    (l26 : K.lookup f26 = some ⟨oc26, od26, .func (PySem.W.fnOf "need" "Reader.need" (defArgs s_Reader_need) (defBody s_Reader_need) (defScope s_Reader_need) .none kV26 dc26 pm26 an26 cd26 ct26), sl26⟩)
    (c26 : PySem.W.codeIn K cd26 "Reader.need" = true)
    (k26 : PySem.W.keepIn K (.ref f26) = true)
    (a27 : PySem.W.findIn K (.ref C1) "keep" = some (some (.ref f27)))
    (i27 : PySem.W.isFn K (.ref f27) = true)
    (l27 : K.lookup f27 = some ⟨oc27, od27, .func (PySem.W.fnOf "keep" "Reader.keep" (defArgs s_Reader_keep) (defBody s_Reader_keep) (defScope s_Reader_keep) .none kV27 dc27 pm27 an27 cd27 ct27), sl27⟩)
    (c27 : PySem.W.codeIn K cd27 "Reader.keep" = true)
    (k27 : PySem.W.keepIn K (.ref f27) = true)
    (a28 : PySem.W.findIn K (.ref C1) "keep_joined" = some (some (.ref f28)))
    (i28 : PySem.W.isFn K (.ref f28) = true)
    (l28 : K.lookup f28 = some ⟨oc28, od28, .func (PySem.W.fnOf "keep_joined" "Reader.keep_joined" (defArgs s_Reader_keep_joined) (defBody s_Reader_keep_joined) (defScope s_Reader_keep_joined) .none kV28 dc28 pm28 an28 cd28 ct28), sl28⟩)
    (c28 : PySem.W.codeIn K cd28 "Reader.keep_joined" = true)
    (k28 : PySem.W.keepIn K (.ref f28) = true)
    (a29 : PySem.W.findIn K (.ref C1) "read_whole" = some (some (.ref f29)))
    (i29 : PySem.W.isFn K (.ref f29) = true)
    (l29 : K.lookup f29 = some ⟨oc29, od29, .func (PySem.W.fnOf "read_whole" "Reader.read_whole" (defArgs s_Reader_read_whole) (defBody s_Reader_read_whole) (defScope s_Reader_read_whole) .none kV29 dc29 pm29 an29 cd29 ct29), sl29⟩)
    (c29 : PySem.W.codeIn K cd29 "Reader.read_whole" = true)
    (k29 : PySem.W.keepIn K (.ref f29) = true)
    (a30 : PySem.W.findIn K (.ref C1) "read_step" = some (some (.ref f30)))
    (i30 : PySem.W.isFn K (.ref f30) = true)
    (l30 : K.lookup f30 = some ⟨oc30, od30, .func (PySem.W.fnOf "read_step" "Reader.read_step" (defArgs s_Reader_read_step) (defBody s_Reader_read_step) (defScope s_Reader_read_step) .none kV30 dc30 pm30 an30 cd30 ct30), sl30⟩)
    (c30 : PySem.W.codeIn K cd30 "Reader.read_step" = true)
    (k30 : PySem.W.keepIn K (.ref f30) = true)
    (a31 : PySem.W.findIn K (.ref C1) "open_bracket" = some (some (.ref f31)))
    (i31 : PySem.W.isFn K (.ref f31) = true)
    (l31 : K.lookup f31 = some ⟨oc31, od31, .func (PySem.W.fnOf "open_bracket" "Reader.open_bracket" (defArgs s_Reader_open_bracket) (defBody s_Reader_open_bracket) (defScope s_Reader_open_bracket) .none kV31 dc31 pm31 an31 cd31 ct31), sl31⟩)
    (c31 : PySem.W.codeIn K cd31 "Reader.open_bracket" = true)
    (k31 : PySem.W.keepIn K (.ref f31) = true)
    (a32 : PySem.W.findIn K (.ref C1) "close_bracket" = some (some (.ref f32)))
    (i32 : PySem.W.isFn K (.ref f32) = true)
    (l32 : K.lookup f32 = some ⟨oc32, od32, .func (PySem.W.fnOf "close_bracket" "Reader.close_bracket" (defArgs s_Reader_close_bracket) (defBody s_Reader_close_bracket) (defScope s_Reader_close_bracket) .none kV32 dc32 pm32 an32 cd32 ct32), sl32⟩)
    (c32 : PySem.W.codeIn K cd32 "Reader.close_bracket" = true)
    (k32 : PySem.W.keepIn K (.ref f32) = true)
    (a33 : PySem.W.findIn K (.ref C1) "pass_both" = some (some (.ref f33)))
    (i33 : PySem.W.isFn K (.ref f33) = true)
    (l33 : K.lookup f33 = some ⟨oc33, od33, .func (PySem.W.fnOf "pass_both" "Reader.pass_both" (defArgs s_Reader_pass_both) (defBody s_Reader_pass_both) (defScope s_Reader_pass_both) .none kV33 dc33 pm33 an33 cd33 ct33), sl33⟩)
    (c33 : PySem.W.codeIn K cd33 "Reader.pass_both" = true)
    (k33 : PySem.W.keepIn K (.ref f33) = true)
    (a34 : PySem.W.findIn K (.ref C1) "end_part" = some (some (.ref f34)))
    (i34 : PySem.W.isFn K (.ref f34) = true)
    (l34 : K.lookup f34 = some ⟨oc34, od34, .func (PySem.W.fnOf "end_part" "Reader.end_part" (defArgs s_Reader_end_part) (defBody s_Reader_end_part) (defScope s_Reader_end_part) .none kV34 dc34 pm34 an34 cd34 ct34), sl34⟩)
    (c34 : PySem.W.codeIn K cd34 "Reader.end_part" = true)
    (k34 : PySem.W.keepIn K (.ref f34) = true)
    (a35 : PySem.W.findIn K (.ref C1) "end_row" = some (some (.ref f35)))
    (i35 : PySem.W.isFn K (.ref f35) = true)
    (l35 : K.lookup f35 = some ⟨oc35, od35, .func (PySem.W.fnOf "end_row" "Reader.end_row" (defArgs s_Reader_end_row) (defBody s_Reader_end_row) (defScope s_Reader_end_row) .none kV35 dc35 pm35 an35 cd35 ct35), sl35⟩)
    (c35 : PySem.W.codeIn K cd35 "Reader.end_row" = true)
    (k35 : PySem.W.keepIn K (.ref f35) = true)
    (a36 : PySem.W.findIn K (.ref C1) "end_level" = some (some (.ref f36)))
    (i36 : PySem.W.isFn K (.ref f36) = true)
    (l36 : K.lookup f36 = some ⟨oc36, od36, .func (PySem.W.fnOf "end_level" "Reader.end_level" (defArgs s_Reader_end_level) (defBody s_Reader_end_level) (defScope s_Reader_end_level) .none kV36 dc36 pm36 an36 cd36 ct36), sl36⟩)
    (c36 : PySem.W.codeIn K cd36 "Reader.end_level" = true)
    (k36 : PySem.W.keepIn K (.ref f36) = true)
    (a37 : PySem.W.findIn K (.ref C1) "end_piece" = some (some (.ref f37)))
    (i37 : PySem.W.isFn K (.ref f37) = true)
    (l37 : K.lookup f37 = some ⟨oc37, od37, .func (PySem.W.fnOf "end_piece" "Reader.end_piece" (defArgs s_Reader_end_piece) (defBody s_Reader_end_piece) (defScope s_Reader_end_piece) .none kV37 dc37 pm37 an37 cd37 ct37), sl37⟩)
    (c37 : PySem.W.codeIn K cd37 "Reader.end_piece" = true)
    (k37 : PySem.W.keepIn K (.ref f37) = true)
    (a38 : PySem.W.findIn K (.ref C1) "read_count" = some (some (.ref f38)))
    (i38 : PySem.W.isFn K (.ref f38) = true)
    (l38 : K.lookup f38 = some ⟨oc38, od38, .func (PySem.W.fnOf "read_count" "Reader.read_count" (defArgs s_Reader_read_count) (defBody s_Reader_read_count) (defScope s_Reader_read_count) .none kV38 dc38 pm38 an38 cd38 ct38), sl38⟩)
    (c38 : PySem.W.codeIn K cd38 "Reader.read_count" = true)
    (k38 : PySem.W.keepIn K (.ref f38) = true)
    (a39 : PySem.W.findIn K (.ref C1) "read_numbers" = some (some (.ref f39)))
    (i39 : PySem.W.isFn K (.ref f39) = true)
    (l39 : K.lookup f39 = some ⟨oc39, od39, .func (PySem.W.fnOf "read_numbers" "Reader.read_numbers" (defArgs s_Reader_read_numbers) (defBody s_Reader_read_numbers) (defScope s_Reader_read_numbers) .none kV39 dc39 pm39 an39 cd39 ct39), sl39⟩)
    (c39 : PySem.W.codeIn K cd39 "Reader.read_numbers" = true)
    (k39 : PySem.W.keepIn K (.ref f39) = true)
    (a40 : PySem.W.findIn K (.ref C1) "read_number" = some (some (.ref f40)))
    (i40 : PySem.W.isFn K (.ref f40) = true)
    (l40 : K.lookup f40 = some ⟨oc40, od40, .func (PySem.W.fnOf "read_number" "Reader.read_number" (defArgs s_Reader_read_number) (defBody s_Reader_read_number) (defScope s_Reader_read_number) .none kV40 dc40 pm40 an40 cd40 ct40), sl40⟩)
    (c40 : PySem.W.codeIn K cd40 "Reader.read_number" = true)
    (k40 : PySem.W.keepIn K (.ref f40) = true)
    (a41 : PySem.W.findIn K (.ref C1) "read_atom" = some (some (.ref f41)))
    (i41 : PySem.W.isFn K (.ref f41) = true)
    (l41 : K.lookup f41 = some ⟨oc41, od41, .func (PySem.W.fnOf "read_atom" "Reader.read_atom" (defArgs s_Reader_read_atom) (defBody s_Reader_read_atom) (defScope s_Reader_read_atom) .none kV41 dc41 pm41 an41 cd41 ct41), sl41⟩)
    (c41 : PySem.W.codeIn K cd41 "Reader.read_atom" = true)
    (k41 : PySem.W.keepIn K (.ref f41) = true)
    (a42 : PySem.W.findIn K (.ref C1) "read_plain" = some (some (.ref f42)))
    (i42 : PySem.W.isFn K (.ref f42) = true)
    (l42 : K.lookup f42 = some ⟨oc42, od42, .func (PySem.W.fnOf "read_plain" "Reader.read_plain" (defArgs s_Reader_read_plain) (defBody s_Reader_read_plain) (defScope s_Reader_read_plain) .none kV42 dc42 pm42 an42 cd42 ct42), sl42⟩)
    (c42 : PySem.W.codeIn K cd42 "Reader.read_plain" = true)
    (k42 : PySem.W.keepIn K (.ref f42) = true)
    (a43 : PySem.W.findIn K (.ref C1) "keep_byte" = some (some (.ref f43)))
    (i43 : PySem.W.isFn K (.ref f43) = true)
    (l43 : K.lookup f43 = some ⟨oc43, od43, .func (PySem.W.fnOf "keep_byte" "Reader.keep_byte" (defArgs s_Reader_keep_byte) (defBody s_Reader_keep_byte) (defScope s_Reader_keep_byte) .none kV43 dc43 pm43 an43 cd43 ct43), sl43⟩)
    (c43 : PySem.W.codeIn K cd43 "Reader.keep_byte" = true)
    (k43 : PySem.W.keepIn K (.ref f43) = true)
    (a44 : PySem.W.findIn K (.ref C1) "read_escaped_atom" = some (some (.ref f44)))
    (i44 : PySem.W.isFn K (.ref f44) = true)
    (l44 : K.lookup f44 = some ⟨oc44, od44, .func (PySem.W.fnOf "read_escaped_atom" "Reader.read_escaped_atom" (defArgs s_Reader_read_escaped_atom) (defBody s_Reader_read_escaped_atom) (defScope s_Reader_read_escaped_atom) .none kV44 dc44 pm44 an44 cd44 ct44), sl44⟩)
    (c44 : PySem.W.codeIn K cd44 "Reader.read_escaped_atom" = true)
    (k44 : PySem.W.keepIn K (.ref f44) = true)
    (a45 : PySem.W.findIn K (.ref C1) "read_escaped" = some (some (.ref f45)))
    (i45 : PySem.W.isFn K (.ref f45) = true)
    (l45 : K.lookup f45 = some ⟨oc45, od45, .func (PySem.W.fnOf "read_escaped" "Reader.read_escaped" (defArgs s_Reader_read_escaped) (defBody s_Reader_read_escaped) (defScope s_Reader_read_escaped) .none kV45 dc45 pm45 an45 cd45 ct45), sl45⟩)
    (c45 : PySem.W.codeIn K cd45 "Reader.read_escaped" = true)
    (k45 : PySem.W.keepIn K (.ref f45) = true)
    (a46 : PySem.W.findIn K (.ref C1) "read_hex" = some (some (.ref f46)))
    (i46 : PySem.W.isFn K (.ref f46) = true)
    (l46 : K.lookup f46 = some ⟨oc46, od46, .func (PySem.W.fnOf "read_hex" "Reader.read_hex" (defArgs s_Reader_read_hex) (defBody s_Reader_read_hex) (defScope s_Reader_read_hex) .none kV46 dc46 pm46 an46 cd46 ct46), sl46⟩)
    (c46 : PySem.W.codeIn K cd46 "Reader.read_hex" = true)
    (k46 : PySem.W.keepIn K (.ref f46) = true)
    (a47 : PySem.W.findIn K (.ref C1) "read_set" = some (some (.ref f47)))
    (i47 : PySem.W.isFn K (.ref f47) = true)
    (l47 : K.lookup f47 = some ⟨oc47, od47, .func (PySem.W.fnOf "read_set" "Reader.read_set" (defArgs s_Reader_read_set) (defBody s_Reader_read_set) (defScope s_Reader_read_set) .none kV47 dc47 pm47 an47 cd47 ct47), sl47⟩)
    (c47 : PySem.W.codeIn K cd47 "Reader.read_set" = true)
    (k47 : PySem.W.keepIn K (.ref f47) = true)
    (a48 : PySem.W.findIn K (.ref C1) "read_item" = some (some (.ref f48)))
    (i48 : PySem.W.isFn K (.ref f48) = true)
    (l48 : K.lookup f48 = some ⟨oc48, od48, .func (PySem.W.fnOf "read_item" "Reader.read_item" (defArgs s_Reader_read_item) (defBody s_Reader_read_item) (defScope s_Reader_read_item) .none kV48 dc48 pm48 an48 cd48 ct48), sl48⟩)
    (c48 : PySem.W.codeIn K cd48 "Reader.read_item" = true)
    (k48 : PySem.W.keepIn K (.ref f48) = true)
    (a49 : PySem.W.findIn K (.ref C1) "read_set_byte" = some (some (.ref f49)))
    (i49 : PySem.W.isFn K (.ref f49) = true)
    (l49 : K.lookup f49 = some ⟨oc49, od49, .func (PySem.W.fnOf "read_set_byte" "Reader.read_set_byte" (defArgs s_Reader_read_set_byte) (defBody s_Reader_read_set_byte) (defScope s_Reader_read_set_byte) .none kV49 dc49 pm49 an49 cd49 ct49), sl49⟩)
    (c49 : PySem.W.codeIn K cd49 "Reader.read_set_byte" = true)
    (k49 : PySem.W.keepIn K (.ref f49) = true)
    (a50 : PySem.W.nsIn K mainGlobals "read_pattern" = some (some (.ref f50)))
    (l50 : K.lookup f50 = some ⟨oc50, od50, .func (PySem.W.fnOf "read_pattern" "read_pattern" (defArgs s_read_pattern) (defBody s_read_pattern) (defScope s_read_pattern) .none kV50 dc50 pm50 an50 cd50 ct50), sl50⟩)
    (c50 : PySem.W.codeIn K cd50 "read_pattern" = true)
    (k50 : PySem.W.keepIn K (.ref f50) = true)
    (a51 : PySem.W.nsIn K mainGlobals "fits" = some (some (.ref f51)))
    (l51 : K.lookup f51 = some ⟨oc51, od51, .func (PySem.W.fnOf "fits" "fits" (defArgs s_fits) (defBody s_fits) (defScope s_fits) .none kV51 dc51 pm51 an51 cd51 ct51), sl51⟩)
    (c51 : PySem.W.codeIn K cd51 "fits" = true)
    (k51 : PySem.W.keepIn K (.ref f51) = true)
    (a52 : PySem.W.nsIn K mainGlobals "told_fault" = some (some (.ref f52)))
    (l52 : K.lookup f52 = some ⟨oc52, od52, .func (PySem.W.fnOf "told_fault" "told_fault" (defArgs s_told_fault) (defBody s_told_fault) (defScope s_told_fault) .none kV52 dc52 pm52 an52 cd52 ct52), sl52⟩)
    (c52 : PySem.W.codeIn K cd52 "told_fault" = true)
    (k52 : PySem.W.keepIn K (.ref f52) = true) :
    ∃ fd : FuncData, (∀ (s : Shared) (us : List Value), us.length = (["start", "to", "pattern", "subject"] : List Str).length → BindsTo s fd ⟨us, []⟩ ((["start", "to", "pattern", "subject"] : List Str).zip us)) ∧ ∀ base : Heap, K.In base → base.Ns mainGlobals mg → FnOk P w K mg base CX0 12 fa fd ["start", "to", "pattern", "subject"] (spFits K) := by
  have e := hfa.symm.trans (PySem.W.mg_of X G a51)
  cases e
  have F0 := fun_mk (st := s_Form_init) l0 c0 k0
  have b0 := F0.binds (ps := ["self", "kind", "parts", "told"]) fun _ _ _ _ _ _ us hl => match us, hl with | [_, _, _, _], _ => rfl
  have F1 := fun_mk (st := s_all_ends) l1 c1 k1
  have b1 := F1.binds (ps := ["forms", "subject"]) fun _ _ _ _ _ _ us hl => match us, hl with | [_, _], _ => rfl
  have F2 := fun_mk (st := s_fits_piece) l2 c2 k2
  have b2 := F2.binds (ps := ["ends", "start", "to"]) fun _ _ _ _ _ _ us hl => match us, hl with | [_, _, _], _ => rfl
  have F3 := fun_mk (st := s_form_ends) l3 c3 k3
  have b3 := F3.binds (ps := ["form", "ends_of", "subject"]) fun _ _ _ _ _ _ us hl => match us, hl with | [_, _, _], _ => rfl
  have F4 := fun_mk (st := s_byte_ends) l4 c4 k4
  have b4 := F4.binds (ps := ["members", "subject"]) fun _ _ _ _ _ _ us hl => match us, hl with | [_, _], _ => rfl
  have F5 := fun_mk (st := s_holds_at) l5 c5 k5
  have b5 := F5.binds (ps := ["kind", "place", "subject"]) fun _ _ _ _ _ _ us hl => match us, hl with | [_, _, _], _ => rfl
  have F6 := fun_mk (st := s_is_word_byte) l6 c6 k6
  have b6 := F6.binds (ps := ["byte"]) fun _ _ _ _ _ _ us hl => match us, hl with | [_], _ => rfl
  have F7 := fun_mk (st := s_empty_ends) l7 c7 k7
  have b7 := F7.binds (ps := ["places"]) fun _ _ _ _ _ _ us hl => match us, hl with | [_], _ => rfl
  have F8 := fun_mk (st := s_row_ends) l8 c8 k8
  have b8 := F8.binds (ps := ["parts", "places"]) fun _ _ _ _ _ _ us hl => match us, hl with | [_, _], _ => rfl
  have F9 := fun_mk (st := s_one_behind_other) l9 c9 k9
  have b9 := F9.binds (ps := ["first", "second"]) fun _ _ _ _ _ _ us hl => match us, hl with | [_, _], _ => rfl
  have F10 := fun_mk (st := s_ends_behind) l10 c10 k10
  have b10 := F10.binds (ps := ["middles", "second"]) fun _ _ _ _ _ _ us hl => match us, hl with | [_, _], _ => rfl
  have F11 := fun_mk (st := s_either_ends) l11 c11 k11
  have b11 := F11.binds (ps := ["parts"]) fun _ _ _ _ _ _ us hl => match us, hl with | [_], _ => rfl
  have F12 := fun_mk (st := s_both_ends) l12 c12 k12
  have b12 := F12.binds (ps := ["parts"]) fun _ _ _ _ _ _ us hl => match us, hl with | [_], _ => rfl
  have F13 := fun_mk (st := s_turned_ends) l13 c13 k13
  have b13 := F13.binds (ps := ["once"]) fun _ _ _ _ _ _ us hl => match us, hl with | [_], _ => rfl
  have F14 := fun_mk (st := s_counted_ends) l14 c14 k14
  have b14 := F14.binds (ps := ["once", "least", "most"]) fun _ _ _ _ _ _ us hl => match us, hl with | [_, _, _], _ => rfl
  have F15 := fun_mk (st := s_repeated_ends) l15 c15 k15
  have b15 := F15.binds (ps := ["once", "times"]) fun _ _ _ _ _ _ us hl => match us, hl with | [_, _], _ => rfl
  have F16 := fun_mk (st := s_any_number_ends) l16 c16 k16
  have b16 := F16.binds (ps := ["once"]) fun _ _ _ _ _ _ us hl => match us, hl with | [_], _ => rfl
  have F18 := fun_mk (st := s_among) l18 c18 k18
  have b18 := F18.binds (ps := ["byte", "signs"]) fun _ _ _ _ _ _ us hl => match us, hl with | [_, _], _ => rfl
  have F19 := fun_mk (st := s_is_printed) l19 c19 k19
  have b19 := F19.binds (ps := ["byte"]) fun _ _ _ _ _ _ us hl => match us, hl with | [_], _ => rfl
  have F20 := fun_mk (st := s_is_digit) l20 c20 k20
  have b20 := F20.binds (ps := ["byte"]) fun _ _ _ _ _ _ us hl => match us, hl with | [_], _ => rfl
  have F21 := fun_mk (st := s_Level_init) l21 c21 k21
  have b21 := F21.binds (ps := ["self", "shut", "groups", "group"]) fun _ _ _ _ _ _ us hl => match us, hl with | [_, _, _, _], _ => rfl
  have F22 := fun_mk (st := s_Level_bars_groups) l22 c22 k22
  have b22 := F22.binds (ps := ["self"]) fun _ _ _ _ _ _ us hl => match us, hl with | [_], _ => rfl
  have F23 := fun_mk (st := s_Reader_init) l23 c23 k23
  have b23 := F23.binds (ps := ["self", "pattern"]) fun _ _ _ _ _ _ us hl => match us, hl with | [_, _], _ => rfl
  have F24 := fun_mk (st := s_Reader_now) l24 c24 k24
  have b24 := F24.binds (ps := ["self"]) fun _ _ _ _ _ _ us hl => match us, hl with | [_], _ => rfl
  have F25 := fun_mk (st := s_Reader_passes) l25 c25 k25
  have b25 := F25.binds (ps := ["self", "sign"]) fun _ _ _ _ _ _ us hl => match us, hl with | [_, _], _ => rfl
  have F26 := fun_mk (st := s_Reader_need) l26 c26 k26
  have b26 := F26.binds (ps := ["self", "sign"]) fun _ _ _ _ _ _ us hl => match us, hl with | [_, _], _ => rfl
  have F27 := fun_mk (st := s_Reader_keep) l27 c27 k27
  have b27 := F27.binds (ps := ["self", "kind", "parts", "told"]) fun _ _ _ _ _ _ us hl => match us, hl with | [_, _, _, _], _ => rfl
  have F28 := fun_mk (st := s_Reader_keep_joined) l28 c28 k28
  have b28 := F28.binds (ps := ["self", "kind", "parts"]) fun _ _ _ _ _ _ us hl => match us, hl with | [_, _, _], _ => rfl
  have F29 := fun_mk (st := s_Reader_read_whole) l29 c29 k29
  have b29 := F29.binds (ps := ["self"]) fun _ _ _ _ _ _ us hl => match us, hl with | [_], _ => rfl
  have F30 := fun_mk (st := s_Reader_read_step) l30 c30 k30
  have b30 := F30.binds (ps := ["self"]) fun _ _ _ _ _ _ us hl => match us, hl with | [_], _ => rfl
  have F31 := fun_mk (st := s_Reader_open_bracket) l31 c31 k31
  have b31 := F31.binds (ps := ["self"]) fun _ _ _ _ _ _ us hl => match us, hl with | [_], _ => rfl
  have F32 := fun_mk (st := s_Reader_close_bracket) l32 c32 k32
  have b32 := F32.binds (ps := ["self"]) fun _ _ _ _ _ _ us hl => match us, hl with | [_], _ => rfl
  have F33 := fun_mk (st := s_Reader_pass_both) l33 c33 k33
  have b33 := F33.binds (ps := ["self", "level"]) fun _ _ _ _ _ _ us hl => match us, hl with | [_, _], _ => rfl
  have F34 := fun_mk (st := s_Reader_end_part) l34 c34 k34
  have b34 := F34.binds (ps := ["self", "level"]) fun _ _ _ _ _ _ us hl => match us, hl with | [_, _], _ => rfl
  have F35 := fun_mk (st := s_Reader_end_row) l35 c35 k35
  have b35 := F35.binds (ps := ["self", "level"]) fun _ _ _ _ _ _ us hl => match us, hl with | [_, _], _ => rfl
  have F36 := fun_mk (st := s_Reader_end_level) l36 c36 k36
  have b36 := F36.binds (ps := ["self", "level"]) fun _ _ _ _ _ _ us hl => match us, hl with | [_, _], _ => rfl
  have F37 := fun_mk (st := s_Reader_end_piece) l37 c37 k37
  have b37 := F37.binds (ps := ["self", "atom"]) fun _ _ _ _ _ _ us hl => match us, hl with | [_, _], _ => rfl
  have F38 := fun_mk (st := s_Reader_read_count) l38 c38 k38
  have b38 := F38.binds (ps := ["self"]) fun _ _ _ _ _ _ us hl => match us, hl with | [_], _ => rfl
  have F39 := fun_mk (st := s_Reader_read_numbers) l39 c39 k39
  have b39 := F39.binds (ps := ["self"]) fun _ _ _ _ _ _ us hl => match us, hl with | [_], _ => rfl
  have F40 := fun_mk (st := s_Reader_read_number) l40 c40 k40
  have b40 := F40.binds (ps := ["self", "least"]) fun _ _ _ _ _ _ us hl => match us, hl with | [_, _], _ => rfl
  have F41 := fun_mk (st := s_Reader_read_atom) l41 c41 k41
  have b41 := F41.binds (ps := ["self"]) fun _ _ _ _ _ _ us hl => match us, hl with | [_], _ => rfl
  have F42 := fun_mk (st := s_Reader_read_plain) l42 c42 k42
  have b42 := F42.binds (ps := ["self", "barred"]) fun _ _ _ _ _ _ us hl => match us, hl with | [_, _], _ => rfl
  have F43 := fun_mk (st := s_Reader_keep_byte) l43 c43 k43
  have b43 := F43.binds (ps := ["self", "only"]) fun _ _ _ _ _ _ us hl => match us, hl with | [_, _], _ => rfl
  have F44 := fun_mk (st := s_Reader_read_escaped_atom) l44 c44 k44
  have b44 := F44.binds (ps := ["self"]) fun _ _ _ _ _ _ us hl => match us, hl with | [_], _ => rfl
  have F45 := fun_mk (st := s_Reader_read_escaped) l45 c45 k45
  have b45 := F45.binds (ps := ["self"]) fun _ _ _ _ _ _ us hl => match us, hl with | [_], _ => rfl
  have F46 := fun_mk (st := s_Reader_read_hex) l46 c46 k46
  have b46 := F46.binds (ps := ["self"]) fun _ _ _ _ _ _ us hl => match us, hl with | [_], _ => rfl
  have F47 := fun_mk (st := s_Reader_read_set) l47 c47 k47
  have b47 := F47.binds (ps := ["self"]) fun _ _ _ _ _ _ us hl => match us, hl with | [_], _ => rfl
  have F48 := fun_mk (st := s_Reader_read_item) l48 c48 k48
  have b48 := F48.binds (ps := ["self", "members"]) fun _ _ _ _ _ _ us hl => match us, hl with | [_, _], _ => rfl
  have F49 := fun_mk (st := s_Reader_read_set_byte) l49 c49 k49
  have b49 := F49.binds (ps := ["self"]) fun _ _ _ _ _ _ us hl => match us, hl with | [_], _ => rfl
  have F50 := fun_mk (st := s_read_pattern) l50 c50 k50
  have b50 := F50.binds (ps := ["pattern"]) fun _ _ _ _ _ _ us hl => match us, hl with | [_], _ => rfl
  have F51 := fun_mk (st := s_fits) l51 c51 k51
  have b51 := F51.binds (ps := ["start", "to", "pattern", "subject"]) fun _ _ _ _ _ _ us hl => match us, hl with | [_, _, _, _], _ => rfl
  have F52 := fun_mk (st := s_told_fault) l52 c52 k52
  have b52 := F52.binds (ps := ["which", "fault"]) fun _ _ _ _ _ _ us hl => match us, hl with | [_, _], _ => rfl
  have T : Txt K mg ⟨C1, C2, C3, C4⟩ fF := {
    b_len := PySem.W.mg_none_of X G z_len
    b_range := PySem.W.mg_none_of X G z_range
    b_enumerate := PySem.W.mg_none_of X G z_enumerate
    b_ord := PySem.W.mg_none_of X G z_ord
    b_zip := PySem.W.mg_none_of X G z_zip
    g_BYTE := ⟨_, PySem.W.mg_of X G z_BYTE⟩
    g_BEGIN := ⟨_, PySem.W.mg_of X G z_BEGIN⟩
    g_END := ⟨_, PySem.W.mg_of X G z_END⟩
    g_EDGE := ⟨_, PySem.W.mg_of X G z_EDGE⟩
    g_NO_EDGE := ⟨_, PySem.W.mg_of X G z_NO_EDGE⟩
    g_ROW := ⟨_, PySem.W.mg_of X G z_ROW⟩
    g_EITHER := ⟨_, PySem.W.mg_of X G z_EITHER⟩
    g_BOTH := ⟨_, PySem.W.mg_of X G z_BOTH⟩
    g_TURNED := ⟨_, PySem.W.mg_of X G z_TURNED⟩
    g_COUNTED := ⟨_, PySem.W.mg_of X G z_COUNTED⟩
    g_GROUP := ⟨_, PySem.W.mg_of X G z_GROUP⟩
    g_SPECIALS := ⟨_, PySem.W.mg_of X G z_SPECIALS⟩
    g_NOT_PLAIN := ⟨_, PySem.W.mg_of X G z_NOT_PLAIN⟩
    g_NOT_PLAIN_IN_SET := ⟨_, PySem.W.mg_of X G z_NOT_PLAIN_IN_SET⟩
    g_NOT_ATOMS := ⟨_, PySem.W.mg_of X G z_NOT_ATOMS⟩
    g_CANNOT_STAND := ⟨_, PySem.W.mg_of X G z_CANNOT_STAND⟩
    g_WRONG_NUMBER := ⟨_, PySem.W.mg_of X G z_WRONG_NUMBER⟩
    g_WRONG_ITEM := ⟨_, PySem.W.mg_of X G z_WRONG_ITEM⟩
    g_WRONG_GROUP := ⟨_, PySem.W.mg_of X G z_WRONG_GROUP⟩
    g_MOST_GROUPS := ⟨_, PySem.W.mg_of X G z_MOST_GROUPS⟩
    g_MOST_TIMES := ⟨_, PySem.W.mg_of X G z_MOST_TIMES⟩
    g_PATTERN_ENDED := ⟨_, PySem.W.mg_of X G z_PATTERN_ENDED⟩
    g_LONGEST := ⟨_, PySem.W.mg_of X G z_LONGEST⟩
    g_ANSWERED := ⟨_, PySem.W.mg_of X G z_ANSWERED⟩
    g_REFUSED := ⟨_, PySem.W.mg_of X G z_REFUSED⟩
    g_BEYOND_BOUNDS := ⟨_, PySem.W.mg_of X G z_BEYOND_BOUNDS⟩
    g_FAULTY := ⟨_, PySem.W.mg_of X G z_FAULTY⟩
    g_FIRST := ⟨_, PySem.W.mg_of X G z_FIRST⟩
    c_Reader := ⟨pg_Reader, hd_Reader, po_Reader, sa_Reader⟩
    g_Reader := PySem.W.mg_of X G g_Reader
    n_Reader_pattern := n_Reader_pattern
    n_Reader_place := n_Reader_place
    n_Reader_forms := n_Reader_forms
    n_Reader_groups := n_Reader_groups
    n_Reader_levels := n_Reader_levels
    c_Level := ⟨pg_Level, hd_Level, po_Level, sa_Level⟩
    g_Level := PySem.W.mg_of X G g_Level
    n_Level_rows := n_Level_rows
    n_Level_parts := n_Level_parts
    n_Level_pieces := n_Level_pieces
    n_Level_turned := n_Level_turned
    n_Level_shut := n_Level_shut
    n_Level_groups_before_part := n_Level_groups_before_part
    n_Level_group := n_Level_group
    c_Form := ⟨pg_Form, hd_Form, po_Form, sa_Form⟩
    g_Form := PySem.W.mg_of X G g_Form
    n_Form_kind := n_Form_kind
    n_Form_parts := n_Form_parts
    n_Form_told := n_Form_told
    flt := { gC := PySem.W.mg_of X G g_Fault, cls := ⟨nm, q, NF, bs, sn, sub, ab, col, dd, m0, m1, m2, m3, m5, xL⟩, sa := fsa, ga := fga, gg := fgg, nR := fnr, nP := fnp, iC := faI, tC := ftI, kC := fkC, exC := feC, tyC := ftC, hdC := fhC, te := exm_self feC fiC ftC fsC, fn := ⟨_, _, _, _, _, _, _, _, _, _, _, _, _, _, _, _, _, _, _, flI, fcI⟩ }
    t_Form_init := ⟨_, _, ⟨mk_Form, a0, i0, kc_Form⟩, F0, b0⟩
    t_all_ends := ⟨_, _, PySem.W.mg_of X G a1, k1, F1, b1⟩
    t_fits_piece := ⟨_, _, PySem.W.mg_of X G a2, k2, F2, b2⟩
    t_form_ends := ⟨_, _, PySem.W.mg_of X G a3, k3, F3, b3⟩
    t_byte_ends := ⟨_, _, PySem.W.mg_of X G a4, k4, F4, b4⟩
    t_holds_at := ⟨_, _, PySem.W.mg_of X G a5, k5, F5, b5⟩
    t_is_word_byte := ⟨_, _, PySem.W.mg_of X G a6, k6, F6, b6⟩
    t_empty_ends := ⟨_, _, PySem.W.mg_of X G a7, k7, F7, b7⟩
    t_row_ends := ⟨_, _, PySem.W.mg_of X G a8, k8, F8, b8⟩
    t_one_behind_other := ⟨_, _, PySem.W.mg_of X G a9, k9, F9, b9⟩
    t_ends_behind := ⟨_, _, PySem.W.mg_of X G a10, k10, F10, b10⟩
    t_either_ends := ⟨_, _, PySem.W.mg_of X G a11, k11, F11, b11⟩
    t_both_ends := ⟨_, _, PySem.W.mg_of X G a12, k12, F12, b12⟩
    t_turned_ends := ⟨_, _, PySem.W.mg_of X G a13, k13, F13, b13⟩
    t_counted_ends := ⟨_, _, PySem.W.mg_of X G a14, k14, F14, b14⟩
    t_repeated_ends := ⟨_, _, PySem.W.mg_of X G a15, k15, F15, b15⟩
    t_any_number_ends := ⟨_, _, PySem.W.mg_of X G a16, k16, F16, b16⟩
    t_among := ⟨_, _, PySem.W.mg_of X G a18, k18, F18, b18⟩
    t_is_printed := ⟨_, _, PySem.W.mg_of X G a19, k19, F19, b19⟩
    t_is_digit := ⟨_, _, PySem.W.mg_of X G a20, k20, F20, b20⟩
    t_Level_init := ⟨_, _, ⟨mk_Level, a21, i21, kc_Level⟩, F21, b21⟩
    t_Level_bars_groups := ⟨_, _, ⟨a22, i22, k22⟩, F22, b22⟩
    t_Reader_init := ⟨_, _, ⟨mk_Reader, a23, i23, kc_Reader⟩, F23, b23⟩
    t_Reader_now := ⟨_, _, ⟨a24, i24, k24⟩, F24, b24⟩
    t_Reader_passes := ⟨_, _, ⟨a25, i25, k25⟩, F25, b25⟩
    t_Reader_need := ⟨_, _, ⟨a26, i26, k26⟩, F26, b26⟩
    t_Reader_keep := ⟨_, _, ⟨a27, i27, k27⟩, F27, b27⟩
    t_Reader_keep_joined := ⟨_, _, ⟨a28, i28, k28⟩, F28, b28⟩
    t_Reader_read_whole := ⟨_, _, ⟨a29, i29, k29⟩, F29, b29⟩
    t_Reader_read_step := ⟨_, _, ⟨a30, i30, k30⟩, F30, b30⟩
    t_Reader_open_bracket := ⟨_, _, ⟨a31, i31, k31⟩, F31, b31⟩
    t_Reader_close_bracket := ⟨_, _, ⟨a32, i32, k32⟩, F32, b32⟩
    t_Reader_pass_both := ⟨_, _, ⟨a33, i33, k33⟩, F33, b33⟩
    t_Reader_end_part := ⟨_, _, ⟨a34, i34, k34⟩, F34, b34⟩
    t_Reader_end_row := ⟨_, _, ⟨a35, i35, k35⟩, F35, b35⟩
    t_Reader_end_level := ⟨_, _, ⟨a36, i36, k36⟩, F36, b36⟩
    t_Reader_end_piece := ⟨_, _, ⟨a37, i37, k37⟩, F37, b37⟩
    t_Reader_read_count := ⟨_, _, ⟨a38, i38, k38⟩, F38, b38⟩
    t_Reader_read_numbers := ⟨_, _, ⟨a39, i39, k39⟩, F39, b39⟩
    t_Reader_read_number := ⟨_, _, ⟨a40, i40, k40⟩, F40, b40⟩
    t_Reader_read_atom := ⟨_, _, ⟨a41, i41, k41⟩, F41, b41⟩
    t_Reader_read_plain := ⟨_, _, ⟨a42, i42, k42⟩, F42, b42⟩
    t_Reader_keep_byte := ⟨_, _, ⟨a43, i43, k43⟩, F43, b43⟩
    t_Reader_read_escaped_atom := ⟨_, _, ⟨a44, i44, k44⟩, F44, b44⟩
    t_Reader_read_escaped := ⟨_, _, ⟨a45, i45, k45⟩, F45, b45⟩
    t_Reader_read_hex := ⟨_, _, ⟨a46, i46, k46⟩, F46, b46⟩
    t_Reader_read_set := ⟨_, _, ⟨a47, i47, k47⟩, F47, b47⟩
    t_Reader_read_item := ⟨_, _, ⟨a48, i48, k48⟩, F48, b48⟩
    t_Reader_read_set_byte := ⟨_, _, ⟨a49, i49, k49⟩, F49, b49⟩
    t_read_pattern := ⟨_, _, PySem.W.mg_of X G a50, k50, F50, b50⟩
    t_fits := ⟨_, _, PySem.W.mg_of X G a51, k51, F51, b51⟩
    t_told_fault := ⟨_, _, PySem.W.mg_of X G a52, k52, F52, b52⟩
    }
  exact ⟨PySem.W.fnOf "fits" "fits" (defArgs s_fits) (defBody s_fits) (defScope s_fits) .none kV51 dc51 pm51 an51 cd51 ct51, fun s us hu => match us, hu with | [_, _, _, _], _ => .of_eq rfl, fun base _ _ => ok_fits F51 T⟩
end RM
open PySem PySem.W PyProof.Rows
set_option maxRecDepth 100000 in
set_option maxHeartbeats 0 in
theorem PySem.Challenge.cw_patternmeans_s02_fits_holds : PySem.Challenge.rw_patternmeans_s02_fits.Holds := by
  w_on; k_headS; (case hw => exact ⟨[.int 0, .int 0, .list [], .list []], by decide +kernel, by decide +kernel⟩)
  k_fillS
  refine L2.walk_specK (r := PySem.Challenge.rw_patternmeans_s02_fits) (k := 12) (CX := L2.CX0) (ps := ["start", "to", "pattern", "subject"]) (sp := RM.spFits) (by decide +kernel) rfl rfl ⟨rfl, by decide, by decide⟩ (fun w h Y => PySem.W.kIn_of Y) ?F ?S (fun _ _ _ _ z => z)
  case F =>
    intro w mg fa h Y KX G hmg
    refine' RM.all_mk KX G hmg ?z_BYTE ?z_BEGIN ?z_END ?z_EDGE ?z_NO_EDGE ?z_ROW ?z_EITHER ?z_BOTH ?z_TURNED ?z_COUNTED ?z_GROUP ?z_SPECIALS ?z_NOT_PLAIN ?z_NOT_PLAIN_IN_SET ?z_NOT_ATOMS ?z_CANNOT_STAND ?z_WRONG_NUMBER ?z_WRONG_ITEM ?z_WRONG_GROUP ?z_MOST_GROUPS ?z_MOST_TIMES ?z_PATTERN_ENDED ?z_LONGEST ?z_ANSWERED ?z_REFUSED ?z_BEYOND_BOUNDS ?z_FAULTY ?z_FIRST ?z_len ?z_range ?z_enumerate ?z_ord ?z_zip ?g_Reader ?pg_Reader ?hd_Reader ?po_Reader ?sa_Reader ?mk_Reader ?kc_Reader ?n_Reader_pattern ?n_Reader_place ?n_Reader_forms ?n_Reader_groups ?n_Reader_levels ?g_Level ?pg_Level ?hd_Level ?po_Level ?sa_Level ?mk_Level ?kc_Level ?n_Level_rows ?n_Level_parts ?n_Level_pieces ?n_Level_turned ?n_Level_shut ?n_Level_groups_before_part ?n_Level_group ?g_Form ?pg_Form ?hd_Form ?po_Form ?sa_Form ?mk_Form ?kc_Form ?n_Form_kind ?n_Form_parts ?n_Form_told ?g_Fault ?xL ?fsa ?fga ?fgg ?fnr ?fnp ?faI ?ftI ?flI ?fcI ?fkC ?feC ?ftC ?fhC ?fiC ?fsC ?a0 ?i0 ?l0 ?c0 ?k0 ?a1 ?l1 ?c1 ?k1 ?a2 ?l2 ?c2 ?k2 ?a3 ?l3 ?c3 ?k3 ?a4 ?l4 ?c4 ?k4 ?a5 ?l5 ?c5 ?k5 ?a6 ?l6 ?c6 ?k6 ?a7 ?l7 ?c7 ?k7 ?a8 ?l8 ?c8 ?k8 ?a9 ?l9 ?c9 ?k9 ?a10 ?l10 ?c10 ?k10 ?a11 ?l11 ?c11 ?k11 ?a12 ?l12 ?c12 ?k12 ?a13 ?l13 ?c13 ?k13 ?a14 ?l14 ?c14 ?k14 ?a15 ?l15 ?c15 ?k15 ?a16 ?l16 ?c16 ?k16 ?a18 ?l18 ?c18 ?k18 ?a19 ?l19 ?c19 ?k19 ?a20 ?l20 ?c20 ?k20 ?a21 ?i21 ?l21 ?c21 ?k21 ?a22 ?i22 ?l22 ?c22 ?k22 ?a23 ?i23 ?l23 ?c23 ?k23 ?a24 ?i24 ?l24 ?c24 ?k24 ?a25 ?i25 ?l25 ?c25 ?k25 ?a26 ?i26 ?l26 ?c26 ?k26 ?a27 ?i27 ?l27 ?c27 ?k27 ?a28 ?i28 ?l28 ?c28 ?k28 ?a29 ?i29 ?l29 ?c29 ?k29 ?a30 ?i30 ?l30 ?c30 ?k30 ?a31 ?i31 ?l31 ?c31 ?k31 ?a32 ?i32 ?l32 ?c32 ?k32 ?a33 ?i33 ?l33 ?c33 ?k33 ?a34 ?i34 ?l34 ?c34 ?k34 ?a35 ?i35 ?l35 ?c35 ?k35 ?a36 ?i36 ?l36 ?c36 ?k36 ?a37 ?i37 ?l37 ?c37 ?k37 ?a38 ?i38 ?l38 ?c38 ?k38 ?a39 ?i39 ?l39 ?c39 ?k39 ?a40 ?i40 ?l40 ?c40 ?k40 ?a41 ?i41 ?l41 ?c41 ?k41 ?a42 ?i42 ?l42 ?c42 ?k42 ?a43 ?i43 ?l43 ?c43 ?k43 ?a44 ?i44 ?l44 ?c44 ?k44 ?a45 ?i45 ?l45 ?c45 ?k45 ?a46 ?i46 ?l46 ?c46 ?k46 ?a47 ?i47 ?l47 ?c47 ?k47 ?a48 ?i48 ?l48 ?c48 ?k48 ?a49 ?i49 ?l49 ?c49 ?k49 ?a50 ?l50 ?c50 ?k50 ?a51 ?l51 ?c51 ?k51 ?a52 ?l52 ?c52 ?k52
    (case z_BYTE => k_is)
    (case z_BEGIN => k_is)
    (case z_END => k_is)
    (case z_EDGE => k_is)
    (case z_NO_EDGE => k_is)
    (case z_ROW => k_is)
    (case z_EITHER => k_is)
    (case z_BOTH => k_is)
    (case z_TURNED => k_is)
    (case z_COUNTED => k_is)
    (case z_GROUP => k_is)
    (case z_SPECIALS => k_is)
    (case z_NOT_PLAIN => k_is)
    (case z_NOT_PLAIN_IN_SET => k_is)
    (case z_NOT_ATOMS => k_is)
    (case z_CANNOT_STAND => k_is)
    (case z_WRONG_NUMBER => k_is)
    (case z_WRONG_ITEM => k_is)
    (case z_WRONG_GROUP => k_is)
    (case z_MOST_GROUPS => k_is)
    (case z_MOST_TIMES => k_is)
    (case z_PATTERN_ENDED => k_is)
    (case z_LONGEST => k_is)
    (case z_ANSWERED => k_is)
    (case z_REFUSED => k_is)
    (case z_BEYOND_BOUNDS => k_is)
    (case z_FAULTY => k_is)
    (case z_FIRST => k_is)
    (case z_len => k_is)
    (case z_range => k_is)
    (case z_enumerate => k_is)
    (case z_ord => k_is)
    (case z_zip => k_is)
    (case g_Reader => k_is)
    (case pg_Reader => k_is)
    (case hd_Reader => k_is)
    (case po_Reader => k_is)
    (case sa_Reader => k_is)
    (case mk_Reader => k_is)
    (case kc_Reader => k_is)
    (case n_Reader_pattern => k_is)
    (case n_Reader_place => k_is)
    (case n_Reader_forms => k_is)
    (case n_Reader_groups => k_is)
    (case n_Reader_levels => k_is)
    (case g_Level => k_is)
    (case pg_Level => k_is)
    (case hd_Level => k_is)
    (case po_Level => k_is)
    (case sa_Level => k_is)
    (case mk_Level => k_is)
    (case kc_Level => k_is)
    (case n_Level_rows => k_is)
    (case n_Level_parts => k_is)
    (case n_Level_pieces => k_is)
    (case n_Level_turned => k_is)
    (case n_Level_shut => k_is)
    (case n_Level_groups_before_part => k_is)
    (case n_Level_group => k_is)
    (case g_Form => k_is)
    (case pg_Form => k_is)
    (case hd_Form => k_is)
    (case po_Form => k_is)
    (case sa_Form => k_is)
    (case mk_Form => k_is)
    (case kc_Form => k_is)
    (case n_Form_kind => k_is)
    (case n_Form_parts => k_is)
    (case n_Form_told => k_is)
    (case g_Fault => k_is)
    (case xL => k_is)
    (case fsa => k_is)
    (case fga => k_is)
    (case fgg => k_is)
    (case fnr => k_is)
    (case fnp => k_is)
    (case faI => k_is)
    (case ftI => k_is)
    (case flI => k_is)
    (case fcI => k_is)
    (case fkC => k_is)
    (case feC => k_is)
    (case ftC => k_is)
    (case fhC => k_is)
    (case fiC => k_is)
    (case fsC => first | rfl | k_is)
    (case a0 => k_is)
    (case i0 => k_is)
    (case l0 => k_is)
    (case c0 => k_is)
    (case k0 => k_is)
    (case a1 => k_is)
    (case l1 => k_is)
    (case c1 => k_is)
    (case k1 => k_is)
    (case a2 => k_is)
    (case l2 => k_is)
    (case c2 => k_is)
    (case k2 => k_is)
    (case a3 => k_is)
    (case l3 => k_is)
    (case c3 => k_is)
    (case k3 => k_is)
    (case a4 => k_is)
    (case l4 => k_is)
    (case c4 => k_is)
    (case k4 => k_is)
    (case a5 => k_is)
    (case l5 => k_is)
    (case c5 => k_is)
    (case k5 => k_is)
    (case a6 => k_is)
    (case l6 => k_is)
    (case c6 => k_is)
    (case k6 => k_is)
    (case a7 => k_is)
    (case l7 => k_is)
    (case c7 => k_is)
    (case k7 => k_is)
    (case a8 => k_is)
    (case l8 => k_is)
    (case c8 => k_is)
    (case k8 => k_is)
    (case a9 => k_is)
    (case l9 => k_is)
    (case c9 => k_is)
    (case k9 => k_is)
    (case a10 => k_is)
    (case l10 => k_is)
    (case c10 => k_is)
    (case k10 => k_is)
    (case a11 => k_is)
    (case l11 => k_is)
    (case c11 => k_is)
    (case k11 => k_is)
    (case a12 => k_is)
    (case l12 => k_is)
    (case c12 => k_is)
    (case k12 => k_is)
    (case a13 => k_is)
    (case l13 => k_is)
    (case c13 => k_is)
    (case k13 => k_is)
    (case a14 => k_is)
    (case l14 => k_is)
    (case c14 => k_is)
    (case k14 => k_is)
    (case a15 => k_is)
    (case l15 => k_is)
    (case c15 => k_is)
    (case k15 => k_is)
    (case a16 => k_is)
    (case l16 => k_is)
    (case c16 => k_is)
    (case k16 => k_is)
    (case a18 => k_is)
    (case l18 => k_is)
    (case c18 => k_is)
    (case k18 => k_is)
    (case a19 => k_is)
    (case l19 => k_is)
    (case c19 => k_is)
    (case k19 => k_is)
    (case a20 => k_is)
    (case l20 => k_is)
    (case c20 => k_is)
    (case k20 => k_is)
    (case a21 => k_is)
    (case i21 => k_is)
    (case l21 => k_is)
    (case c21 => k_is)
    (case k21 => k_is)
    (case a22 => k_is)
    (case i22 => k_is)
    (case l22 => k_is)
    (case c22 => k_is)
    (case k22 => k_is)
    (case a23 => k_is)
    (case i23 => k_is)
    (case l23 => k_is)
    (case c23 => k_is)
    (case k23 => k_is)
    (case a24 => k_is)
    (case i24 => k_is)
    (case l24 => k_is)
    (case c24 => k_is)
    (case k24 => k_is)
    (case a25 => k_is)
    (case i25 => k_is)
    (case l25 => k_is)
    (case c25 => k_is)
    (case k25 => k_is)
    (case a26 => k_is)
    (case i26 => k_is)
    (case l26 => k_is)
    (case c26 => k_is)
    (case k26 => k_is)
    (case a27 => k_is)
    (case i27 => k_is)
    (case l27 => k_is)
    (case c27 => k_is)
    (case k27 => k_is)
    (case a28 => k_is)
    (case i28 => k_is)
    (case l28 => k_is)
    (case c28 => k_is)
    (case k28 => k_is)
    (case a29 => k_is)
    (case i29 => k_is)
    (case l29 => k_is)
    (case c29 => k_is)
    (case k29 => k_is)
    (case a30 => k_is)
    (case i30 => k_is)
    (case l30 => k_is)
    (case c30 => k_is)
    (case k30 => k_is)
    (case a31 => k_is)
    (case i31 => k_is)
    (case l31 => k_is)
    (case c31 => k_is)
    (case k31 => k_is)
    (case a32 => k_is)
    (case i32 => k_is)
    (case l32 => k_is)
    (case c32 => k_is)
    (case k32 => k_is)
    (case a33 => k_is)
    (case i33 => k_is)
    (case l33 => k_is)
    (case c33 => k_is)
    (case k33 => k_is)
    (case a34 => k_is)
    (case i34 => k_is)
    (case l34 => k_is)
    (case c34 => k_is)
    (case k34 => k_is)
    (case a35 => k_is)
    (case i35 => k_is)
    (case l35 => k_is)
    (case c35 => k_is)
    (case k35 => k_is)
    (case a36 => k_is)
    (case i36 => k_is)
    (case l36 => k_is)
    (case c36 => k_is)
    (case k36 => k_is)
    (case a37 => k_is)
    (case i37 => k_is)
    (case l37 => k_is)
    (case c37 => k_is)
    (case k37 => k_is)
    (case a38 => k_is)
    (case i38 => k_is)
    (case l38 => k_is)
    (case c38 => k_is)
    (case k38 => k_is)
    (case a39 => k_is)
    (case i39 => k_is)
    (case l39 => k_is)
    (case c39 => k_is)
    (case k39 => k_is)
    (case a40 => k_is)
    (case i40 => k_is)
    (case l40 => k_is)
    (case c40 => k_is)
    (case k40 => k_is)
    (case a41 => k_is)
    (case i41 => k_is)
    (case l41 => k_is)
    (case c41 => k_is)
    (case k41 => k_is)
    (case a42 => k_is)
    (case i42 => k_is)
    (case l42 => k_is)
    (case c42 => k_is)
    (case k42 => k_is)
    (case a43 => k_is)
    (case i43 => k_is)
    (case l43 => k_is)
    (case c43 => k_is)
    (case k43 => k_is)
    (case a44 => k_is)
    (case i44 => k_is)
    (case l44 => k_is)
    (case c44 => k_is)
    (case k44 => k_is)
    (case a45 => k_is)
    (case i45 => k_is)
    (case l45 => k_is)
    (case c45 => k_is)
    (case k45 => k_is)
    (case a46 => k_is)
    (case i46 => k_is)
    (case l46 => k_is)
    (case c46 => k_is)
    (case k46 => k_is)
    (case a47 => k_is)
    (case i47 => k_is)
    (case l47 => k_is)
    (case c47 => k_is)
    (case k47 => k_is)
    (case a48 => k_is)
    (case i48 => k_is)
    (case l48 => k_is)
    (case c48 => k_is)
    (case k48 => k_is)
    (case a49 => k_is)
    (case i49 => k_is)
    (case l49 => k_is)
    (case c49 => k_is)
    (case k49 => k_is)
    (case a50 => k_is)
    (case l50 => k_is)
    (case c50 => k_is)
    (case k50 => k_is)
    (case a51 => k_is)
    (case l51 => k_is)
    (case c51 => k_is)
    (case k51 => k_is)
    (case a52 => k_is)
    (case l52 => k_is)
    (case c52 => k_is)
    (case k52 => k_is)
  case S =>
    intro K H xs a hO hwi hask hx
    obtain ⟨x, y, p, q, u⟩ := a
    have z : (Codec.inInt 0 4294967295 x && (Codec.inInt 0 4294967295 y && ((Codec.inLen 0 300 p && p.all (Codec.inInt 0 255)) && ((Codec.inLen 0 300 q && q.all (Codec.inInt 0 255)) && true)))) = true := hwi
    rw [Bool.and_true, Bool.and_eq_true, Bool.and_eq_true, Bool.and_eq_true, Bool.and_eq_true, Bool.and_eq_true] at z
    obtain ⟨z1, z2, ⟨z3, z4⟩, z5, z6⟩ := z
    obtain ⟨i, rfl⟩ := Int.eq_ofNat_of_zero_le (RM.int_lo z1)
    obtain ⟨j, rfl⟩ := Int.eq_ofNat_of_zero_le (RM.int_lo z2)
    cases hx with
    | cons h1 hx =>
      cases hx with
      | cons h2 hx =>
        cases hx with
        | cons h3 hx =>
          cases hx with
          | cons h4 hx =>
            cases hx
            cases h1
            cases h2
            cases h3 with
            | lst hp ha =>
              have e := L2.ints_dw p _ ha
              subst e
              cases h4 with
              | lst hs ha =>
                have e := L2.ints_dw q _ ha
                subst e
                exact ⟨i, j, _, _, p, q, rfl, hp, hs, (Codec.inNat_iff.mp z3).2, (Codec.inNat_iff.mp z5).2, RM.bytes8_of z4, RM.bytes8_of z6, fun H' t ht => .lst (L2.SqL.of ht) (L2.dw_ints _)⟩
