import PyProof.Rows.All
import Wide.All
import OpenK.AllK
import Wide.FinOn
import PyProof.EqAt
import PyProof.EqKinds
import PyProof.TupleCall
import Open.SpecLaws
import KE.OsGo
import PySem.Challenge.RW_heraldcoats_s06_read
import HandS.ForSpec
import HandS.IsInst
import HandS.ExcSuper
import KE.DatumOrd
import KE.GoesEnum
import HandS.Iter
import HandS.Comp
import HandS.Rev
import HandS.Lambda
import HandS.Nested
import HandS.SortKw
import KE.KStateDown
import HandS.Defaults
import HandS.Head0
import HandS.Head1
import HandS.Head2
import HandS.Head3
import HandS.Head4
import HandS.HeadHook1
import HandS.HeadHook2
import HandS.Text
import HandS.FStr
import HandS.Walk
import HandS.StrMore
import HandS.Dict
import HandS.Codes
set_option Elab.async false
set_option linter.all false
set_option maxRecDepth 100000
set_option maxHeartbeats 4000000
namespace PySem
namespace LowX
open PySem.W PySem.Calls PyProof.Rows PySem.HandSPX
/-! ### the text of __init__ -/
def iA (p1 p2 p3 : Pos) : Arguments := { posonlyargs := [], args := [{ arg := "self", annotation := none, pos := p1 }, { arg := "kind", annotation := none, pos := p2 }, { arg := "place", annotation := none, pos := p3 }], vararg := none, kwonlyargs := [], kw_defaults := [], kwarg := none, defaults := [] }
def iB (q1 q2 q3 q4 r1 r2 r3 r4 : Pos) : List Stmt := [.Assign [.Attribute (.Name "self" q1) "kind" q2] (.Name "kind" q3) q4, .Assign [.Attribute (.Name "self" r1) "place" r2] (.Name "place" r3) r4]
def iS : Scope := { kind := .function, names := [(PySem.Str.ofString "self", .local), (PySem.Str.ofString "kind", .local), (PySem.Str.ofString "place", .local)], isGenerator := false, isCoroutine := false, more := [] }
/-- what the written part says of Low, at C, and of its __init__, at fI -/
structure LowTxt (K : Frag) (mg : Str → Option Value) (C fI : Addr) : Prop where
  gC : mg "Misread" = some (.ref C)
  cls : ∃ nm q N bs sn sub ab col dd k0 k1 k2 k3 k5, K.lookup C = some (excClassObj nm q C N bs PySem.ESX.exTail true sn sub ab col dd k0 k1 k2 k3 k5 "Exception.__new__")
  sa : findIn K (.ref C) "__setattr__" = some (some (.builtin "object.__setattr__"))
  ga : findIn K (.ref C) "__getattribute__" = some (some (.builtin "BaseException.__getattribute__"))
  gg : findIn K (.ref C) "__getattr__" = some none
  noN : findIn K (.ref C) "kind" = some none
  noP : findIn K (.ref C) "place" = some none
  iC : findIn K (.ref C) "__init__" = some (some (.ref fI))
  tC : typeIn K (.ref fI) = some (.type "function")
  kC : keepIn K (.ref C) = true
  exC : subIn K (.ref C) (.type "BaseException") = some true
  tyC : typeIn K (.ref C) = some (.type "type")
  hdC : hasDictIn K C = true
  te : exmOne K (.ref C) (.ref C) = some true
  fn : ∃ (oc : Value) (od : Option Addr) (doc pm : Value) (an : Option Addr) (cdv ct : Value) (osl : Array (Option Value)) (p1 p2 p3 q1 q2 q3 q4 r1 r2 r3 r4 : Pos),
    K.lookup fI = some ⟨oc, od, .func (fnOf "__init__" "Misread.__init__" (iA p1 p2 p3) (iB q1 q2 q3 q4 r1 r2 r3 r4) iS .none .none doc pm an cdv ct), osl⟩ ∧ codeIn K cdv "Misread.__init__" = true
theorem two_size (v u : Value) : [v, u].length ≤ sizeLine := by
  rw [sizeLine_eq]
  exact (by decide : 2 ≤ 16777216)
theorem kept_but {K : Frag} {h h' : Heap} {x : Addr} (X : K.In h) (hx : K.lookup x = none) (k : ∀ b o, b ≠ x → h.get? b = some o → h'.get? b = some o) : K.In h' := fun a o e =>
  k a o (fun z => by rw [z, hx] at e; cases e) (X a o e)
theorem ldC {M : Model} {s : Shared} {name : Str} {scope : Scope} {L a : Addr} {cd : Value} {m : Str → Option Value} {x : Str} {pos : Pos} {v : Value} {Q : Value → Shared → Prop} {A : Around} {E : Value → Shared → Prop} (hn : s.heap.Ns L m) (hv : m x = some v) (h : Q v s)
    (hk : scope.kind = .function := by rfl) (hl : (envOfC name scope L a cd).kindOf x = some .local := by rfl) (hd : (x == ("__debug__" : Str)) = false := by decide) :
    wpAny M A (eval (.Name x pos) (envOfC name scope L a cd)) Q E s := wpAny_Name (wpAny_loadName_local hk hl hn hv h) hd
/-- what __init__ leaves of a fresh exception at x -/
structure InitEnd (h h' : Heap) (x C dx t1 : Addr) (v u : Value) : Prop where
  keep : ∀ b o, b ≠ x → h.get? b = some o → h'.get? b = some o
  obj : h'.get? x = some { cls := .ref C, dict := some dx, data := .fields #[.ref t1, .none, .none, .none, .bool false, .none] }
  dbig : h.objs.size ≤ dx
  dne : dx ≠ x
  ns : h'.Ns1 dx (fun y => if y = "place" then some u else if y = "kind" then some v else none)
/-- a made Low -/
structure OwnMade (h h' : Heap) (e C d : Addr) (v u : Value) : Prop where
  keep : ∀ b o, h.get? b = some o → h'.get? b = some o
  new : h.objs.size ≤ e
  obj : ∃ oe vs, h'.get? e = some oe ∧ oe.cls = .ref C ∧ oe.dict = some d ∧ oe.data = .fields vs ∧ vs[1]? = some .none
  dbig : h.objs.size ≤ d
  dne : d ≠ e
  ns : h'.Ns1 d (fun y => if y = "place" then some u else if y = "kind" then some v else none)
section
variable {prog : Program} {w : World} {A : Around} {E : Value → Shared → Prop} {R : Result → Shared → Prop} {s : Shared} {K : Frag} {mg : Str → Option Value} {C fI : Addr}
theorem low_init (T : LowTxt K mg C fI) {x t0 : Addr} {v u : Value} (X : K.In s.heap) (hlim : s.heap.NoLimit) (hx : s.heap.get? x = some (excO C t0)) (hnx : K.lookup x = none) (hroom : A.depth < recursionLimit)
    (hq : ∀ h' tk dx, InitEnd s.heap h' x C dx t0 v u → R (.ok (.ret .none)) { s with heap := h', toks := tk }) :
    codeAny (model prog w) A (.call (.ref fI) ⟨[.ref x, v, u], []⟩) R s := by
  obtain ⟨oc, od, doc, pm, an, cdv, ct, osl, p1, p2, p3, q1, q2, q3, q4, r1, r2, r3, r4, ho, hcd⟩ := T.fn
  obtain ⟨nm, q, N, bs, sn, sub, ab, col, dd, k0, k1, k2, k3, k5, hC⟩ := T.cls
  have hcl : clsIn K C = some { name := nm, bases := bs, mro := .ref C :: PySem.ESX.exTail, ns := N, qualname := q, hasDict := true, slotNames := sn, subclasses := sub, abstract := ab, collection := col, hasDel := false } := by unfold clsIn; rw [hC] <;> rfl
  refine Att.call_fn (binds := [("self", .ref x), ("kind", v), ("place", u)]) X hlim ho hcd hroom (BindsTo.of_eq (by first | rfl | with_unfolding_all rfl)) (by first | rfl | decide | with_unfolding_all rfl) (fun s₁ IC => ?_) rfl rfl rfl
  obtain ⟨h₁, tk₁, rfl⟩ := IC.toInCall.same
  have k : ∀ b o, s.heap.get? b = some o → h₁.get? b = some o := IC.toInCall.keep
  have hn := IC.toInCall.ns
  have hxL : s.heap.objs.size ≠ x := Nat.ne_of_gt (Heap.lt_size hx)
  have X₁ : K.In h₁ := X.keeps k
  have hx₁ := k _ _ hx
  -- self.by = by
  show wpAny _ _ (execs _ _) _ _ _
  refine wpAny_execs_cons (plainObj_wpAny_Assign_Attribute ?_)
  refine ldC (v := v) hn (by first | rfl | with_unfolding_all rfl | kernel_rfl) (ldC (v := .ref x) hn (by first | rfl | with_unfolding_all rfl | kernel_rfl) ?_)
  refine set_plain X₁ (ox := excO C t0) (od := none) ⟨hx₁, rfl, rfl, trivial⟩ T.sa ?_
  refine PySem.ESX.osa_new X₁ hx₁ hcl rfl rfl T.noN (fun h₃ tk₃ dx k₃ dn dne hx₃ hn₃ => ?_)
  show wpAny _ _ (execs _ _) _ _ _
  have z : s.heap.objs.size < h₁.objs.size := hn.lt
  have hx3 : ∀ b o, b ≠ x → s.heap.get? b = some o → h₃.get? b = some o := fun b o hb e => k₃ b o hb (k b o e)
  have X₃ : K.In h₃ := fun a o e => k₃ a o (fun z => by rw [z, hnx] at e; cases e) (X₁ a o e)
  have hn3 := hn.at fun o q => k₃ _ o hxL q
  have hw : Within (fun y => if y = ("kind" : Str) then some v else none) ["kind"] := fun y hy => by
    by_cases e : y = ("kind" : Str)
    · rw [e]
      exact List.mem_cons_self
    · exact absurd (if_neg e) hy
  refine wpAny_execs_cons (plainObj_wpAny_Assign_Attribute ?_)
  refine ldC (v := u) hn3 (by first | rfl | with_unfolding_all rfl | kernel_rfl) (ldC (v := .ref x) hn3 (by first | rfl | with_unfolding_all rfl | kernel_rfl) ?_)
  obtain ⟨oD, _, _, hoD, _, _⟩ := hn₃.count hw
  refine set_plain X₃ (ox := { cls := .ref C, dict := some dx, data := .fields #[.ref t0, .none, .none, .none, .bool false, .none] }) (od := some oD) ⟨hx₃, rfl, rfl, hoD⟩ T.sa ?_
  refine PySem.ESX.osa_old X₃ hx₃ hn₃ hw (by decide) hcl rfl rfl T.noP (fun h₄ tk₄ k₄ hn₄ => ?_)
  show wpAny _ _ (execs _ _) _ _ _
  have dbig : s.heap.objs.size ≤ dx := Nat.le_of_lt (Nat.lt_of_lt_of_le z dn)
  exact wpAny_execs_nil (hq h₄ tk₄ dx ⟨fun b o hb e => k₄ b o (Nat.ne_of_lt (Nat.lt_of_lt_of_le (Heap.lt_size e) dbig)) (hx3 b o hb e), k₄ _ _ dne.symm hx₃, dbig, dne, hn₄⟩)
theorem low_made (T : LowTxt K mg C fI) {v u : Value} (X : K.In s.heap) (hlim : s.heap.NoLimit) (hroom : A.depth + 1 < recursionLimit)
    (hq : ∀ h' tk e d, OwnMade s.heap h' e C d v u → R (.ok (.ret (.ref e))) { s with heap := h', toks := tk }) :
    codeAny (model prog w) A (.call (.ref C) ⟨[v, u], []⟩) R s := by
  obtain ⟨nm, q, N, bs, sn, sub, ab, col, dd, k0, k1, k2, k3, k5, hC⟩ := T.cls
  obtain ⟨hp, g, dr, tk, os⟩ := s
  have k : ∀ b o, hp.get? b = some o → ((hp.push (kdv_tup [v, u])).push (excO C hp.objs.size)).get? b = some o := fun b o e => Heap.get?_push_of_some _ (Heap.get?_push_of_some _ e)
  have hget : ((hp.push (kdv_tup [v, u])).push (excO C hp.objs.size)).get? (hp.objs.size + 1) = some (excO C hp.objs.size) := by heap_get
  have hnx : K.lookup (hp.objs.size + 1) = none := by
    cases e : K.lookup (hp.objs.size + 1) with
    | none => rfl
    | some o =>
      have z : hp.get? (hp.objs.size + 1) = some o := X _ _ e
      exact absurd (Nat.lt_of_succ_lt (Heap.lt_size z)) (Nat.lt_irrefl _)
  refine call_own F.excBase_Exception (fun X => rfl) (X _ _ hC) (looks_findIn X T.iC) (fun self => bind_fn X self T.tC) (two_size v u) ?_
  refine low_init (s := ⟨(hp.push (kdv_tup [v, u])).push (excO C hp.objs.size), g, dr, tk, os⟩) T (X.keeps k) (hlim.keeps k) hget hnx ?_ fun h' tk' dx ⟨k', hx, dn, dne, hns⟩ => ?_
  · show A.depth + 1 < recursionLimit
    exact hroom
  · have old : ∀ b o, hp.get? b = some o → h'.get? b = some o := fun b o e => k' b o (Nat.ne_of_lt (Nat.lt_succ_of_lt (Heap.lt_size e))) (k b o e)
    have z : hp.objs.size + 1 + 1 ≤ dx := by
      first
        | (simpa only [Heap.size_push] using dn)
        | exact dn
        | (have q := dn; rw [Heap.size_push, Heap.size_push] at q; exact q)
    exact ⟨rfl, hq h' tk' (hp.objs.size + 1) dx ⟨old, Nat.le_succ _, ⟨_, _, hx, rfl, rfl, rfl, rfl⟩, Nat.le_trans (Nat.le_trans (Nat.le_succ _) (Nat.le_succ _)) z, dne, hns⟩⟩
end
end LowX
end PySem
namespace L2
open PySem PySem.Spec PyProof.Rows
def mrF (v u : V) : List (Str × V) := [(("kind" : Str), v), (("place" : Str), u)]
theorem relO_low {v u : V} {v' u' : Value} (r : RelV v v') (r2 : RelV u u') (f : Str) : RelO (List.lookup f (mrF v u)) (if f = "place" then some u' else if f = "kind" then some v' else none) := by
  unfold mrF
  by_cases hw : f = "place"
  · subst hw
    rw [if_pos rfl]
    have q0 : (("place" : Str) == ("kind" : Str)) = false := by decide +kernel
    have q : List.lookup ("place" : Str) [(("kind" : Str), v), (("place" : Str), u)] = some u := by simp [List.lookup, q0]
    rw [q]
    exact r2
  · rw [if_neg hw]
    have qw : (f == ("place" : Str)) = false := by simpa using hw
    by_cases hk : f = "kind"
    · subst hk
      rw [if_pos rfl]
      have q : List.lookup ("kind" : Str) [(("kind" : Str), v), (("place" : Str), u)] = some v := by simp [List.lookup]
      rw [q]
      exact r
    · rw [if_neg hk]
      have qk : (f == ("kind" : Str)) = false := by simpa using hk
      have q2 : List.lookup f [(("kind" : Str), v), (("place" : Str), u)] = none := by simp [List.lookup, qw, qk]
      rw [q2]
      trivial
section
variable {X : Cx} {C fI : Addr}
/-- Low(e) -/
def tMkLow (C : Addr) (ta : TA) : St → Hp → XK → Prop := fun σ H Q => ta σ H fun vs H1 => ∃ v u, vs = [v, u] ∧ ∀ d, H1 d = none → Q (.ref C) (some d) (upd H1 d (.xd (mrF v u)))
theorem pmk_low {a c : Expr} {ta : TA} {p pos : Pos} {k : Nat} (T : PySem.LowX.LowTxt X.K X.mg C fI) (hr : Room k X.A) (ha : PA X [a, c] ta) (hg : Gl X "Misread" := by rfl)
    (he : starEach (a :: [c]) X.env = (false, eval a X.env) :: starEach [c] X.env := by rfl) (hpl : (backTo pos (starEach [c] X.env)).any (·.1) = false := by rfl) :
    PMk X (.Call (.Name "Misread" p) [a, c] [] pos) (tMkLow C ta) := by
  intro pins s σ H Q I h
  refine wpAny_Call_Name_kw (ld_glob I hg T.gC ?_)
  refine PySem.W.callWith_K (h₀ := X.base) I.ok.mod.kin T.kC (thn (ha.run pos pins s σ H _ I h) fun us s1 hh => ?_) he hpl
  obtain ⟨vs, H1, I1, r1, v, u, ev, q1⟩ := hh
  subst ev
  refine ⟨I1.kIn, ?_⟩
  cases r1 with
  | @cons _ v' _ ur rv rm =>
    cases rm with
    | @cons _ u' _ us' ru rn =>
    cases rn
    show wpAny _ _ (call (.ref C) [v', u']) _ _ _
    have hlim := I1.nolimit
    obtain ⟨hp, g, dr, tk, os⟩ := s1
    refine wpAny_call (PySem.LowX.low_made T I1.kIn hlim (by have := hr.dp; omega) fun h' tk' e d M => ?_)
    show MkP X pins σ Q (.ref e) ⟨h', g, dr, tk', os⟩
    obtain ⟨oe, fv, hoe, hc, hd, hdat, h1⟩ := M.obj
    have hns := M.ns
    obtain ⟨G', g1, g2⟩ := restrict h' fun b => decide (b ≠ e)
    have gk : ∀ b, b ≠ e → G'.get? b = h'.get? b := fun b hb => g1 b (decide_eq_true hb)
    have ge : G'.get? e = none := g2 e (by simp)
    have old : ∀ b o, hp.get? b = some o → G'.get? b = some o := fun b o q => (gk b (Nat.ne_of_lt (Nat.lt_of_lt_of_le (Heap.lt_size q) M.new))).trans (M.keep b o q)
    have ob : ObjOk X.prog X.w (upd H1 d (.xd (mrF v u))) G' d (.xd (mrF v u)) :=
      ⟨_, hns.at (fun o q => (gk d M.dne).trans q), fun f => relO_low rv ru f⟩
    have J : Inv X pins σ (upd H1 d (.xd (mrF v u))) ⟨G', g, dr, tk', os⟩ := I1.laid (t' := tk') old M.dbig ob
    refine ⟨e, oe, fv, ⟨G', g, dr, tk', os⟩, _, .ref C, some d, rfl, J, fun b o q => ?_, ge, hoe, ⟨hc, hd⟩, hdat, h1, ?_, rfl, I1.bare, raises_own T.exC T.tyC, q1 d (I1.hok.fresh M.dbig)⟩
    · by_cases hb : b = e
      · have q' : G'.get? b = some o := q
        rw [hb, ge] at q'; cases q'
      · exact (gk b hb).symm.trans q
    · rw [upd_ne (Ne.symm M.dne)]
      exact I1.hok.fresh M.new
/-- raise Low(e) -/
def tRaiseLow (C : Addr) (W : WX) (ta : TA) : TS := fun _ σ H => tMkLow C ta σ H fun cls d H' => W cls d σ H'
theorem ps_raiseLow {a c : Expr} {ta : TA} {W : WX} {p pos pos2 : Pos} {k : Nat} (hc : X.calm = true) (T : PySem.LowX.LowTxt X.K X.mg C fI) (hr : Room k X.A) (tk : Takes X W) (ha : PA X [a, c] ta) (hg : Gl X "Misread" := by rfl)
    (he : starEach (a :: [c]) X.env = (false, eval a X.env) :: starEach [c] X.env := by rfl) (hpl : (backTo pos (starEach [c] X.env)).any (·.1) = false := by rfl) :
    PS X (.Raise (some (.Call (.Name "Misread" p) [a, c] [] pos)) none pos2) (tRaiseLow C W ta) := ps_raise hc tk (pmk_low T hr ha hg he hpl)
/-- fault.f, fault the exception that the suite holds (at a; its class cls, its dict d) -/
def tByLow (C : Addr) (a : Addr) (cls : Value) (d : Option Addr) (f : Str) (te : TE) : TE := fun σ H Q => te σ H fun x H1 => x = .ref a ∧ cls = .ref C ∧ ∃ (dd : Addr) (fs : List (Str × V)) (v : V), d = some dd ∧ H1 dd = some (.xd fs) ∧ fs.lookup f = some v ∧ Q v H1
theorem pe_byLow {a : Addr} {oe : Obj} {cls : Value} {d : Option Addr} {pn : List (Addr × Obj)} {e : Expr} {te : TE} {pos : Pos} {f : Str} (T : PySem.LowX.LowTxt X.K X.mg C fI) (hno : PySem.W.findIn X.K (.ref C) f = some none) (hz : Zc cls d oe) (hf : ∃ vs, oe.data = .fields vs) (he : PE (X.suite a ((a, oe) :: pn)) e te)
    (hb : attributeBase e f X.env (eval e X.env) = eval e X.env := by rfl) :
    PE (X.suite a ((a, oe) :: pn)) (.Attribute e f pos) (tByLow C a cls d f te) := by
  refine ⟨fun pins s σ H Q I h => ?_⟩
  refine attr_of hb (thn (he.run pins s σ H _ I h) fun u s1 hh => ?_)
  obtain ⟨x, H1, I1, rx, ex, ec, dd, fs, v, ed, ea, el, q⟩ := hh
  subst ex
  obtain rfl : u = Value.ref a := rx
  subst ec
  subst ed
  obtain ⟨ha, _⟩ := I1.pin (a, oe) (List.mem_append_left _ List.mem_cons_self)
  obtain ⟨vs, hd⟩ := hf
  have hx : ObjOk X.prog X.w H1 s1.heap dd (.xd fs) := I1.hok dd _ ea
  obtain ⟨mA, hns, hr⟩ := hx
  obtain ⟨od, ho, hl⟩ := lookIn_ns hns
  obtain ⟨u, hu, ru⟩ := RelO.some_of (v := v) (o := mA f) (by rw [← el]; exact hr f)
  have J : PySem.W.InstAt s1.heap a oe C (some od) := ⟨ha, hz.1, by unfold PySem.W.notCls; rw [hd] <;> rfl, by rw [hz.2]; exact ho⟩
  exact HandSPX.exc_get I1.kIn J T.ga T.gg T.exC (PySem.W.findObj_own T.hdC hno rfl (by rw [hl, hu])) (handed_of ru) ⟨v, H1, I1.tok _, ru, q⟩
end
end L2

namespace L2
open PySem PySem.Spec PyProof.Rows
/-- an if whose test is known -/
theorem if_true_of {c : Bool} {A B : Prop} (hc : c = true) (h : A) : if c = true then A else B := by
  rw [if_pos hc]
  exact h
theorem if_false_of {c : Bool} {A B : Prop} (hc : c = false) (h : B) : if c = true then A else B := by
  rw [hc, if_neg Bool.false_ne_true]
  exact h
end L2

namespace HC
open PySem PySem.Spec PyProof.Rows L2
/-! ### facts of defs and classes, in bundles -/
def NoAll (K : PySem.W.Frag) (C : Addr) : List Str → Prop
  | [] => True
  | n :: r => NoAttr K C n ∧ NoAll K C r
structure DefT (K : PySem.W.Frag) (mg : Str → Option Value) (x : Str) (st : Stmt) (f : Addr) (ps : List Str) : Prop where
  ex : ∃ fd, Fun K x x st f fd ∧ Binds K fd ps []
  gl : mg x = some (.ref f)
/-- a def that another name stands for -/
structure DefA (K : PySem.W.Frag) (mg : Str → Option Value) (g x : Str) (st : Stmt) (f : Addr) (ps : List Str) : Prop where
  ex : ∃ fd, Fun K x x st f fd ∧ Binds K fd ps []
  gl : mg g = some (.ref f)
/-- a def with defaults -/
structure DflT (K : PySem.W.Frag) (mg : Str → Option Value) (x : Str) (st : Stmt) (f : Addr) (ps : List Str) (dvs : List V) : Prop where
  ex : ∃ fd, FunD K x x (defArgs st) (defBody st) (defScope st) dvs [] f fd ∧ Binds K fd ps [] ∧ ∃ ds, Vals dvs ds ∧ Binds K fd ps ds
  gl : mg x = some (.ref f)
structure MetT (K : PySem.W.Frag) (C : Addr) (m qual : Str) (st : Stmt) (f : Addr) (ps : List Str) : Prop where
  ex : ∃ fd, Fun K m qual st f fd ∧ Binds K fd ps []
  me : Meth K C m f
structure ClsT (K : PySem.W.Frag) (mg : Str → Option Value) (x qual : Str) (C f : Addr) (ns : List Str) (st : Stmt) (ps : List Str) : Prop where
  cl : Cls K C
  no : NoAll K C ns
  mak : Mk K C f
  gl : mg x = some (.ref C)
  ini : ∃ fd, Fun K "__init__" qual st f fd ∧ Binds K fd ps []
  cla : PySem.W.findIn K (.ref C) "__class__" = some (some (.builtin "object.__class__"))
  mro : PySem.W.mroIn K C (.type "object") = some true
/-- a def keeps its promise -/
structure OkD (P : Program) (w : World) (K : PySem.W.Frag) (mg : Str → Option Value) (base : Heap) (CX : CXT) (k : Nat) (f : Addr) (ps : List Str) (sp : Sp) : Prop where
  ex : ∃ fd, FnOk P w K mg base CX k f fd ps sp ∧ Binds K fd ps []
  kp : PySem.W.keepIn K (.ref f) = true
/-! ### attributes by place -/
theorem put_new (f : Str) (v : V) : ∀ (ns : List Str) (as : List V), as.length = ns.length → f ∉ ns → putF f v (ns.zip as) = (ns ++ [f]).zip (as ++ [v])
  | [], [], _, _ => rfl
  | n :: ns, a :: as, hl, h => by
    have h1 : ¬ n = f := fun e => h (by rw [e]; exact List.mem_cons_self)
    have h2 : f ∉ ns := fun e => h (List.mem_cons_of_mem _ e)
    show (if n = f then _ else (n, a) :: putF f v (ns.zip as)) = (n, a) :: (ns ++ [f]).zip (as ++ [v])
    rw [if_neg h1, put_new f v ns as (by simpa using hl) h2]
  | [], _ :: _, hl, _ => by simp at hl
  | _ :: _, [], hl, _ => by simp at hl
/-- the place of a name -/
def ixOf (f : Str) : List Str → Option Nat
  | [] => none
  | n :: r => if n = f then some 0 else (ixOf f r).map (· + 1)
theorem put_at (f : Str) (v : V) : ∀ (ns : List Str) (as : List V) (i : Nat), as.length = ns.length → ixOf f ns = some i → putF f v (ns.zip as) = ns.zip (as.set i v)
  | [], _, _, _, h => by cases h
  | _ :: _, [], _, hl, _ => by simp at hl
  | n :: ns, a :: as, i, hl, h => by
    show (if n = f then (n, v) :: ns.zip as else (n, a) :: putF f v (ns.zip as)) = _
    unfold ixOf at h
    by_cases e : n = f
    · rw [if_pos e] at h ⊢
      cases h
      rfl
    · rw [if_neg e] at h ⊢
      cases q : ixOf f ns with
      | none => rw [q] at h; cases h
      | some j =>
        rw [q] at h
        cases h
        rw [put_at f v ns as j (by simpa using hl) q]
        rfl
theorem look_at (f : Str) : ∀ (ns : List Str) (as : List V) (i : Nat), as.length = ns.length → ixOf f ns = some i → (ns.zip as).lookup f = as[i]?
  | [], _, _, _, h => by cases h
  | _ :: _, [], _, hl, _ => by simp at hl
  | n :: ns, a :: as, i, hl, h => by
    unfold ixOf at h
    by_cases e : n = f
    · rw [if_pos e] at h
      cases h
      have hb : (f == n) = true := beq_iff_eq.mpr e.symm
      simp only [List.zip_cons_cons, List.lookup, hb]
      rfl
    · rw [if_neg e] at h
      have hb : (f == n) = false := beq_eq_false_iff_ne.mpr fun q => e q.symm
      cases q : ixOf f ns with
      | none => rw [q] at h; cases h
      | some j =>
        rw [q] at h
        cases h
        simp only [List.zip_cons_cons, List.lookup, hb]
        rw [look_at f ns as j (by simpa using hl) q]
        rfl
theorem look_no (f : Str) : ∀ (ns : List Str) (as : List V), f ∉ ns → (ns.zip as).lookup f = none
  | [], _, _ => rfl
  | _ :: _, [], _ => rfl
  | n :: ns, a :: as, h => by
    have hb : (f == n) = false := beq_eq_false_iff_ne.mpr fun q => h (by rw [q]; exact List.mem_cons_self)
    simp only [List.zip_cons_cons, List.lookup, hb]
    exact look_no f ns as fun e => h (List.mem_cons_of_mem _ e)
/-! ### a new instance of a class whose __init__ stores its arguments -/
def spInit (C : Addr) (ns : List Str) : Sp := fun vs H Q _ => ∃ (p dx : Addr) (as : List V), vs = .ref p :: as ∧ as.length = ns.length ∧ H p = some (.ins C dx []) ∧
  ∀ H', (∀ b, b ≠ p → H' b = H b) → H' p = some (.ins C dx (ns.zip as)) → Q .non H'
/-- from C(..)'s reading to what callers want: a new object, all else as it was -/
theorem made {C : Addr} {ns : List Str} {vs : List V} {H : Hp} {Q : Addr → Hp → Prop} {E : XK} (hl : vs.length = ns.length)
    (h : ∀ x dx H', H x = none → Same H H' → H' x = some (.ins C dx (ns.zip vs)) → Q x H') :
    ∀ x dx, H x = none → H dx = none → dx ≠ x → spInit C ns (.ref x :: (vs ++ [])) (upd (upd H dx (.own x)) x (.ins C dx [])) (fun v H2 => v = .non ∧ Q x H2) E := by
  intro x dx nx ndx ne
  rw [List.append_nil]
  refine ⟨x, dx, vs, rfl, hl, upd_same, fun H' hb hx => ⟨rfl, h x dx H' nx (fun b o e => ?_) hx⟩⟩
  rw [hb b (ne_of_none e nx), upd_ne (ne_of_none e nx), upd_ne (ne_of_none e ndx)]
  exact e
/-! ### what leaves a def -/
section
variable {P : Program} {w : World} {K : PySem.W.Frag} {mg : Str → Option Value} {base : Heap} {N : List Str} {qual : Str} {sc : Scope} {f : Addr} {cdv : Value} {A : Around} {outer : List Env} {s : Shared} {H : Hp} {E : XK}
theorem takesX : Takes (cxOf (L2.CX P w) P w K mg base N qual sc f cdv A outer s H E) (fun cls d _ H => E cls d H) := takes_of rfl rfl rfl rfl
theorem passX : Passes (L2.CX P w) (cxOf (L2.CX P w) P w K mg base N qual sc f cdv A outer s H E) E := passes_call takesX fun _ _ _ _ h => h
theorem ownX : PassesOwn (model P w) (cxOf (L2.CX P w) P w K mg base N qual sc f cdv A outer s H E).A (cxOf (L2.CX P w) P w K mg base N qual sc f cdv A outer s H E).env (cxOf (L2.CX P w) P w K mg base N qual sc f cdv A outer s H E).xe := passes_of rfl
end
/-! ### heaps -/
/-- all but R is as it was -/
def Keep (R : Addr) (H H' : Hp) : Prop := ∀ b o, b ≠ R → H b = some o → H' b = some o
theorem Keep.refl (R : Addr) (H : Hp) : Keep R H H := fun _ _ _ h => h
theorem Keep.trans {R : Addr} {H H1 H2 : Hp} (a : Keep R H H1) (b : Keep R H1 H2) : Keep R H H2 := fun c o n h => b c o n (a c o n h)
theorem Keep.of {R : Addr} {H H' : Hp} (s : Same H H') : Keep R H H' := fun b o _ h => s b o h
theorem Keep.free {R : Addr} {H H' : Hp} {o : HO} (k : Keep R H H') (hR : H' R = some o) {b : Addr} (h : H' b = none) : H b = none := by
  cases q : H b with
  | none => rfl
  | some u =>
    by_cases e : b = R
    · subst e
      rw [hR] at h
      cases h
    · rw [k b u e q] at h
      cases h
/-- a module's constant -/
theorem pgi {X : Cx} {x : Str} {pos : Pos} {i : Int} {t : Tok} (hm : X.mg x = some (.int i t)) (hg : Gl X x := by rfl) (hd : (x == ("__debug__" : Str)) = false := by decide) : PE X (.Name x pos) (tC (.int i)) := pe_glob (v := .int i) hg hm ⟨_, rfl⟩ hd
theorem pgs {X : Cx} {x : Str} {pos : Pos} {z : Str} {t : Tok} (hm : X.mg x = some (.str z t)) (hg : Gl X x := by rfl) (hd : (x == ("__debug__" : Str)) = false := by decide) : PE X (.Name x pos) (tC (.str z)) := pe_glob (v := .str z) hg hm ⟨_, rfl⟩ hd
end HC
namespace HC
open PySem PySem.Spec PyProof.Rows L2
/-! ### promises of defs that take ints and leave the heap alone -/
def spI1 (C : Int → Prop) (g : Int → V) : Sp := fun vs H Q _ => ∃ a : Int, vs = [.int a] ∧ C a ∧ Q (g a) H
def spI2 (C : Int → Int → Prop) (g : Int → Int → V) : Sp := fun vs H Q _ => ∃ a b : Int, vs = [.int a, .int b] ∧ C a b ∧ Q (g a b) H
def spI3 (C : Int → Int → Int → Prop) (g : Int → Int → Int → V) : Sp := fun vs H Q _ => ∃ a b c : Int, vs = [.int a, .int b, .int c] ∧ C a b c ∧ Q (g a b c) H
def spI4 (C : Int → Int → Int → Int → Prop) (g : Int → Int → Int → Int → V) : Sp := fun vs H Q _ => ∃ a b c e : Int, vs = [.int a, .int b, .int c, .int e] ∧ C a b c e ∧ Q (g a b c e) H
def spI5 (C : Int → Int → Int → Int → Int → Prop) (g : Int → Int → Int → Int → Int → V) : Sp := fun vs H Q _ => ∃ a b c e f : Int, vs = [.int a, .int b, .int c, .int e, .int f] ∧ C a b c e f ∧ Q (g a b c e f) H
theorem castI {Q : VK} {H : Hp} {a b : Int} (k : Q (.int a) H) (e : a = b) : Q (.int b) H := e ▸ k
theorem castB {Q : VK} {H : Hp} {a b : Bool} (k : Q (.bl a) H) (e : a = b) : Q (.bl b) H := e ▸ k
/-! ### a call of what an expression gives -/
def FnAt (X : Cx) (k : Nat) (f : Addr) (sp : Sp) : Prop := ∃ j fd ps, j ≤ k ∧ FnOk X.prog X.w X.K X.mg X.base CX0 j f fd ps sp ∧ Binds X.K fd ps [] ∧ PySem.W.keepIn X.K (.ref f) = true
def tCallE (X : Cx) (k : Nat) (tf : TE) (t : TA) : TE := fun σ H Q => tf σ H fun y H1 => ∃ f sp, y = V.ref f ∧ FnAt X k f sp ∧ t σ H1 fun vs H2 => sp vs H2 Q E0
theorem pe_callE {X : Cx} {k : Nat} {fe e : Expr} {es : List Expr} {tf : TE} {t : TA} {pos : Pos} (hr : Room k X.A) (hf : PE X fe tf) (ha : PA X (e :: es) t)
    (ht : eval (.Call fe (e :: es) [] pos) X.env = (do callWith pos (← eval fe X.env) [] (backTo pos (starEach (e :: es) X.env)) (backToKw pos (keywordEach [] X.env))) := by rfl)
    (he : starEach (e :: es) X.env = (false, eval e X.env) :: starEach es X.env := by rfl) (hpl : (backTo pos (starEach es X.env)).any (·.1) = false := by rfl) : PE X (.Call fe (e :: es) [] pos) (tCallE X k tf t) := by
  refine ⟨fun pins s σ H Q I h => ?_⟩
  refine Call_ (thn (hf.run pins s σ H _ I h) fun u s1 ⟨y, H1, I1, ry, f, sp, ey, ⟨j, fd, ps, hj, F, hb, hk⟩, q⟩ => ?_) ht
  subst ey
  obtain rfl : u = Value.ref f := ry
  refine PySem.W.callWith_K (h₀ := X.base) I.ok.mod.kin hk (thn (ha.run pos pins s1 σ H1 _ I1 q) fun us s2 ⟨vs, H2, I2, r, q2⟩ => ⟨I2.kIn, ?_⟩) he hpl
  exact run_fn (dvs := []) (ds := []) F (hr.mono hj) hb .nil pass0 I2 r (by rw [List.append_nil]; exact q2)
/-- a tuple of the text -/
def TupK (K : PySem.W.Frag) (a : Addr) (xs : List V) : Prop := ∀ H, SqT K H a xs
theorem tup_mk {K : PySem.W.Frag} {a : Addr} {dd : Option Addr} {its : Array Value} {n : Nat} {sl : Array (Option Value)} {xs : List V} (l : K.lookup a = some ⟨.type "tuple", dd, .seq its n, sl⟩) (z : its.size ≤ sizeLine) (v : Vals xs its.toList) : TupK K a xs :=
  fun _ => .inr ⟨_, its, n, l, rfl, rfl, z, v⟩
end HC
namespace HC
open PySem PySem.Spec PyProof.Rows L2 LamX NdefX
/-! ### functions that are made while the program runs, and handed on -/
/-- the object at f is a lambda: F its words (F.body is not asked), b its body -/
def LamO (f : Addr) (F : NF) (b : Expr) : HO := .ext fun h => ∃ (od : Option Addr) (sl : Array (Option Value)) (pm ctv : Value),
  h.get? f = some (⟨.type "function", od, .func (PySem.W.kla_fn F.name F.qual F.params b F.scope F.cl pm (.ref F.c) ctv), sl⟩ : Obj)
theorem lamO_ne {f : Addr} {F : NF} {b : Expr} (ps : Array Value) : LamO f F b ≠ .tbl ps := fun z => by
  unfold LamO at z
  cases z
def IsF (H : Hp) (f : Addr) : Prop := (∃ F, H f = some (FnO f F)) ∨ ∃ F b, H f = some (LamO f F b)
theorem IsF.same {H H' : Hp} {f : Addr} (s : Same H H') (h : IsF H f) : IsF H' f := by
  rcases h with ⟨F, e⟩ | ⟨F, b, e⟩
  · exact .inl ⟨F, s _ _ e⟩
  · exact .inr ⟨F, b, s _ _ e⟩
theorem lamO_at {P : Program} {w : World} {H : Hp} {h : Heap} {f : Addr} {F : NF} {b : Expr} (hok : HOk P w H h) (e : H f = some (LamO f F b)) :
    ∃ (od : Option Addr) (sl : Array (Option Value)) (pm ctv : Value), h.get? f = some (⟨.type "function", od, .func (PySem.W.kla_fn F.name F.qual F.params b F.scope F.cl pm (.ref F.c) ctv), sl⟩ : Obj) :=
  (show _ ∧ _ from hok f _ e).1
theorem isF_at {P : Program} {w : World} {H : Hp} {h : Heap} {f : Addr} (hok : HOk P w H h) (e : IsF H f) : PySem.W.FnAt f h := by
  rcases e with ⟨F, e⟩ | ⟨F, b, e⟩
  · obtain ⟨od, sl, d1, d2, d3, z⟩ := fnO_at hok e
    exact ⟨_, od, _, sl, z⟩
  · obtain ⟨od, sl, d1, d2, z⟩ := lamO_at hok e
    exact ⟨_, od, _, sl, z⟩
theorem lam_laid {X : Cx} {pins : List (Addr × Obj)} {σ : L2.St} {H : Hp} {s : Shared} {F : NF} {b : Expr} {o : Obj} {tk : Nat} {pm ctv : Value} (I : Inv X pins σ H s)
    (ho : o = PySem.W.kla_obj F.name F.qual F.params b F.scope F.cl pm F.c ctv) : Inv X pins σ (upd H s.heap.objs.size (LamO s.heap.objs.size F b)) { s with heap := s.heap.push o, toks := tk } := by
  subst ho
  have e : (s.heap.push (PySem.W.kla_obj F.name F.qual F.params b F.scope F.cl pm F.c ctv)).get? s.heap.objs.size = some (PySem.W.kla_obj F.name F.qual F.params b F.scope F.cl pm F.c ctv) := Heap.get?_push_size _ rfl
  refine I.laid (a := s.heap.objs.size) (fun _ _ z => Heap.get?_push_of_some _ z) (Nat.le_refl _) ⟨⟨_, _, pm, ctv, e⟩, ⟨_, e⟩, ?_⟩
  rintro h1 h2 ⟨od, sl, p, t, z⟩ st
  exact ⟨od, sl, p, t, st _ z⟩
/-- the lambda that the context X makes -/
abbrev lamF (X : Cx) (params : Arguments) (scope : Scope) (c : Addr) : NF := ⟨"<lambda>", X.env.qual ++ "<lambda>", params, [], scope, cloFrom X.env.cells scope.names [], c⟩
/-- a lambda as a value: a new object; T is the maker's table -/
def tLamE (T : Addr) (q : Str) (mk : Addr → NF) (b : Expr) : TE := fun _ H Q => TabN H T (fun _ _ => q) ∧
  ∀ (f c : Addr) (H1 : Hp), ExtN H H1 ∧ Keep T H H1 → H f = none → H1 f = some (LamO f (mk c) b) → H1 c = some (CodeO c q) → Q (.ref f) H1
theorem pe_lam {X : Cx} {c T : Addr} {params : Arguments} {body : Expr} {scope : Scope} {pos : Pos} (TB : TabB X.base X.mg c T) (hcode : X.env.code = .ref c) (hdef : defaultsOf params X.env = ([], []))
    (hfree : ∀ y ∈ scope.names, y.2 = .free → X.env.scope.names.lookup y.1 = some .cell ∨ X.env.scope.names.lookup y.1 = some .free) :
    PE X (.Lambda params body scope pos) (tLamE T (X.env.qual ++ "<lambda>") (lamF X params scope) body) := by
  refine ⟨fun pins s σ H Q I hq => ?_⟩
  obtain ⟨⟨ps, hT, h3, hall⟩, go⟩ := hq
  have cap : ∀ y ∈ scope.names, y.2 = .free → ∃ z, X.env.cells.lookup y.1 = some z := fun y hy e => by
    rcases hfree y hy e with k | k
    · exact I.ok.has _ (.inl k)
    · exact I.ok.has _ (.inr k)
  refine PySem.W.kla_eval hdef ?_
  have bT := TB.bm.keeps I.bk
  have oT : s.heap.get? T = some { cls := .none, data := .fields ps } := I.hok T _ hT
  cases hc : codeAmong pos ps.toList with
  | none =>
    refine PySem.W.kla_makeFunction (P := T) (ps := ps) (mg := X.mg) (c := c) (closure_ok cap) I.ok.glob (I.mod.glob.keeps I.bk) hcode (TB.code.keeps I.bk) oT h3 hc TB.gP bT ?_
    intro c1 ctv h1 tk ext ge lt rc tb
    obtain ⟨c2, oc, vs, t, e2, a1, a2, a3⟩ := rc
    cases e2
    have fc : H c1 = none := I.hok.fresh ge
    have I1 := inv_table (t' := tk) (more := #[rawInt pos.line, rawInt pos.col, .ref c1]) (h' := h1) I hT (fun b o hb e => ext b o hb e) tb ge ⟨oc, vs, t, a1, a2, a3⟩
    have ff := I1.hok.fresh (Nat.le_refl _)
    have I2 := lam_laid (F := lamF X params scope c1) (b := body) (tk := tk) (pm := (X.mg "__name__").getD .none) (ctv := ctv) I1 rfl
    refine ⟨.ref h1.objs.size, _, I2, rfl, go h1.objs.size c1 _ ⟨fun b o e n => ?_, fun b o n e => ?_⟩ (I.hok.fresh (Nat.le_trans ge (Nat.le_of_lt lt))) upd_same ?_⟩
    · have e1 : upd (upd H T (.tbl (ps ++ #[rawInt pos.line, rawInt pos.col, .ref c1]))) c1 (CodeO c1 (X.env.qual ++ "<lambda>")) b = some o := by
        rw [upd_ne (ne_of_none e fc), upd_ne (fun z => n ps (by rw [z] at e; exact Option.some.inj (e.symm.trans hT)))]
        exact e
      exact (upd_ne (ne_of_none e1 ff)).trans e1
    · have e1 : upd (upd H T (.tbl (ps ++ #[rawInt pos.line, rawInt pos.col, .ref c1]))) c1 (CodeO c1 (X.env.qual ++ "<lambda>")) b = some o := by
        rw [upd_ne (ne_of_none e fc), upd_ne n]
        exact e
      exact (upd_ne (ne_of_none e1 ff)).trans e1
    · exact (upd_ne (Nat.ne_of_lt lt)).trans upd_same
  | some cv =>
    obtain ⟨c1, e, hco⟩ := hall pos cv hc
    subst e
    refine PySem.W.kla_makeFunctionHit (P := T) (ps := ps) (mg := X.mg) (c := c) (closure_ok cap) I.ok.glob (I.mod.glob.keeps I.bk) hcode (TB.code.keeps I.bk) oT h3 hc bT ?_
    intro ctv h1 tk ext sz
    have I1 : Inv X pins σ H { s with heap := h1, toks := tk } := I.kept ext
    have ff : H h1.objs.size = none := I1.hok.fresh (Nat.le_refl _)
    have I2 := lam_laid (F := lamF X params scope c1) (b := body) (tk := tk) (pm := (X.mg "__name__").getD .none) (ctv := ctv) I1 rfl
    refine ⟨.ref h1.objs.size, _, I2, rfl, go h1.objs.size c1 _ ⟨fun b o e _ => (upd_ne (ne_of_none e ff)).trans e, fun b o _ e => (upd_ne (ne_of_none e ff)).trans e⟩ ff upd_same ?_⟩
    exact (upd_ne (ne_of_none hco ff)).trans hco
/-! ### what a lambda promises (one that captures nothing) -/
structure LOk (P : Program) (w : World) (K : PySem.W.Frag) (mg : Str → Option Value) (base : Heap) (k : Nat) (f : Addr) (F : NF) (b : Expr) (sp : Sp) : Prop where
  run : ∀ (A : Around) (outer : List Env) (s : Shared) (H : Hp) (us : List Value) (vs : List V) (Q : VK), Room k A → Env0 P w K mg base A outer s H → H f = some (LamO f F b) → H F.c = some (CodeO F.c F.qual) →
    Vals vs us → sp vs H Q E0 → codeAny (model P w) A (.call (.ref f) ⟨us, []⟩) (CR CX0 outer P w H s Q E0) s
theorem cells0 {cl : List (Str × Addr)} {h : Heap} {H : Hp} (hcl : cl = []) : CellsAt cl [] [] h H := by
  subst hcl
  exact ⟨rfl, fun _ _ e => (nomatch e), fun _ _ _ e => (nomatch e), fun _ _ e => (by simp at e)⟩
section
variable {P : Program} {w : World} {K : PySem.W.Frag} {mg : Str → Option Value} {base : Heap} {k kt : Nat} {f g : Addr} {F : NF} {b : Expr} {sp : Sp}
theorem LOk.mono (o : LOk P w K mg base k f F b sp) (h : k ≤ kt) : LOk P w K mg base kt f F b sp := ⟨fun A outer s H us vs Q hr => o.run A outer s H us vs Q (hr.mono h)⟩
theorem lok_of {N ps : List Str} (S : NScope N ps [] F.scope) (hcl : F.cl = []) (hb : ∀ (pm cv ctv : Value) (us : List Value), us.length = ps.length → bindArgs (PySem.W.kla_fn F.name F.qual F.params b F.scope F.cl pm cv ctv) ⟨us, []⟩ = pure (ps.zip us))
    (len : ∀ vs H Q E, sp vs H Q E → vs.length = ps.length)
    (hbody : ∀ (A : Around) (outer : List Env) (s : Shared) (H : Hp) (vs : List V) (Q : VK), Room k (A.deeper (envF F f s.heap.objs.size)) → sp vs H Q E0 →
      ∃ t, PE (ncx CX0 P w K mg base N F f A outer s H E0) b t ∧ t (startF N vs []) H Q) : LOk P w K mg base (k + 1) f F b sp := by
  refine ⟨fun A outer s H us vs Q hr e0 hf hc r q => ?_⟩
  have hl := len _ _ _ _ q
  have lim : s.heap.NoLimit := e0.mod.nolimit.keeps fun b o e => (e0.bs b o e).1
  obtain ⟨od, sl, pm, ctv, ho⟩ := lamO_at e0.hok hf
  refine PySem.W.kla_callFunE hr.depth ho rfl S.co S.gen rfl (codeO_at e0.hok hc) ?_
  rw [hb pm (.ref F.c) ctv us (by rw [← r.length]; exact hl)]
  refine wpAny_pure (wpAny_newFunctionEnv S.nocell (fun y hy => S.par y.1 (List.of_mem_zip hy).1) ?_ S.kind)
  intro h1 hns hsb
  refine ⟨lim.fresh _ hsb, ?_⟩
  show codeAny _ _ (.expr b (envF F f s.heap.objs.size)) _ _
  have kp : ∀ a o, s.heap.get? a = some o → h1.get? a = some o := fun a o e => hsb.extBut a o (Nat.ne_of_lt (Heap.lt_size e)) (Heap.get?_push_of_some _ e)
  obtain ⟨t, ht, hq⟩ := hbody A outer s H vs Q (hr.deeper _) q
  have I : Inv (ncx CX0 P w K mg base N F f A outer s H E0) [] (startF N vs []) H { s with heap := h1, toks := s.toks + (ps.zip us).length } := inv_startN S hr.hd e0 hl r (cells0 hcl) hns kp
  refine PySem.W.kla_codeExpr (wpAny_mono (ht.run [] _ (startF N vs []) H Q I hq) ?_ fun e s' z => z)
  rintro u s1 ⟨v, H1, J, rv, z⟩
  exact ⟨v, H1, J.os, J.bare, J.base, J.hok, rv, z⟩
/-! ### what is handed on: its promise from a state on -/
structure Tells (P : Program) (w : World) (K : PySem.W.Frag) (mg : Str → Option Value) (base : Heap) (k : Nat) (f : Addr) (fs : List Addr) (H0 : Hp) (h0 : Heap) (sp : Sp) : Prop where
  run : ∀ (A : Around) (outer : List Env) (s : Shared) (H : Hp) (us : List Value) (vs : List V) (Q : VK), Room k A → Env0 P w K mg base A outer s H → Un fs [] H0 H h0 s.heap → Vals vs us → sp vs H Q E0 →
    codeAny (model P w) A (.call (.ref f) ⟨us, []⟩) (CR CX0 outer P w H s Q E0) s
/-- a lambda's promise, with the lambda in the heap -/
def spLam (f : Addr) (F : NF) (b : Expr) (sp : Sp) : Sp := fun vs H Q E => H f = some (LamO f F b) ∧ H F.c = some (CodeO F.c F.qual) ∧ sp vs H Q E
theorem LOk.tells (o : LOk P w K mg base k f F b sp) (fs : List Addr) (H0 : Hp) (h0 : Heap) : Tells P w K mg base k f fs H0 h0 (spLam f F b sp) :=
  ⟨fun A outer s H us vs Q hr e0 _ r q => o.run A outer s H us vs Q hr e0 q.1 q.2.1 r q.2.2⟩
def spNf (f : Addr) (F : NF) (ws : List (Option V)) (sp : List (Option V) → Sp) : Sp := fun vs H Q E => H f = some (FnO f F) ∧ H F.c = some (CodeO F.c F.qual) ∧ sp ws vs H Q E
theorem cells_un {cl : List (Str × Addr)} {fr : List Str} {ws : List (Option V)} {fs : List Addr} {H H1 : Hp} {h h1 : Heap} (c : CellsAt cl fr ws h H) (u : Un fs [] H H1 h h1) : CellsAt cl fr ws h1 H1 := by
  have kp : ∀ y a, cl.lookup y = some a → ∀ v, h.IsCell a v → h1.IsCell a v := fun y a e v ⟨o, ho, hd⟩ => by
    obtain ⟨sl, z⟩ := u.any ho (c.all y a e).1 (by simp)
    exact ⟨_, z, hd⟩
  refine ⟨c.len, fun y a e => ?_, c.inj, fun i y e => ?_⟩
  · obtain ⟨n, v, z⟩ := c.all y a e
    refine ⟨?_, v, kp y a e v z⟩
    obtain ⟨o, ho, _⟩ := z
    exact u.free a o ho n (by simp)
  · obtain ⟨a, ha, hv⟩ := c.has i y e
    refine ⟨a, ha, fun v ev => ?_⟩
    obtain ⟨x, rx, z⟩ := hv v ev
    exact ⟨x, rx, kp y a ha _ z⟩
theorem nok_tells {ps fr : List Str} {ws : List (Option V)} {spn : List (Option V) → Sp} {fs : List Addr} {H0 : Hp} {h0 : Heap} (o : NOk P w K mg base CX0 k f F ps fr spn) (c : CellsAt F.cl fr ws h0 H0) : Tells P w K mg base k f fs H0 h0 (spNf f F ws spn) :=
  ⟨fun A outer s H us vs Q hr e0 un r q => o.run A outer s H us vs ws Q E0 hr e0 q.1 q.2.1 (cells_un c un) r q.2.2⟩
/-- a def that is handed a function f: SP f sp, sp what f promises -/
structure GivOk (P : Program) (w : World) (K : PySem.W.Frag) (mg : Str → Option Value) (base : Heap) (k kt : Nat) (g : Addr) (fd : FuncData) (ps : List Str) (SP : Addr → Sp → Sp) : Prop where
  len : ∀ f sp vs H Q E, SP f sp vs H Q E → vs.length = ps.length
  run : ∀ (A : Around) (outer : List Env) (s : Shared) (H : Hp) (args : Args) (us : List Value) (vs : List V) (Q : VK) (f : Addr) (sp : Sp), Room k A → Env0 P w K mg base A outer s H → Tells P w K mg base kt f (frs outer) H s.heap sp →
    BindsTo s fd args (ps.zip us) → Vals vs us → SP f sp vs H Q E0 → codeAny (model P w) A (.call (.ref g) args) (CR CX0 outer P w H s Q E0) s
theorem giv_of {x qual : Str} {st : Stmt} {fd : FuncData} {N ps : List Str} {SP : Addr → Sp → Sp} (D : Fun K x qual st g fd) (S : FnScope N ps (defScope st)) (len : ∀ f sp vs H Q E, SP f sp vs H Q E → vs.length = ps.length)
    (hbody : ∀ (cdv : Value) (A : Around) (outer : List Env) (s : Shared) (H : Hp) (vs : List V) (Q : VK) (f : Addr) (sp : Sp), Room k (A.deeper (envOfC qual (defScope st) s.heap.objs.size g cdv)) → Tells P w K mg base kt f (frs outer) H s.heap sp → SP f sp vs H Q E0 →
      ∃ t, PSs (cxOf CX0 P w K mg base N qual (defScope st) g cdv A outer s H E0).nox (defBody st) t ∧ t { nx := fun _ H' => Q .non H', rt := Q } (start N vs) H) : GivOk P w K mg base (k + 1) kt g fd ps SP := by
  obtain ⟨oc, od, kV, doc, pm, an, cdv, ct, osl, rfl, lk, hcd⟩ := D.ex
  refine ⟨len, fun A outer s H args us vs Q f sp hr e0 tl hb r q => ?_⟩
  refine LamX.run_ofS (N := N) lk hcd S hr e0 hb r (len _ _ _ _ _ _ q) fun hr2 => ?_
  obtain ⟨t, h1, h2⟩ := hbody cdv A outer s H vs Q f sp hr2 tl q
  exact ⟨t, h1.nox, h2⟩
end
section
variable {X : Cx} {k kt i : Nat} {g : Addr} {fd : FuncData} {ps : List Str} {SP : Addr → Sp → Sp} {x : Str} {p pos : Pos} {e : Expr} {es : List Expr} {t : TA}
/-- x(..), x the name that holds what was handed on -/
def tTell (i : Nat) (f : Addr) (sp : Sp) (t : TA) : TE := fun σ H Q => σ[i]? = some (some (.ref f)) ∧ IsF H f ∧ t σ H fun vs H1 => IsF H1 f ∧ sp vs H1 Q E0
theorem pe_tell {f : Addr} {sp : Sp} (T : Tells X.prog X.w X.K X.mg X.base kt f X.fs X.H_0 X.s_0.heap sp) (hex : X.ex = []) (hr : Room kt X.A) (hN : X.N[i]? = some x) (hv : Vis X.env.scope x) (ha : PA X (e :: es) t)
    (hd : (x == ("__debug__" : Str)) = false := by decide) (hcd : (x == ("__classdict__" : Str)) = false := by decide)
    (he : starEach (e :: es) X.env = (false, eval e X.env) :: starEach es X.env := by rfl) (hpl : (backTo pos (starEach es X.env)).any (·.1) = false := by rfl) : PE X (.Call (.Name x p) (e :: es) [] pos) (tTell i f sp t) := by
  refine ⟨fun pins s σ H Q I hq => ?_⟩
  obtain ⟨hs, hF, ht⟩ := hq
  refine wpAny_Call_Name_kw (thn ((pe_var (pos := p) hN hv hd hcd).run pins s σ H (fun v H1 => v = .ref f ∧ H1 = H) I ⟨.ref f, hs, rfl, rfl⟩) ?_)
  rintro u s1 ⟨v, H1, I1, r1, e1, e2⟩
  subst e1 e2
  obtain rfl : u = Value.ref f := r1
  refine PySem.W.callWith_F (first := []) (isF_at I1.hok hF) (thn (ha.run pos pins s1 σ _ _ I1 ht) ?_) he hpl
  rintro us s2 ⟨vs, H2, I2, r, hF2, q⟩
  refine ⟨isF_at I2.hok hF2, ?_⟩
  show wpAny _ _ (call (.ref f) us) _ _ _
  have un := I2.base
  rw [hex] at un
  refine wpAny_call (codeAny_mono (T.run X.A X.stack s2 H2 us vs Q hr I2.env0 un r q) fun r' s' z => ?_)
  cases r' with
  | error e => exact (show False from z).elim
  | ok fl =>
    cases fl with
    | ret u => exact I2.after z
    | next => exact (show False from z).elim
    | brk => exact (show False from z).elim
    | cont => exact (show False from z).elim
/-- .. that holds a lambda, wherever -/
def tTellL (X : Cx) (kt i : Nat) (t : TA) : TE := fun σ H Q => ∃ (f : Addr) (F : NF) (b : Expr) (sp : Sp), σ[i]? = some (some (.ref f)) ∧ LOk X.prog X.w X.K X.mg X.base kt f F b sp ∧ IsF H f ∧ t σ H fun vs H1 => spLam f F b sp vs H1 Q E0
theorem pe_tellL (hr : Room kt X.A) (hN : X.N[i]? = some x) (hv : Vis X.env.scope x) (ha : PA X (e :: es) t)
    (hd : (x == ("__debug__" : Str)) = false := by decide) (hcd : (x == ("__classdict__" : Str)) = false := by decide)
    (he : starEach (e :: es) X.env = (false, eval e X.env) :: starEach es X.env := by rfl) (hpl : (backTo pos (starEach es X.env)).any (·.1) = false := by rfl) : PE X (.Call (.Name x p) (e :: es) [] pos) (tTellL X kt i t) := by
  refine ⟨fun pins s σ H Q I hq => ?_⟩
  obtain ⟨f, F, b, sp, hs, L, hF, ht⟩ := hq
  refine wpAny_Call_Name_kw (thn ((pe_var (pos := p) hN hv hd hcd).run pins s σ H (fun v H1 => v = .ref f ∧ H1 = H) I ⟨.ref f, hs, rfl, rfl⟩) ?_)
  rintro u s1 ⟨v, H1, I1, r1, e1, e2⟩
  subst e1 e2
  obtain rfl : u = Value.ref f := r1
  refine PySem.W.callWith_F (first := []) (isF_at I1.hok hF) (thn (ha.run pos pins s1 σ _ _ I1 ht) ?_) he hpl
  rintro us s2 ⟨vs, H2, I2, r, q1, q2, q3⟩
  refine ⟨isF_at I2.hok (.inr ⟨F, b, q1⟩), ?_⟩
  show wpAny _ _ (call (.ref f) us) _ _ _
  refine wpAny_call (codeAny_mono (L.run X.A X.stack s2 H2 us vs Q hr I2.env0 q1 q2 r q3) fun r' s' z => ?_)
  cases r' with
  | error e => exact (show False from z).elim
  | ok fl =>
    cases fl with
    | ret u => exact I2.after z
    | next => exact (show False from z).elim
    | brk => exact (show False from z).elim
    | cont => exact (show False from z).elim
/-- the callee, handed what tells sp -/
theorem run_giv {pins : List (Addr × Obj)} {σ : L2.St} {H : Hp} {s : Shared} {Q : VK} {us : List Value} {vs : List V} {f : Addr} {sp : Sp} (G : GivOk X.prog X.w X.K X.mg X.base k kt g fd ps SP) (hr : Room k X.A) (hb : Binds X.K fd ps []) (I : Inv X pins σ H s)
    (T : Tells X.prog X.w X.K X.mg X.base kt f (frs X.stack) H s.heap sp) (r : Vals vs us) (q : SP f sp vs H Q E0) : wpAny (model X.prog X.w) X.A (call (.ref g) us) (EP X pins σ Q) X.xe s := by
  have hl : us.length = ps.length := by rw [← r.length]; exact G.len _ _ _ _ _ _ q
  have bb := hb s us I.kIn (by rw [List.append_nil]; exact hl)
  rw [List.append_nil] at bb
  refine wpAny_call (codeAny_mono (G.run X.A X.stack s H ⟨us, []⟩ us vs Q f sp hr I.env0 T bb r q) fun r' s' z => ?_)
  cases r' with
  | error e => exact (show False from z).elim
  | ok fl =>
    cases fl with
    | ret u => exact I.after z
    | next => exact (show False from z).elim
    | brk => exact (show False from z).elim
    | cont => exact (show False from z).elim
/-- x(.., a lambda) -/
def tGivL (X : Cx) (kt : Nat) (SP : Addr → Sp → Sp) (t : TA) : TE := fun σ H Q => t σ H fun vs H1 => ∃ (f : Addr) (F : NF) (b : Expr) (sp : Sp), LOk X.prog X.w X.K X.mg X.base kt f F b sp ∧ SP f (spLam f F b sp) vs H1 Q E0
theorem pe_givL (G : GivOk X.prog X.w X.K X.mg X.base k kt g fd ps SP) (hr : Room k X.A) (hg : Gl X x) (hm : X.mg x = some (.ref g)) (hk : PySem.W.keepIn X.K (.ref g) = true) (hb : Binds X.K fd ps []) (ha : PA X (e :: es) t)
    (hdb : (x == ("__debug__" : Str)) = false := by decide) (he : starEach (e :: es) X.env = (false, eval e X.env) :: starEach es X.env := by rfl) (hpl : (backTo pos (starEach es X.env)).any (·.1) = false := by rfl) :
    PE X (.Call (.Name x p) (e :: es) [] pos) (tGivL X kt SP t) := by
  refine ⟨fun pins s σ H Q I hq => ?_⟩
  refine wpAny_Call_Name_kw (ld_glob I hg hm ?_ hdb)
  refine PySem.W.callWith_K (h₀ := X.base) I.ok.mod.kin hk (thn (ha.run pos pins s σ H _ I hq) ?_) he hpl
  rintro us s1 ⟨vs, H1, I1, r, f, F, b, sp, L, q⟩
  exact ⟨I1.kIn, run_giv G hr hb I1 (L.tells _ _ _) r q⟩
/-- x(.., f), f a name that holds a def made here; js: where what it captured stands -/
def tGivN (X : Cx) (kt : Nat) (SP : Addr → Sp → Sp) (mk : Addr → NF) (fps fr : List Str) (js : List Nat) (t : TA) : TE := fun σ H Q => t σ H fun vs H1 => ∃ (f c : Addr) (spn : List (Option V) → Sp),
  NOk X.prog X.w X.K X.mg X.base CX0 kt f (mk c) fps fr spn ∧ SP f (spNf f (mk c) (js.map (slotAt σ)) spn) vs H1 Q E0
theorem pe_givN {mk : Addr → NF} {cl : List (Str × Addr)} {fps fr : List Str} {js : List Nat} (G : GivOk X.prog X.w X.K X.mg X.base k kt g fd ps SP) (hcl : ∀ c, (mk c).cl = cl) (cp : X.Ok → Caps X cl fr js) (hr : Room k X.A) (hg : Gl X x) (hm : X.mg x = some (.ref g)) (hk : PySem.W.keepIn X.K (.ref g) = true)
    (hb : Binds X.K fd ps []) (ha : PA X (e :: es) t)
    (hdb : (x == ("__debug__" : Str)) = false := by decide) (he : starEach (e :: es) X.env = (false, eval e X.env) :: starEach es X.env := by rfl) (hpl : (backTo pos (starEach es X.env)).any (·.1) = false := by rfl) :
    PE X (.Call (.Name x p) (e :: es) [] pos) (tGivN X kt SP mk fps fr js t) := by
  refine ⟨fun pins s σ H Q I hq => ?_⟩
  refine wpAny_Call_Name_kw (ld_glob I hg hm ?_ hdb)
  refine PySem.W.callWith_K (h₀ := X.base) I.ok.mod.kin hk (thn (ha.run pos pins s σ H _ I hq) ?_) he hpl
  rintro us s1 ⟨vs, H1, I1, r, f, c, spn, L, q⟩
  have cs := cells_of I1 (cp I1.ok)
  rw [← hcl c] at cs
  exact ⟨I1.kIn, run_giv G hr hb I1 (nok_tells L cs) r q⟩
end
/-- from the lambda's object to the reading of the call that it is handed to -/
theorem lam_given {P : Program} {w : World} {K : PySem.W.Frag} {mg : Str → Option Value} {base : Heap} {kt : Nat} {SP : Addr → Sp → Sp} {f : Addr} {F : NF} {b : Expr} {sp : Sp} {vs : List V} {H : Hp} {Q : VK} (_h : H f = some (LamO f F b)) (L : LOk P w K mg base kt f F b sp)
    (q : SP f (spLam f F b sp) vs H Q E0) : ∃ (f : Addr) (F : NF) (b : Expr) (sp : Sp), LOk P w K mg base kt f F b sp ∧ SP f (spLam f F b sp) vs H Q E0 := ⟨f, F, b, sp, L, q⟩
theorem extN_seq {K : PySem.W.Frag} {H H' : Hp} {a : Addr} {xs : List V} (e : ExtN H H') (h : SqL K H a xs) : SqL K H' a xs := by
  rcases h with (h | ⟨o, h⟩) | h
  · exact .inl (.inl (e _ _ h fun _ z => by cases z))
  · exact .inl (.inr ⟨o, e _ _ h fun _ z => by cases z⟩)
  · exact .inr h
/-- a def that makes functions, with its code object -/
structure MakT (K : PySem.W.Frag) (x : Str) (st : Stmt) (f c t : Addr) : Prop where
  ex : ∃ oc od kV doc pm an ct osl, K.lookup f = some ⟨oc, od, .func (PySem.W.fnOf x x (defArgs st) (defBody st) (defScope st) .none kV doc pm an (.ref c) ct), osl⟩ ∧ PySem.W.codeIn K (.ref c) x = true
  hd : PySem.W.codeHdIn K c t = true
theorem mak_ok {P : Program} {w : World} {K : PySem.W.Frag} {mg : Str → Option Value} {base : Heap} {x : Str} {st : Stmt} {f c tb : Addr} {fd : FuncData} {N ps : List Str} {k : Nat} {sp : Sp} (F : Fun K x x st f fd) (M : MakT K x st f c tb) (S : FnScope N ps (defScope st)) (len : ∀ vs H Q E, sp vs H Q E → vs.length = ps.length)
    (hbody : ∀ (A : Around) (outer : List Env) (s : Shared) (H : Hp) (vs : List V) (Q : VK) (E : XK), Room k (A.deeper (envOfC x (defScope st) s.heap.objs.size f (.ref c))) → sp vs H Q E →
      ∃ t, PSs (cxOf CX0 P w K mg base N x (defScope st) f (.ref c) A outer s H E).nox (defBody st) t ∧ t { nx := fun _ H' => Q .non H', rt := Q } (start N vs) H) : FnOk P w K mg base CX0 (k + 1) f fd ps sp := by
  obtain ⟨oc, od, kV, doc, pm, an, ct, osl, lk, hcd⟩ := M.ex
  obtain ⟨oc', od', kV', doc', pm', an', cdv', ct', osl', rfl, lk', hcd'⟩ := F.ex
  rw [lk'] at lk
  injection lk with lk
  injection lk with e1 e2 e3 e4
  injection e3 with e3
  injection e3 with e3 e5 e6 e7 e8 e9 e10 e11 e12 e13 e14 e15 e16 e17 e18
  subst e16
  refine fn_of lk' hcd' S len fun A outer s H vs Q E hr hsp => ?_
  obtain ⟨t, h1, h2⟩ := hbody A outer s H vs Q E hr hsp
  exact ⟨t, h1.nox, h2⟩
end HC
namespace HC
open PySem PySem.Spec PyProof.Rows L2 LamX
open PySem.W (WData Codec OpenSpec WellAll ReadsW)
/-! ### a Spec row's call where tables of code objects may grow (defs that make functions) -/
theorem SqT_same {K : PySem.W.Frag} {H H' : Hp} {a : Addr} {xs : List V} (e : Same H H') (h : SqT K H a xs) : SqT K H' a xs := by
  rcases h with (h | ⟨o, h⟩) | h
  · exact .inl (.inl (e _ _ h))
  · exact .inl (.inr ⟨o, e _ _ h⟩)
  · exact .inr h
mutual
theorem Dw_same {K : PySem.W.Frag} {H H' : Hp} (e : Same H H') : ∀ {v : V} {x : WData}, Dw K H v x → Dw K H' v x
  | _, _, .non => .non
  | _, _, .bl b => .bl b
  | _, _, .int i => .int i
  | _, _, .str x => .str x
  | _, _, .byt b => .byt b
  | _, _, .lst h t => .lst (e.seq h) (DwAll_same e t)
  | _, _, .tup h t => .tup (SqT_same e h) (DwAll_same e t)
theorem DwAll_same {K : PySem.W.Frag} {H H' : Hp} (e : Same H H') : ∀ {vs : List V} {xs : List WData}, DwAll K H vs xs → DwAll K H' vs xs
  | _, _, .nil => .nil
  | _, _, .cons h t => .cons (Dw_same e h) (DwAll_same e t)
end
/-- an empty table, in the concrete heap -/
abbrev tab0 : Obj := { cls := .none, data := .fields #[] }
/-- the tracked heap at the entry: the arguments, and the tables -/
def withTabs (ts : List Addr) (G : Hp) : Hp := fun b => if b ∈ ts then some (.tbl #[]) else G b
theorem withTabs_in {ts : List Addr} {G : Hp} {b : Addr} (h : b ∈ ts) : withTabs ts G b = some (.tbl #[]) := if_pos h
theorem withTabs_out {ts : List Addr} {G : Hp} {b : Addr} (h : b ∉ ts) : withTabs ts G b = G b := if_neg h
section
variable {P : Program} {w : World} {K : PySem.W.Frag} {mg mb : Str → Option Value} {CX : CXT} {k : Nat} {fa : Addr} {fd : FuncData} {ps : List Str} {sp : Sp} {z : Shared} {us : List Value} {ds : List WData} {R : PySem.W.WRecords} {cl : Str → Option Addr} {d0 : WData} {cs : List (Addr × Addr)}
theorem call_tabs (KX : K.In z.heap) (hm : z.heap.Ns mainGlobals mg) (hbl : z.heap.Ns builtinsNs mb) (hbb : ∀ x : Str, x ≠ "__name__" → mb x = bootBuiltins x) (lim : z.heap.NoLimit) (gen : z.gens = #[])
    (tb : ∀ p ∈ cs, z.heap.get? p.2 = some tab0) (tn : ∀ p ∈ cs, K.lookup p.2 = none) (tc : ∀ p ∈ cs, PySem.W.CodeHd z.heap p.1 p.2)
    (bmn : ∃ (bm : Addr) (ob : Obj), mg "__builtins__" = some (.ref bm) ∧ bm ≠ builtinsNs ∧ z.heap.get? bm = some ob ∧ ob.cls = .type "module" ∧ ob.dict = some builtinsNs ∧ ob.data = .plain)
    (wl : WellAll w.params z.heap us ds) (pl : plWs ds = true) (wt : ∀ x ∈ ds, x.weight ≤ 1048576) (room : Room k callerA)
    (Fn : ∀ base : Heap, K.In base → base.Ns mainGlobals mg → (∀ p ∈ cs, TabB base mg p.1 p.2) → FnOk P w K mg base CX k fa fd ps sp) (bnd : ∀ (s : Shared) (vs : List Value), vs.length = ps.length → BindsTo s fd ⟨vs, []⟩ (ps.zip vs)) (len : ds.length = ps.length)
    (say : ∀ (H : Hp) (xs : List V), (∀ p ∈ cs, H p.2 = some (.tbl #[])) → DwAll K H xs ds → sp xs H (fun v H' => Dw K H' v d0) fun _ _ _ => False)
    (no : ∀ H e s', CX [] H z (fun _ _ _ => False) e s' → False) :
    codeAny (model P w) callerA (.call (.ref fa) ⟨us, []⟩) (fun r s' => ∃ u as, r = .ok (.ret u) ∧ ReadsW R cl s'.heap u d0 as ∧ OldK z.heap s'.heap ∧ s'.os = z.os ∧ AllBare s'.gens) z := by
  obtain ⟨A, okA, ar⟩ := area_all ds us wl pl wt
  have hOF : OnlyF (argH K z.heap A) := argH_only ar
  have hokA : HOk P w (argH K z.heap A) z.heap := argH_ok ar
  have hD := dw_all KX ar ds us wl pl okA
  have hV := vals_toV okA
  have inT : ∀ b, b ∈ cs.map (·.2) → z.heap.get? b = some tab0 ∧ K.lookup b = none := fun b hb => by
    obtain ⟨p, hp, e⟩ := List.mem_map.mp hb
    rw [← e]
    exact ⟨tb p hp, tn p hp⟩
  have mem : ∀ p ∈ cs, p.2 ∈ cs.map (·.2) := fun p hp => List.mem_map.mpr ⟨p, hp, rfl⟩
  have argT : ∀ b u, argH K z.heap A b = some u → b ∉ cs.map (·.2) := fun b u q hb => by
    have e := (inT b hb).1
    obtain ⟨_, vs, _, _, ⟨e2, _⟩ | ⟨e2, _⟩⟩ := argH_is ar q
    · rw [e2] at e
      have y : Data.seq vs.toArray _ = Data.fields #[] := congrArg Obj.data (Option.some.inj e)
      cases y
    · rw [e2] at e
      have y : Data.seq vs.toArray _ = Data.fields #[] := congrArg Obj.data (Option.some.inj e)
      cases y
  have argK : ∀ b u, argH K z.heap A b = some u → K.lookup b = none := fun b u q => (argH_is ar q).1
  have argS : ∀ b u o, argH K z.heap A b = some u → z.heap.get? b = some o → ∃ its n, o.data = .seq its n := fun b u o q e => by
    obtain ⟨_, vs, _, _, ⟨e2, _⟩ | ⟨e2, _⟩⟩ := argH_is ar q <;>
    · rw [e2] at e
      cases e
      exact ⟨_, _, rfl⟩
  generalize argH K z.heap A = G at hOF hokA hD argT argK argS
  have sm : Same G (withTabs (cs.map (·.2)) G) := fun b u q => (withTabs_out (argT b u q)).trans q
  have hok : HOk P w (withTabs (cs.map (·.2)) G) z.heap := fun b u q => by
    by_cases hb : b ∈ cs.map (·.2)
    · rw [withTabs_in hb] at q
      cases q
      exact (inT b hb).1
    · rw [withTabs_out hb] at q
      refine (hokA b u q).stay (fun _ _ _ y => y) (fun y q2 => sm _ _ q2) fun y xs q2 => sm _ _ q2
  have freeD : ∀ {b : Addr} {o : Obj}, z.heap.get? b = some o → (∀ its n, o.data ≠ .seq its n) → o.data ≠ .fields #[] → withTabs (cs.map (·.2)) G b = none := fun {b o} e h1 h2 => by
    by_cases hb : b ∈ cs.map (·.2)
    · rw [(inT b hb).1] at e
      cases e
      exact (h2 rfl).elim
    · rw [withTabs_out hb]
      cases q : G b with
      | none => rfl
      | some u =>
        obtain ⟨its, n, y⟩ := argS b u o q e
        exact (h1 its n y).elim
  have freeK : ∀ b o, K.lookup b = some o → withTabs (cs.map (·.2)) G b = none := fun b o e => by
    by_cases hb : b ∈ cs.map (·.2)
    · rw [(inT b hb).2] at e
      cases e
    · rw [withTabs_out hb]
      cases q : G b with
      | none => rfl
      | some u =>
        rw [argK b u q] at e
        cases e
  have hH : ∀ p ∈ cs, withTabs (cs.map (·.2)) G p.2 = some (.tbl #[]) := fun p hp => withTabs_in (mem p hp)
  have only : ∀ b, b ∉ cs.map (·.2) → withTabs (cs.map (·.2)) G b = none ∨ ∃ o u, withTabs (cs.map (·.2)) G b = some (.frz o u) := fun b hb => by
    rw [withTabs_out hb]
    exact hOF b
  have hD2 := DwAll_same sm hD
  generalize withTabs (cs.map (·.2)) G = H at hok freeD freeK hH only hD2
  have keepB : ∀ {b : Addr} {o : Obj}, z.heap.get? b = some o → H b = none → (hidT z.heap H).get? b = some o := fun e n => hidT_get e n
  have nsB : ∀ {b : Addr} {m : Str → Option Value}, z.heap.Ns b m → (hidT z.heap H).Ns b m := fun {b m} ⟨o, es, ep, e, y, r⟩ =>
    ⟨o, es, ep, keepB e (freeD e (fun its n q => by rw [y] at q; cases q) fun q => by rw [y] at q; cases q), y, r⟩
  have KB : K.In (hidT z.heap H) := fun b o e => keepB (KX b o e) (freeK b o e)
  have md : Mod K mg (hidT z.heap H) := ⟨KB, nsB hm, ⟨mb, nsB hbl, hbb⟩, let ⟨mc, h1, h2⟩ := lim; ⟨mc, nsB h1, h2⟩⟩
  have TB : ∀ p ∈ cs, TabB (hidT z.heap H) mg p.1 p.2 := fun p hp => by
    have hTp := tb p hp
    refine ⟨?_, ?_, fun y => ?_⟩
    · obtain ⟨o, vs, file, tf, fl, tg, inF, text, tt, e1, r1, r2, r3, rest⟩ := tc p hp
      refine ⟨o, vs, file, tf, fl, tg, inF, text, tt, keepB e1 (freeD e1 (fun its n q => ?_) fun q => ?_), r1, r2, r3, rest⟩
      · rw [r2] at q
        cases q
      · rw [r2] at q
        cases q
        simp at r3
    · obtain ⟨bm, ob, b1, b2, b3, b4, b5, b6⟩ := bmn
      have n1 : bm ≠ mainGlobals := fun q => by
        obtain ⟨o, es, ep, e, y, _⟩ := hm
        rw [q, e] at b3
        cases b3
        rw [y] at b6
        cases b6
      have n2 : bm ≠ p.2 := fun q => by
        rw [q, hTp] at b3
        cases b3
        cases b6
      exact ⟨bm, ob, b1, b2, n1, n2, keepB b3 (freeD b3 (fun its n q => by rw [b6] at q; cases q) fun q => by rw [b6] at q; cases q), b4, b5, b6⟩
    · obtain ⟨o, es, ep, e, hd, _⟩ := hm
      rw [y, hTp] at e
      cases e
      cases hd
  have e0 : Env0 P w K mg (hidT z.heap H) callerA [] z H := ⟨rfl, md, fun b o e => of_hidT e, Nat.le_of_eq (hidT_size _ _), trivial, fun b hb => absurd (show b ∈ ([] : List Addr) from hb) (by simp), hok, .of_eq gen⟩
  have hl : us.length = ps.length := by rw [wellAll_len wl]; exact len
  refine codeAny_mono ((Fn _ KB (nsB hm) TB).run callerA [] z H ⟨us, []⟩ us (us.map toV) _ _ room e0 (bnd z us hl) hV (say H _ hH hD2)) fun r s' y => ?_
  cases r with
  | error e => exact (no H e s' y).elim
  | ok fl =>
    cases fl with
    | next => exact False.elim y
    | brk => exact False.elim y
    | cont => exact False.elim y
    | ret u =>
      obtain ⟨v, H', os, bare, un, hok', rv, q⟩ := y
      have kept : ∀ b o, b ∉ cs.map (·.2) → z.heap.get? b = some o → s'.heap.get? b = some o := fun b o nb e => by
        rcases only b nb with n | ⟨ob, u3, n⟩
        · exact un.keep b o e n (by intro y; exact absurd (show b ∈ ([] : List Addr) from y) (by simp)) (by simp)
        · obtain ⟨e1, _⟩ := hok b _ n
          obtain ⟨e2, _⟩ := hok' b _ (un.frzs b ob _ n)
          rw [e] at e1
          cases e1
          exact e2
      have grown : ∀ p ∈ cs, ∃ more : Array Value, s'.heap.get? p.2 = some { cls := .none, data := .fields more } := fun p hp => by
        obtain ⟨more, y⟩ := un.tbls p.2 #[] (hH p hp)
        exact ⟨_, hok' p.2 _ y⟩
      have KX' : K.In s'.heap := fun b o e => kept b o (fun hb => by rw [(inT b hb).2] at e; cases e) (KX b o e)
      obtain ⟨as, rd⟩ := Dw.reads (R := R) (cl := cl) hok' KX' d0 v u q rv
      refine ⟨u, as, rfl, rd, ⟨fun b o e => ?_, fun b o e => ?_⟩, os, bare⟩
      · by_cases hb : b ∈ cs.map (·.2)
        · obtain ⟨p, hp, ep⟩ := List.mem_map.mp hb
          obtain ⟨more, hmo⟩ := grown p hp
          rw [← ep] at e ⊢
          rw [tb p hp] at e
          cases e
          exact .inr (.inl ⟨((tc p hp).tab (tb p hp)).isCodeTable, rfl, #[], more, rfl, by rw [Array.empty_append]; exact hmo⟩)
        · exact .inl (kept b o hb e)
      · by_cases hb : b ∈ cs.map (·.2)
        · obtain ⟨p, hp, ep⟩ := List.mem_map.mp hb
          obtain ⟨more, hmo⟩ := grown p hp
          rw [← ep]
          exact ⟨_, hmo⟩
        · exact ⟨o, kept b o hb e⟩
end
/-- the walk of a Spec row whose written part and tables come with the facts -/
theorem walk_tabs {r : OpenSpec} {k : Nat} {q : Program} {loose : List Str} {XP : (Str → Option Value) → Heap → Prop} {YP : World → Heap → Prop} {dr : DefRec} {CX : CXT} {ps : List Str} {sp : PySem.W.Frag → List (Addr × Addr) → Sp}
    (room : Room k callerA) (well : r.wellSaid = true) (len : r.args.length = ps.length)
    (Fk : ∀ (w : World) (mg : Str → Option Value) (fa : Addr) (h : Heap), YP w h → h.Ns mainGlobals mg → mg dr.name = some (.ref fa) → ∃ (K : PySem.W.Frag) (cs : List (Addr × Addr)), K.In h ∧
      (∀ p ∈ cs, h.get? p.2 = some tab0) ∧ (∀ p ∈ cs, K.lookup p.2 = none) ∧ (∀ p ∈ cs, PySem.W.CodeHd h p.1 p.2) ∧
      ∃ fd : FuncData, (∀ (s : Shared) (us : List Value), us.length = ps.length → BindsTo s fd ⟨us, []⟩ (ps.zip us)) ∧
        ∀ base : Heap, K.In base → base.Ns mainGlobals mg → (∀ p ∈ cs, TabB base mg p.1 p.2) → FnOk r.prog w K mg base CX k fa fd ps (sp K cs))
    (say : ∀ (K : PySem.W.Frag) (cs : List (Addr × Addr)) (H : Hp) (xs : List V) (a : Codec.denoteAll r.args), (∀ p ∈ cs, H p.2 = some (.tbl #[])) → Codec.withinAll r.args a = true → DwAll K H xs (Codec.encAll r.args a) →
      sp K cs xs H (fun v H' => Dw K H' v (r.ret.enc (Codec.app r.args r.f a))) fun _ _ _ => False)
    (no : ∀ (H : Hp) (s : Shared) (e : Value) (s' : Shared), CX [] H s (fun _ _ _ => False) e s' → False) :
    PySem.W.WalkOS q loose XP YP r dr [] (fun f vs => PySem.call f vs) := by
  intro wd sa sb mg mb Gr Yh fa ob pm cd dc dv kv h1 h2 h3 h4 hmg hgn args vals as hpre hlay hrd hwl hlo
  obtain ⟨a, e1, e2⟩ := PySem.W.os_pre_some hpre
  obtain ⟨e3, hwi⟩ := Codec.encAll_of_decAll r.args args a e1
  subst e3
  obtain ⟨K, cs, KX, tb, tn, tc, fd, hbd, hFn⟩ := Fk wd mg fa _ Yh Gr.T.g hmg
  refine PySem.W.enter_call (codeAny_mono (call_tabs (R := []) (cl := classAt sa.heap) (d0 := r.ret.enc (Codec.app r.args r.f a)) KX Gr.T.g Gr.T.b Gr.T.builtins Gr.T.nolimit hgn tb tn tc Gr.T.bmain hwl (pl_encAll _ _) (layable_weight hlay) room hFn hbd
    (by rw [encAll_len]; exact len) (fun H xs hH hS => say K cs H xs a hH hwi hS) fun H e s' => no H sb e s') fun rr s' hq => ?_)
  obtain ⟨u, as', rfl, i1, i2, i3, i4⟩ := hq
  exact ⟨.inl ⟨u, _, as', rfl, fun _ => rfl, i1, (PySem.W.OpenSpec.post_iff well hwi _ _).mpr rfl, fun y => Bool.noConfusion (show false = true from y)⟩, i2, i3, i4⟩
end HC
namespace HC
open PySem PySem.Spec PyProof.Rows L2
def top (i : Nat) : Stmt := PySem.Challenge.pw_heraldcoats_s06_read.main.body.getD i (.Pass ⟨0, 0, 0, 0⟩)
abbrev s_Plain_init : Stmt := inClass (top 12) 0
abbrev s_Parted_init : Stmt := inClass (top 13) 0
abbrev s_Varied_init : Stmt := inClass (top 14) 0
abbrev s_Ordinary_init : Stmt := inClass (top 15) 0
abbrev s_Group_init : Stmt := inClass (top 16) 0
abbrev s_Arms_init : Stmt := inClass (top 17) 0
abbrev s_Mark_init : Stmt := inClass (top 18) 0
abbrev s_Marked_init : Stmt := inClass (top 19) 0
abbrev s_Quarterly_init : Stmt := inClass (top 20) 0
abbrev s_Impaled_init : Stmt := inClass (top 21) 0
abbrev s_Pretence_init : Stmt := inClass (top 22) 0
abbrev s_Cursor_init : Stmt := inClass (top 70) 0
abbrev s_Cursor_sign : Stmt := inClass (top 70) 1
abbrev s_Cursor_skip_blanks : Stmt := inClass (top 70) 2
abbrev s_Cursor_take_sign : Stmt := inClass (top 70) 3
abbrev s_Cursor_take_letters : Stmt := inClass (top 70) 4
abbrev s_Cursor_take_digits : Stmt := inClass (top 70) 5
abbrev s_Token_init : Stmt := inClass (top 75) 0
abbrev s_Tokens_init : Stmt := inClass (top 77) 0
abbrev s_Tokens_peek : Stmt := inClass (top 77) 1
abbrev s_Tokens_take : Stmt := inClass (top 77) 2
abbrev s_Misread_init : Stmt := inClass (top 48) 0
abbrev s_coats_in : Stmt := top 24
abbrev s_field_bytes : Stmt := top 26
abbrev s_fill_bytes : Stmt := top 27
abbrev s_layer_bytes : Stmt := top 28
abbrev s_arms_bytes : Stmt := top 29
abbrev s_canton_bytes : Stmt := top 30
abbrev s_marked_bytes : Stmt := top 31
abbrev s_head_bytes : Stmt := top 32
abbrev s_coat_bytes : Stmt := top 33
abbrev s_article_before : Stmt := top 64
abbrev s_several : Stmt := top 65
abbrev s_text_of : Stmt := top 69
abbrev s_is_number : Stmt := top 71
abbrev s_take_content : Stmt := top 76
abbrev s_take_word : Stmt := top 79
abbrev s_pass_word_blazons : Stmt := top 80
abbrev s_take_name : Stmt := top 82
abbrev s_take_tincture : Stmt := top 83
abbrev s_take_second_tincture : Stmt := top 84
abbrev s_take_pieces : Stmt := top 85
abbrev s_take_line : Stmt := top 86
abbrev s_read_parted : Stmt := top 87
abbrev s_read_varied : Stmt := top 88
abbrev s_read_field : Stmt := top 89
abbrev s_read_fill : Stmt := top 90
abbrev s_take_size : Stmt := top 91
abbrev s_take_manner : Stmt := top 92
abbrev s_read_ordinary : Stmt := top 93
abbrev s_read_group : Stmt := top 94
abbrev s_check_article : Stmt := top 95
abbrev s_read_behind_article : Stmt := top 96
abbrev s_read_layer : Stmt := top 97
abbrev s_read_arms : Stmt := top 98
abbrev s_want_sign : Stmt := top 100
abbrev s_want_sign_behind_blanks : Stmt := top 101
abbrev s_pass_sign : Stmt := top 102
abbrev s_pass_word_reading : Stmt := top 103
abbrev s_read_blazon : Stmt := top 105
abbrev s_take_mark_number : Stmt := top 106
abbrev s_read_mark : Stmt := top 107
abbrev s_read_marks : Stmt := top 108
abbrev s_read_marked : Stmt := top 109
abbrev s_read_quarterly : Stmt := top 110
abbrev s_read_two : Stmt := top 111
abbrev s_read_coats : Stmt := top 112
abbrev s_read_coat : Stmt := top 113
abbrev s_read_words : Stmt := top 114
abbrev s_counted : Stmt := top 116
abbrev s_read : Stmt := top 117
def wTINCTURES : List Str := ["or", "argent", "gules", "azure", "sable", "vert", "purpure", "ermine", "vair"]
def wLINES : List Str := ["", "wavy", "embattled", "indented", "engrailed", "invected"]
def wPARTED_WAYS : List Str := ["per pale", "per fess", "per bend", "per bend sinister", "per chevron", "per saltire", "quarterly", "gyronny"]
def wVARIED_WAYS : List Str := ["barry", "paly", "bendy", "bendy sinister", "chevronny", "chequy", "lozengy"]
def wORDINARIES : List Str := ["chief", "base", "pale", "fess", "bend", "bend sinister", "chevron", "cross", "saltire", "pile", "bordure", "canton", "quarter"]
def wCHARGES : List Str := ["roundel", "annulet", "lozenge", "mascle", "fusil", "billet", "mullet", "crescent", "increscent", "crosslet", "saltorel", "escutcheon", "tower", "sword", "wheel", "arrow"]
def wMANNERS : List Str := ["", "in fess", "in pale", "in bend", "in bend sinister", "in chief", "in base"]
def wSIZES : List Str := ["small", "lesser", "", "great"]
def wCOUNTS : List Str := ["two", "three", "four", "five", "six", "seven", "eight", "nine", "ten"]
/-- where the top has laid what the walk asks for -/
structure Ad where
  cPlain : Addr
  mPlain_init : Addr
  cParted : Addr
  mParted_init : Addr
  cVaried : Addr
  mVaried_init : Addr
  cOrdinary : Addr
  mOrdinary_init : Addr
  cGroup : Addr
  mGroup_init : Addr
  cArms : Addr
  mArms_init : Addr
  cMark : Addr
  mMark_init : Addr
  cMarked : Addr
  mMarked_init : Addr
  cQuarterly : Addr
  mQuarterly_init : Addr
  cImpaled : Addr
  mImpaled_init : Addr
  cPretence : Addr
  mPretence_init : Addr
  cCursor : Addr
  mCursor_init : Addr
  mCursor_sign : Addr
  mCursor_skip_blanks : Addr
  mCursor_take_sign : Addr
  mCursor_take_letters : Addr
  mCursor_take_digits : Addr
  cToken : Addr
  mToken_init : Addr
  cTokens : Addr
  mTokens_init : Addr
  mTokens_peek : Addr
  mTokens_take : Addr
  xMisread : Addr
  xiMisread : Addr
  f_coats_in : Addr
  f_field_bytes : Addr
  f_fill_bytes : Addr
  f_layer_bytes : Addr
  f_arms_bytes : Addr
  f_canton_bytes : Addr
  f_marked_bytes : Addr
  f_head_bytes : Addr
  f_coat_bytes : Addr
  f_article_before : Addr
  f_several : Addr
  f_text_of : Addr
  f_is_number : Addr
  f_take_content : Addr
  f_take_word : Addr
  f_pass_word_blazons : Addr
  f_take_name : Addr
  f_take_tincture : Addr
  f_take_second_tincture : Addr
  f_take_pieces : Addr
  f_take_line : Addr
  f_read_parted : Addr
  f_read_varied : Addr
  f_read_field : Addr
  f_read_fill : Addr
  f_take_size : Addr
  f_take_manner : Addr
  f_read_ordinary : Addr
  f_read_group : Addr
  f_check_article : Addr
  f_read_behind_article : Addr
  f_read_layer : Addr
  f_read_arms : Addr
  f_want_sign : Addr
  f_want_sign_behind_blanks : Addr
  f_pass_sign : Addr
  f_pass_word_reading : Addr
  f_read_blazon : Addr
  f_take_mark_number : Addr
  f_read_mark : Addr
  f_read_marks : Addr
  f_read_marked : Addr
  f_read_quarterly : Addr
  f_read_two : Addr
  f_read_coats : Addr
  f_read_coat : Addr
  f_read_words : Addr
  f_counted : Addr
  f_read : Addr
/-- what the top has written -/
structure Txt (K : PySem.W.Frag) (mg : Str → Option Value) (d : Ad) : Prop where
  kPlain : ClsT K mg "Plain" "Plain.__init__" d.cPlain d.mPlain_init ["tincture"] s_Plain_init ["self", "tincture"]
  kParted : ClsT K mg "Parted" "Parted.__init__" d.cParted d.mParted_init ["way", "line", "first", "second"] s_Parted_init ["self", "way", "line", "first", "second"]
  kVaried : ClsT K mg "Varied" "Varied.__init__" d.cVaried d.mVaried_init ["way", "pieces", "line", "first", "second"] s_Varied_init ["self", "way", "pieces", "line", "first", "second"]
  kOrdinary : ClsT K mg "Ordinary" "Ordinary.__init__" d.cOrdinary d.mOrdinary_init ["figure", "line", "fill"] s_Ordinary_init ["self", "figure", "line", "fill"]
  kGroup : ClsT K mg "Group" "Group.__init__" d.cGroup d.mGroup_init ["charge", "many", "manner", "size", "fill"] s_Group_init ["self", "charge", "many", "manner", "size", "fill"]
  kArms : ClsT K mg "Arms" "Arms.__init__" d.cArms d.mArms_init ["field", "layers"] s_Arms_init ["self", "field", "layers"]
  kMark : ClsT K mg "Mark" "Mark.__init__" d.cMark d.mMark_init ["g", "k"] s_Mark_init ["self", "g", "k"]
  kMarked : ClsT K mg "Marked" "Marked.__init__" d.cMarked d.mMarked_init ["arms", "canton", "marks"] s_Marked_init ["self", "arms", "canton", "marks"]
  kQuarterly : ClsT K mg "Quarterly" "Quarterly.__init__" d.cQuarterly d.mQuarterly_init ["coats"] s_Quarterly_init ["self", "coats"]
  kImpaled : ClsT K mg "Impaled" "Impaled.__init__" d.cImpaled d.mImpaled_init ["dexter", "sinister"] s_Impaled_init ["self", "dexter", "sinister"]
  kPretence : ClsT K mg "Pretence" "Pretence.__init__" d.cPretence d.mPretence_init ["below", "upon"] s_Pretence_init ["self", "below", "upon"]
  kCursor : ClsT K mg "Cursor" "Cursor.__init__" d.cCursor d.mCursor_init ["text", "place"] s_Cursor_init ["self", "text"]
  kCursor_sign : MetT K d.cCursor "sign" "Cursor.sign" s_Cursor_sign d.mCursor_sign ["self"]
  kCursor_skip_blanks : MetT K d.cCursor "skip_blanks" "Cursor.skip_blanks" s_Cursor_skip_blanks d.mCursor_skip_blanks ["self"]
  kCursor_take_sign : MetT K d.cCursor "take_sign" "Cursor.take_sign" s_Cursor_take_sign d.mCursor_take_sign ["self"]
  kCursor_take_letters : MetT K d.cCursor "take_letters" "Cursor.take_letters" s_Cursor_take_letters d.mCursor_take_letters ["self"]
  kCursor_take_digits : MetT K d.cCursor "take_digits" "Cursor.take_digits" s_Cursor_take_digits d.mCursor_take_digits ["self"]
  kToken : ClsT K mg "Token" "Token.__init__" d.cToken d.mToken_init ["content", "place"] s_Token_init ["self", "content", "place"]
  kTokens : ClsT K mg "Tokens" "Tokens.__init__" d.cTokens d.mTokens_init ["cursor", "ahead"] s_Tokens_init ["self", "cursor"]
  kTokens_peek : MetT K d.cTokens "peek" "Tokens.peek" s_Tokens_peek d.mTokens_peek ["self"]
  kTokens_take : MetT K d.cTokens "take" "Tokens.take" s_Tokens_take d.mTokens_take ["self"]
  xMisread : PySem.LowX.LowTxt K mg d.xMisread d.xiMisread
  k_coats_in : DefT K mg "coats_in" s_coats_in d.f_coats_in ["coat"]
  k_field_bytes : DefT K mg "field_bytes" s_field_bytes d.f_field_bytes ["field"]
  k_fill_bytes : DefT K mg "fill_bytes" s_fill_bytes d.f_fill_bytes ["fill"]
  k_layer_bytes : DefT K mg "layer_bytes" s_layer_bytes d.f_layer_bytes ["layer"]
  k_arms_bytes : DefT K mg "arms_bytes" s_arms_bytes d.f_arms_bytes ["arms"]
  k_canton_bytes : DefT K mg "canton_bytes" s_canton_bytes d.f_canton_bytes ["canton"]
  k_marked_bytes : DefT K mg "marked_bytes" s_marked_bytes d.f_marked_bytes ["marked"]
  k_head_bytes : DefT K mg "head_bytes" s_head_bytes d.f_head_bytes ["coat"]
  k_coat_bytes : DefT K mg "coat_bytes" s_coat_bytes d.f_coat_bytes ["coat"]
  k_article_before : DefT K mg "article_before" s_article_before d.f_article_before ["word"]
  k_several : DefT K mg "several" s_several d.f_several ["charge"]
  k_text_of : DefT K mg "text_of" s_text_of d.f_text_of ["numbers"]
  k_is_number : DefT K mg "is_number" s_is_number d.f_is_number ["digits"]
  k_take_content : DefT K mg "take_content" s_take_content d.f_take_content ["cursor"]
  k_take_word : DefT K mg "take_word" s_take_word d.f_take_word ["tokens", "word"]
  k_pass_word_blazons : DefA K mg "pass_word_blazons" "pass_word" s_pass_word_blazons d.f_pass_word_blazons ["tokens", "word"]
  k_take_name : DflT K mg "take_name" s_take_name d.f_take_name ["tokens", "names", "ahead"] [.str ""]
  k_take_tincture : DefT K mg "take_tincture" s_take_tincture d.f_take_tincture ["tokens"]
  k_take_second_tincture : DefT K mg "take_second_tincture" s_take_second_tincture d.f_take_second_tincture ["tokens", "first"]
  k_take_pieces : DefT K mg "take_pieces" s_take_pieces d.f_take_pieces ["tokens"]
  k_take_line : DefT K mg "take_line" s_take_line d.f_take_line ["tokens"]
  k_read_parted : DefT K mg "read_parted" s_read_parted d.f_read_parted ["tokens", "way"]
  k_read_varied : DefT K mg "read_varied" s_read_varied d.f_read_varied ["tokens"]
  k_read_field : DefT K mg "read_field" s_read_field d.f_read_field ["tokens"]
  k_read_fill : DefT K mg "read_fill" s_read_fill d.f_read_fill ["tokens", "field"]
  k_take_size : DefT K mg "take_size" s_take_size d.f_take_size ["tokens"]
  k_take_manner : DefT K mg "take_manner" s_take_manner d.f_take_manner ["tokens"]
  k_read_ordinary : DefT K mg "read_ordinary" s_read_ordinary d.f_read_ordinary ["tokens", "field"]
  k_read_group : DefT K mg "read_group" s_read_group d.f_read_group ["tokens", "many", "names", "field"]
  k_check_article : DefT K mg "check_article" s_check_article d.f_check_article ["article", "token"]
  k_read_behind_article : DefT K mg "read_behind_article" s_read_behind_article d.f_read_behind_article ["tokens", "field"]
  k_read_layer : DefT K mg "read_layer" s_read_layer d.f_read_layer ["tokens", "field"]
  k_read_arms : DefT K mg "read_arms" s_read_arms d.f_read_arms ["tokens"]
  k_want_sign : DefT K mg "want_sign" s_want_sign d.f_want_sign ["cursor", "sign"]
  k_want_sign_behind_blanks : DefT K mg "want_sign_behind_blanks" s_want_sign_behind_blanks d.f_want_sign_behind_blanks ["cursor", "sign"]
  k_pass_sign : DefT K mg "pass_sign" s_pass_sign d.f_pass_sign ["cursor", "sign"]
  k_pass_word_reading : DefA K mg "pass_word_reading" "pass_word" s_pass_word_reading d.f_pass_word_reading ["cursor", "word"]
  k_read_blazon : DefT K mg "read_blazon" s_read_blazon d.f_read_blazon ["cursor"]
  k_take_mark_number : DefT K mg "take_mark_number" s_take_mark_number d.f_take_mark_number ["cursor"]
  k_read_mark : DefT K mg "read_mark" s_read_mark d.f_read_mark ["cursor"]
  k_read_marks : DefT K mg "read_marks" s_read_marks d.f_read_marks ["cursor"]
  k_read_marked : DefT K mg "read_marked" s_read_marked d.f_read_marked ["cursor"]
  k_read_quarterly : DefT K mg "read_quarterly" s_read_quarterly d.f_read_quarterly ["cursor", "depth", "start"]
  k_read_two : DefT K mg "read_two" s_read_two d.f_read_two ["cursor", "depth"]
  k_read_coats : DefT K mg "read_coats" s_read_coats d.f_read_coats ["cursor", "depth"]
  k_read_coat : DefT K mg "read_coat" s_read_coat d.f_read_coat ["cursor", "depth"]
  k_read_words : DefT K mg "read_words" s_read_words d.f_read_words ["numbers"]
  k_counted : DefT K mg "counted" s_counted d.f_counted ["numbers"]
  k_read : DefT K mg "read" s_read d.f_read ["t"]
  nFEWEST_PIECES : ∃ t, mg "FEWEST_PIECES" = some (.int 2 t)
  nMOST_PIECES : ∃ t, mg "MOST_PIECES" = some (.int 24 t)
  nFIRST_STRAIGHT_WAY : ∃ t, mg "FIRST_STRAIGHT_WAY" = some (.int 5 t)
  nMOST_LAYERS : ∃ t, mg "MOST_LAYERS" = some (.int 8 t)
  nMOST_MARKS : ∃ t, mg "MOST_MARKS" = some (.int 60 t)
  nMOST_G : ∃ t, mg "MOST_G" = some (.int 127 t)
  nLEAST_K : ∃ t, mg "LEAST_K" = some (.int 1 t)
  nMOST_K : ∃ t, mg "MOST_K" = some (.int 255 t)
  nFEWEST_QUARTERS : ∃ t, mg "FEWEST_QUARTERS" = some (.int 2 t)
  nMOST_QUARTERS : ∃ t, mg "MOST_QUARTERS" = some (.int 9 t)
  nMOST_DEEP : ∃ t, mg "MOST_DEEP" = some (.int 4 t)
  nFOREIGN_BYTE : ∃ t, mg "FOREIGN_BYTE" = some (.int 1 t)
  nNO_NUMBER : ∃ t, mg "NO_NUMBER" = some (.int 2 t)
  nOTHER_TOKEN : ∃ t, mg "OTHER_TOKEN" = some (.int 3 t)
  nWRONG_PIECES : ∃ t, mg "WRONG_PIECES" = some (.int 4 t)
  nSAME_TINCTURE : ∃ t, mg "SAME_TINCTURE" = some (.int 5 t)
  nCHANGED_OVER_PLAIN : ∃ t, mg "CHANGED_OVER_PLAIN" = some (.int 6 t)
  nWRONG_ARTICLE : ∃ t, mg "WRONG_ARTICLE" = some (.int 7 t)
  nNINTH_LAYER : ∃ t, mg "NINTH_LAYER" = some (.int 8 t)
  nOTHER_SIGN : ∃ t, mg "OTHER_SIGN" = some (.int 10 t)
  nMARK_OUT_OF_BOUNDS : ∃ t, mg "MARK_OUT_OF_BOUNDS" = some (.int 11 t)
  nMARK_TOO_MANY : ∃ t, mg "MARK_TOO_MANY" = some (.int 12 t)
  nTOO_DEEP : ∃ t, mg "TOO_DEEP" = some (.int 13 t)
  nWRONG_QUARTERS : ∃ t, mg "WRONG_QUARTERS" = some (.int 14 t)
  nFIRST_SIZE : ∃ t, mg "FIRST_SIZE" = some (.int 1 t)
  nFIRST_COUNT : ∃ t, mg "FIRST_COUNT" = some (.int 2 t)
  nSTRAIGHT : ∃ t, mg "STRAIGHT" = some (.int 0 t)
  nBY_ROWS : ∃ t, mg "BY_ROWS" = some (.int 0 t)
  nUSUAL_SIZE : ∃ t, mg "USUAL_SIZE" = some (.int 3 t)
  sSIGNS : ∃ t, mg "SIGNS" = some (.str "\n abcdefghijklmnopqrstuvwxyz0123456789,.;()[]" t)
  sFOREIGN_SIGN : ∃ t, mg "FOREIGN_SIGN" = some (.str "?" t)
  sCOMMA : ∃ t, mg "COMMA" = some (.str "," t)
  sEND : ∃ t, mg "END" = some (.str ")" t)
  tTINCTURES : ∃ a, mg "TINCTURES" = some (.ref a) ∧ TupK K a (wTINCTURES.map V.str)
  tLINES : ∃ a, mg "LINES" = some (.ref a) ∧ TupK K a (wLINES.map V.str)
  tPARTED_WAYS : ∃ a, mg "PARTED_WAYS" = some (.ref a) ∧ TupK K a (wPARTED_WAYS.map V.str)
  tVARIED_WAYS : ∃ a, mg "VARIED_WAYS" = some (.ref a) ∧ TupK K a (wVARIED_WAYS.map V.str)
  tORDINARIES : ∃ a, mg "ORDINARIES" = some (.ref a) ∧ TupK K a (wORDINARIES.map V.str)
  tCHARGES : ∃ a, mg "CHARGES" = some (.ref a) ∧ TupK K a (wCHARGES.map V.str)
  tMANNERS : ∃ a, mg "MANNERS" = some (.ref a) ∧ TupK K a (wMANNERS.map V.str)
  tSIZES : ∃ a, mg "SIZES" = some (.ref a) ∧ TupK K a (wSIZES.map V.str)
  tCOUNTS : ∃ a, mg "COUNTS" = some (.ref a) ∧ TupK K a (wCOUNTS.map V.str)
  b_len : mg "len" = none
  b_isinstance : mg "isinstance" = none
  b_list : mg "list" = none
  b_ord : mg "ord" = none
  b_int : mg "int" = none
  gs : PySem.W.specialIn K (.builtin "object.__class__") "__get__" = some (some (.builtin "getset_descriptor.__get__"))
  tk : PySem.W.takesIn K (.builtin "object.__class__") = some true
  iMarked_Impaled : PySem.W.kitOne K (.ref d.cMarked) (.ref d.cImpaled) = some false
  iQuarterly_Impaled : PySem.W.kitOne K (.ref d.cQuarterly) (.ref d.cImpaled) = some false
  iImpaled_Impaled : PySem.W.kitOne K (.ref d.cImpaled) (.ref d.cImpaled) = some true
  iPretence_Impaled : PySem.W.kitOne K (.ref d.cPretence) (.ref d.cImpaled) = some false
  iMarked_Marked : PySem.W.kitOne K (.ref d.cMarked) (.ref d.cMarked) = some true
  iQuarterly_Marked : PySem.W.kitOne K (.ref d.cQuarterly) (.ref d.cMarked) = some false
  iImpaled_Marked : PySem.W.kitOne K (.ref d.cImpaled) (.ref d.cMarked) = some false
  iPretence_Marked : PySem.W.kitOne K (.ref d.cPretence) (.ref d.cMarked) = some false
  iOrdinary_Ordinary : PySem.W.kitOne K (.ref d.cOrdinary) (.ref d.cOrdinary) = some true
  iGroup_Ordinary : PySem.W.kitOne K (.ref d.cGroup) (.ref d.cOrdinary) = some false
  iParted_Parted : PySem.W.kitOne K (.ref d.cParted) (.ref d.cParted) = some true
  iVaried_Parted : PySem.W.kitOne K (.ref d.cVaried) (.ref d.cParted) = some false
  iPlain_Plain : PySem.W.kitOne K (.ref d.cPlain) (.ref d.cPlain) = some true
  iParted_Plain : PySem.W.kitOne K (.ref d.cParted) (.ref d.cPlain) = some false
  iVaried_Plain : PySem.W.kitOne K (.ref d.cVaried) (.ref d.cPlain) = some false
  iMarked_Quarterly : PySem.W.kitOne K (.ref d.cMarked) (.ref d.cQuarterly) = some false
  iQuarterly_Quarterly : PySem.W.kitOne K (.ref d.cQuarterly) (.ref d.cQuarterly) = some true
  iImpaled_Quarterly : PySem.W.kitOne K (.ref d.cImpaled) (.ref d.cQuarterly) = some false
  iPretence_Quarterly : PySem.W.kitOne K (.ref d.cPretence) (.ref d.cQuarterly) = some false
end HC
namespace HC
open PySem PySem.Spec PyProof.Rows L2
section
variable {P : Program} {w : World} {K : PySem.W.Frag} {mg : Str → Option Value} {base : Heap} {d : Ad}
theorem sc_Plain_init : FnScope ["self", "tincture"] ["self", "tincture"] (defScope s_Plain_init) := ⟨rfl, rfl, rfl, by decide +kernel, rfl, by decide +kernel, by decide +kernel⟩
theorem ok_Plain_init (T : Txt K mg d) : OkD P w K mg base CX0 1 d.mPlain_init ["self", "tincture"] (spInit d.cPlain ["tincture"]) := by
  obtain ⟨fd, F, B⟩ := T.kPlain.ini
  refine ⟨⟨fd, F.ok sc_Plain_init (fun vs H Q E h => ?_) (fun cdv A outer s H vs Q E hr h => ?_), B⟩, F.kp⟩
  · obtain ⟨p, dx, as, rfl, hl, _⟩ := h
    rw [List.length_cons, hl]
    rfl
  · obtain ⟨p, dx, as, rfl, hl, hp, k⟩ := h
    match as, hl, k with
    | [a0], _, k =>
    refine ⟨_, pss_one (ps_fld (pv 0) (pv 1) rfl), ?_⟩
    refine ⟨_, rfl, _, rfl, p, d.cPlain, dx, _, rfl, hp, T.kPlain.cl, T.kPlain.no.1, (by decide), ?_⟩
    have e1 : putF "tincture" a0 [] = (["tincture"] : List Str).zip [a0] := rfl
    exact k _ (fun b hb => by rw [upd_ne hb]) (by rw [upd_same, e1])
theorem sc_Parted_init : FnScope ["self", "way", "line", "first", "second"] ["self", "way", "line", "first", "second"] (defScope s_Parted_init) := ⟨rfl, rfl, rfl, by decide +kernel, rfl, by decide +kernel, by decide +kernel⟩
theorem ok_Parted_init (T : Txt K mg d) : OkD P w K mg base CX0 1 d.mParted_init ["self", "way", "line", "first", "second"] (spInit d.cParted ["way", "line", "first", "second"]) := by
  obtain ⟨fd, F, B⟩ := T.kParted.ini
  refine ⟨⟨fd, F.ok sc_Parted_init (fun vs H Q E h => ?_) (fun cdv A outer s H vs Q E hr h => ?_), B⟩, F.kp⟩
  · obtain ⟨p, dx, as, rfl, hl, _⟩ := h
    rw [List.length_cons, hl]
    rfl
  · obtain ⟨p, dx, as, rfl, hl, hp, k⟩ := h
    match as, hl, k with
    | [a0, a1, a2, a3], _, k =>
    refine ⟨_, pss_cons (ps_fld (pv 0) (pv 1) rfl) (pss_cons (ps_fld (pv 0) (pv 2) rfl) (pss_cons (ps_fld (pv 0) (pv 3) rfl) (pss_one (ps_fld (pv 0) (pv 4) rfl)))), ?_⟩
    refine ⟨_, rfl, _, rfl, p, d.cParted, dx, _, rfl, hp, T.kParted.cl, T.kParted.no.1, (by decide), ?_⟩
    have e1 : putF "way" a0 [] = (["way"] : List Str).zip [a0] := rfl
    refine ⟨_, rfl, _, rfl, p, d.cParted, dx, _, rfl, upd_same, T.kParted.cl, T.kParted.no.2.1, (by rw [e1]; show 1 < 1000; decide), ?_⟩
    have e2 : putF "line" a1 (putF "way" a0 []) = (["way", "line"] : List Str).zip [a0, a1] := by
      rw [e1, put_new _ _ _ _ rfl (by decide +kernel)]
      rfl
    refine ⟨_, rfl, _, rfl, p, d.cParted, dx, _, rfl, upd_same, T.kParted.cl, T.kParted.no.2.2.1, (by rw [e2]; show 2 < 1000; decide), ?_⟩
    have e3 : putF "first" a2 (putF "line" a1 (putF "way" a0 [])) = (["way", "line", "first"] : List Str).zip [a0, a1, a2] := by
      rw [e2, put_new _ _ _ _ rfl (by decide +kernel)]
      rfl
    refine ⟨_, rfl, _, rfl, p, d.cParted, dx, _, rfl, upd_same, T.kParted.cl, T.kParted.no.2.2.2.1, (by rw [e3]; show 3 < 1000; decide), ?_⟩
    have e4 : putF "second" a3 (putF "first" a2 (putF "line" a1 (putF "way" a0 []))) = (["way", "line", "first", "second"] : List Str).zip [a0, a1, a2, a3] := by
      rw [e3, put_new _ _ _ _ rfl (by decide +kernel)]
      rfl
    exact k _ (fun b hb => by rw [upd_ne hb, upd_ne hb, upd_ne hb, upd_ne hb]) (by rw [upd_same, e4])
theorem sc_Varied_init : FnScope ["self", "way", "pieces", "line", "first", "second"] ["self", "way", "pieces", "line", "first", "second"] (defScope s_Varied_init) := ⟨rfl, rfl, rfl, by decide +kernel, rfl, by decide +kernel, by decide +kernel⟩
theorem ok_Varied_init (T : Txt K mg d) : OkD P w K mg base CX0 1 d.mVaried_init ["self", "way", "pieces", "line", "first", "second"] (spInit d.cVaried ["way", "pieces", "line", "first", "second"]) := by
  obtain ⟨fd, F, B⟩ := T.kVaried.ini
  refine ⟨⟨fd, F.ok sc_Varied_init (fun vs H Q E h => ?_) (fun cdv A outer s H vs Q E hr h => ?_), B⟩, F.kp⟩
  · obtain ⟨p, dx, as, rfl, hl, _⟩ := h
    rw [List.length_cons, hl]
    rfl
  · obtain ⟨p, dx, as, rfl, hl, hp, k⟩ := h
    match as, hl, k with
    | [a0, a1, a2, a3, a4], _, k =>
    refine ⟨_, pss_cons (ps_fld (pv 0) (pv 1) rfl) (pss_cons (ps_fld (pv 0) (pv 2) rfl) (pss_cons (ps_fld (pv 0) (pv 3) rfl) (pss_cons (ps_fld (pv 0) (pv 4) rfl) (pss_one (ps_fld (pv 0) (pv 5) rfl))))), ?_⟩
    refine ⟨_, rfl, _, rfl, p, d.cVaried, dx, _, rfl, hp, T.kVaried.cl, T.kVaried.no.1, (by decide), ?_⟩
    have e1 : putF "way" a0 [] = (["way"] : List Str).zip [a0] := rfl
    refine ⟨_, rfl, _, rfl, p, d.cVaried, dx, _, rfl, upd_same, T.kVaried.cl, T.kVaried.no.2.1, (by rw [e1]; show 1 < 1000; decide), ?_⟩
    have e2 : putF "pieces" a1 (putF "way" a0 []) = (["way", "pieces"] : List Str).zip [a0, a1] := by
      rw [e1, put_new _ _ _ _ rfl (by decide +kernel)]
      rfl
    refine ⟨_, rfl, _, rfl, p, d.cVaried, dx, _, rfl, upd_same, T.kVaried.cl, T.kVaried.no.2.2.1, (by rw [e2]; show 2 < 1000; decide), ?_⟩
    have e3 : putF "line" a2 (putF "pieces" a1 (putF "way" a0 [])) = (["way", "pieces", "line"] : List Str).zip [a0, a1, a2] := by
      rw [e2, put_new _ _ _ _ rfl (by decide +kernel)]
      rfl
    refine ⟨_, rfl, _, rfl, p, d.cVaried, dx, _, rfl, upd_same, T.kVaried.cl, T.kVaried.no.2.2.2.1, (by rw [e3]; show 3 < 1000; decide), ?_⟩
    have e4 : putF "first" a3 (putF "line" a2 (putF "pieces" a1 (putF "way" a0 []))) = (["way", "pieces", "line", "first"] : List Str).zip [a0, a1, a2, a3] := by
      rw [e3, put_new _ _ _ _ rfl (by decide +kernel)]
      rfl
    refine ⟨_, rfl, _, rfl, p, d.cVaried, dx, _, rfl, upd_same, T.kVaried.cl, T.kVaried.no.2.2.2.2.1, (by rw [e4]; show 4 < 1000; decide), ?_⟩
    have e5 : putF "second" a4 (putF "first" a3 (putF "line" a2 (putF "pieces" a1 (putF "way" a0 [])))) = (["way", "pieces", "line", "first", "second"] : List Str).zip [a0, a1, a2, a3, a4] := by
      rw [e4, put_new _ _ _ _ rfl (by decide +kernel)]
      rfl
    exact k _ (fun b hb => by rw [upd_ne hb, upd_ne hb, upd_ne hb, upd_ne hb, upd_ne hb]) (by rw [upd_same, e5])
theorem sc_Ordinary_init : FnScope ["self", "figure", "line", "fill"] ["self", "figure", "line", "fill"] (defScope s_Ordinary_init) := ⟨rfl, rfl, rfl, by decide +kernel, rfl, by decide +kernel, by decide +kernel⟩
theorem ok_Ordinary_init (T : Txt K mg d) : OkD P w K mg base CX0 1 d.mOrdinary_init ["self", "figure", "line", "fill"] (spInit d.cOrdinary ["figure", "line", "fill"]) := by
  obtain ⟨fd, F, B⟩ := T.kOrdinary.ini
  refine ⟨⟨fd, F.ok sc_Ordinary_init (fun vs H Q E h => ?_) (fun cdv A outer s H vs Q E hr h => ?_), B⟩, F.kp⟩
  · obtain ⟨p, dx, as, rfl, hl, _⟩ := h
    rw [List.length_cons, hl]
    rfl
  · obtain ⟨p, dx, as, rfl, hl, hp, k⟩ := h
    match as, hl, k with
    | [a0, a1, a2], _, k =>
    refine ⟨_, pss_cons (ps_fld (pv 0) (pv 1) rfl) (pss_cons (ps_fld (pv 0) (pv 2) rfl) (pss_one (ps_fld (pv 0) (pv 3) rfl))), ?_⟩
    refine ⟨_, rfl, _, rfl, p, d.cOrdinary, dx, _, rfl, hp, T.kOrdinary.cl, T.kOrdinary.no.1, (by decide), ?_⟩
    have e1 : putF "figure" a0 [] = (["figure"] : List Str).zip [a0] := rfl
    refine ⟨_, rfl, _, rfl, p, d.cOrdinary, dx, _, rfl, upd_same, T.kOrdinary.cl, T.kOrdinary.no.2.1, (by rw [e1]; show 1 < 1000; decide), ?_⟩
    have e2 : putF "line" a1 (putF "figure" a0 []) = (["figure", "line"] : List Str).zip [a0, a1] := by
      rw [e1, put_new _ _ _ _ rfl (by decide +kernel)]
      rfl
    refine ⟨_, rfl, _, rfl, p, d.cOrdinary, dx, _, rfl, upd_same, T.kOrdinary.cl, T.kOrdinary.no.2.2.1, (by rw [e2]; show 2 < 1000; decide), ?_⟩
    have e3 : putF "fill" a2 (putF "line" a1 (putF "figure" a0 [])) = (["figure", "line", "fill"] : List Str).zip [a0, a1, a2] := by
      rw [e2, put_new _ _ _ _ rfl (by decide +kernel)]
      rfl
    exact k _ (fun b hb => by rw [upd_ne hb, upd_ne hb, upd_ne hb]) (by rw [upd_same, e3])
theorem sc_Group_init : FnScope ["self", "charge", "many", "manner", "size", "fill"] ["self", "charge", "many", "manner", "size", "fill"] (defScope s_Group_init) := ⟨rfl, rfl, rfl, by decide +kernel, rfl, by decide +kernel, by decide +kernel⟩
theorem ok_Group_init (T : Txt K mg d) : OkD P w K mg base CX0 1 d.mGroup_init ["self", "charge", "many", "manner", "size", "fill"] (spInit d.cGroup ["charge", "many", "manner", "size", "fill"]) := by
  obtain ⟨fd, F, B⟩ := T.kGroup.ini
  refine ⟨⟨fd, F.ok sc_Group_init (fun vs H Q E h => ?_) (fun cdv A outer s H vs Q E hr h => ?_), B⟩, F.kp⟩
  · obtain ⟨p, dx, as, rfl, hl, _⟩ := h
    rw [List.length_cons, hl]
    rfl
  · obtain ⟨p, dx, as, rfl, hl, hp, k⟩ := h
    match as, hl, k with
    | [a0, a1, a2, a3, a4], _, k =>
    refine ⟨_, pss_cons (ps_fld (pv 0) (pv 1) rfl) (pss_cons (ps_fld (pv 0) (pv 2) rfl) (pss_cons (ps_fld (pv 0) (pv 3) rfl) (pss_cons (ps_fld (pv 0) (pv 4) rfl) (pss_one (ps_fld (pv 0) (pv 5) rfl))))), ?_⟩
    refine ⟨_, rfl, _, rfl, p, d.cGroup, dx, _, rfl, hp, T.kGroup.cl, T.kGroup.no.1, (by decide), ?_⟩
    have e1 : putF "charge" a0 [] = (["charge"] : List Str).zip [a0] := rfl
    refine ⟨_, rfl, _, rfl, p, d.cGroup, dx, _, rfl, upd_same, T.kGroup.cl, T.kGroup.no.2.1, (by rw [e1]; show 1 < 1000; decide), ?_⟩
    have e2 : putF "many" a1 (putF "charge" a0 []) = (["charge", "many"] : List Str).zip [a0, a1] := by
      rw [e1, put_new _ _ _ _ rfl (by decide +kernel)]
      rfl
    refine ⟨_, rfl, _, rfl, p, d.cGroup, dx, _, rfl, upd_same, T.kGroup.cl, T.kGroup.no.2.2.1, (by rw [e2]; show 2 < 1000; decide), ?_⟩
    have e3 : putF "manner" a2 (putF "many" a1 (putF "charge" a0 [])) = (["charge", "many", "manner"] : List Str).zip [a0, a1, a2] := by
      rw [e2, put_new _ _ _ _ rfl (by decide +kernel)]
      rfl
    refine ⟨_, rfl, _, rfl, p, d.cGroup, dx, _, rfl, upd_same, T.kGroup.cl, T.kGroup.no.2.2.2.1, (by rw [e3]; show 3 < 1000; decide), ?_⟩
    have e4 : putF "size" a3 (putF "manner" a2 (putF "many" a1 (putF "charge" a0 []))) = (["charge", "many", "manner", "size"] : List Str).zip [a0, a1, a2, a3] := by
      rw [e3, put_new _ _ _ _ rfl (by decide +kernel)]
      rfl
    refine ⟨_, rfl, _, rfl, p, d.cGroup, dx, _, rfl, upd_same, T.kGroup.cl, T.kGroup.no.2.2.2.2.1, (by rw [e4]; show 4 < 1000; decide), ?_⟩
    have e5 : putF "fill" a4 (putF "size" a3 (putF "manner" a2 (putF "many" a1 (putF "charge" a0 [])))) = (["charge", "many", "manner", "size", "fill"] : List Str).zip [a0, a1, a2, a3, a4] := by
      rw [e4, put_new _ _ _ _ rfl (by decide +kernel)]
      rfl
    exact k _ (fun b hb => by rw [upd_ne hb, upd_ne hb, upd_ne hb, upd_ne hb, upd_ne hb]) (by rw [upd_same, e5])
theorem sc_Arms_init : FnScope ["self", "field", "layers"] ["self", "field", "layers"] (defScope s_Arms_init) := ⟨rfl, rfl, rfl, by decide +kernel, rfl, by decide +kernel, by decide +kernel⟩
theorem ok_Arms_init (T : Txt K mg d) : OkD P w K mg base CX0 1 d.mArms_init ["self", "field", "layers"] (spInit d.cArms ["field", "layers"]) := by
  obtain ⟨fd, F, B⟩ := T.kArms.ini
  refine ⟨⟨fd, F.ok sc_Arms_init (fun vs H Q E h => ?_) (fun cdv A outer s H vs Q E hr h => ?_), B⟩, F.kp⟩
  · obtain ⟨p, dx, as, rfl, hl, _⟩ := h
    rw [List.length_cons, hl]
    rfl
  · obtain ⟨p, dx, as, rfl, hl, hp, k⟩ := h
    match as, hl, k with
    | [a0, a1], _, k =>
    refine ⟨_, pss_cons (ps_fld (pv 0) (pv 1) rfl) (pss_one (ps_fld (pv 0) (pv 2) rfl)), ?_⟩
    refine ⟨_, rfl, _, rfl, p, d.cArms, dx, _, rfl, hp, T.kArms.cl, T.kArms.no.1, (by decide), ?_⟩
    have e1 : putF "field" a0 [] = (["field"] : List Str).zip [a0] := rfl
    refine ⟨_, rfl, _, rfl, p, d.cArms, dx, _, rfl, upd_same, T.kArms.cl, T.kArms.no.2.1, (by rw [e1]; show 1 < 1000; decide), ?_⟩
    have e2 : putF "layers" a1 (putF "field" a0 []) = (["field", "layers"] : List Str).zip [a0, a1] := by
      rw [e1, put_new _ _ _ _ rfl (by decide +kernel)]
      rfl
    exact k _ (fun b hb => by rw [upd_ne hb, upd_ne hb]) (by rw [upd_same, e2])
theorem sc_Mark_init : FnScope ["self", "g", "k"] ["self", "g", "k"] (defScope s_Mark_init) := ⟨rfl, rfl, rfl, by decide +kernel, rfl, by decide +kernel, by decide +kernel⟩
theorem ok_Mark_init (T : Txt K mg d) : OkD P w K mg base CX0 1 d.mMark_init ["self", "g", "k"] (spInit d.cMark ["g", "k"]) := by
  obtain ⟨fd, F, B⟩ := T.kMark.ini
  refine ⟨⟨fd, F.ok sc_Mark_init (fun vs H Q E h => ?_) (fun cdv A outer s H vs Q E hr h => ?_), B⟩, F.kp⟩
  · obtain ⟨p, dx, as, rfl, hl, _⟩ := h
    rw [List.length_cons, hl]
    rfl
  · obtain ⟨p, dx, as, rfl, hl, hp, k⟩ := h
    match as, hl, k with
    | [a0, a1], _, k =>
    refine ⟨_, pss_cons (ps_fld (pv 0) (pv 1) rfl) (pss_one (ps_fld (pv 0) (pv 2) rfl)), ?_⟩
    refine ⟨_, rfl, _, rfl, p, d.cMark, dx, _, rfl, hp, T.kMark.cl, T.kMark.no.1, (by decide), ?_⟩
    have e1 : putF "g" a0 [] = (["g"] : List Str).zip [a0] := rfl
    refine ⟨_, rfl, _, rfl, p, d.cMark, dx, _, rfl, upd_same, T.kMark.cl, T.kMark.no.2.1, (by rw [e1]; show 1 < 1000; decide), ?_⟩
    have e2 : putF "k" a1 (putF "g" a0 []) = (["g", "k"] : List Str).zip [a0, a1] := by
      rw [e1, put_new _ _ _ _ rfl (by decide +kernel)]
      rfl
    exact k _ (fun b hb => by rw [upd_ne hb, upd_ne hb]) (by rw [upd_same, e2])
theorem sc_Marked_init : FnScope ["self", "arms", "canton", "marks"] ["self", "arms", "canton", "marks"] (defScope s_Marked_init) := ⟨rfl, rfl, rfl, by decide +kernel, rfl, by decide +kernel, by decide +kernel⟩
theorem ok_Marked_init (T : Txt K mg d) : OkD P w K mg base CX0 1 d.mMarked_init ["self", "arms", "canton", "marks"] (spInit d.cMarked ["arms", "canton", "marks"]) := by
  obtain ⟨fd, F, B⟩ := T.kMarked.ini
  refine ⟨⟨fd, F.ok sc_Marked_init (fun vs H Q E h => ?_) (fun cdv A outer s H vs Q E hr h => ?_), B⟩, F.kp⟩
  · obtain ⟨p, dx, as, rfl, hl, _⟩ := h
    rw [List.length_cons, hl]
    rfl
  · obtain ⟨p, dx, as, rfl, hl, hp, k⟩ := h
    match as, hl, k with
    | [a0, a1, a2], _, k =>
    refine ⟨_, pss_cons (ps_fld (pv 0) (pv 1) rfl) (pss_cons (ps_fld (pv 0) (pv 2) rfl) (pss_one (ps_fld (pv 0) (pv 3) rfl))), ?_⟩
    refine ⟨_, rfl, _, rfl, p, d.cMarked, dx, _, rfl, hp, T.kMarked.cl, T.kMarked.no.1, (by decide), ?_⟩
    have e1 : putF "arms" a0 [] = (["arms"] : List Str).zip [a0] := rfl
    refine ⟨_, rfl, _, rfl, p, d.cMarked, dx, _, rfl, upd_same, T.kMarked.cl, T.kMarked.no.2.1, (by rw [e1]; show 1 < 1000; decide), ?_⟩
    have e2 : putF "canton" a1 (putF "arms" a0 []) = (["arms", "canton"] : List Str).zip [a0, a1] := by
      rw [e1, put_new _ _ _ _ rfl (by decide +kernel)]
      rfl
    refine ⟨_, rfl, _, rfl, p, d.cMarked, dx, _, rfl, upd_same, T.kMarked.cl, T.kMarked.no.2.2.1, (by rw [e2]; show 2 < 1000; decide), ?_⟩
    have e3 : putF "marks" a2 (putF "canton" a1 (putF "arms" a0 [])) = (["arms", "canton", "marks"] : List Str).zip [a0, a1, a2] := by
      rw [e2, put_new _ _ _ _ rfl (by decide +kernel)]
      rfl
    exact k _ (fun b hb => by rw [upd_ne hb, upd_ne hb, upd_ne hb]) (by rw [upd_same, e3])
theorem sc_Quarterly_init : FnScope ["self", "coats"] ["self", "coats"] (defScope s_Quarterly_init) := ⟨rfl, rfl, rfl, by decide +kernel, rfl, by decide +kernel, by decide +kernel⟩
theorem ok_Quarterly_init (T : Txt K mg d) : OkD P w K mg base CX0 1 d.mQuarterly_init ["self", "coats"] (spInit d.cQuarterly ["coats"]) := by
  obtain ⟨fd, F, B⟩ := T.kQuarterly.ini
  refine ⟨⟨fd, F.ok sc_Quarterly_init (fun vs H Q E h => ?_) (fun cdv A outer s H vs Q E hr h => ?_), B⟩, F.kp⟩
  · obtain ⟨p, dx, as, rfl, hl, _⟩ := h
    rw [List.length_cons, hl]
    rfl
  · obtain ⟨p, dx, as, rfl, hl, hp, k⟩ := h
    match as, hl, k with
    | [a0], _, k =>
    refine ⟨_, pss_one (ps_fld (pv 0) (pv 1) rfl), ?_⟩
    refine ⟨_, rfl, _, rfl, p, d.cQuarterly, dx, _, rfl, hp, T.kQuarterly.cl, T.kQuarterly.no.1, (by decide), ?_⟩
    have e1 : putF "coats" a0 [] = (["coats"] : List Str).zip [a0] := rfl
    exact k _ (fun b hb => by rw [upd_ne hb]) (by rw [upd_same, e1])
theorem sc_Impaled_init : FnScope ["self", "dexter", "sinister"] ["self", "dexter", "sinister"] (defScope s_Impaled_init) := ⟨rfl, rfl, rfl, by decide +kernel, rfl, by decide +kernel, by decide +kernel⟩
theorem ok_Impaled_init (T : Txt K mg d) : OkD P w K mg base CX0 1 d.mImpaled_init ["self", "dexter", "sinister"] (spInit d.cImpaled ["dexter", "sinister"]) := by
  obtain ⟨fd, F, B⟩ := T.kImpaled.ini
  refine ⟨⟨fd, F.ok sc_Impaled_init (fun vs H Q E h => ?_) (fun cdv A outer s H vs Q E hr h => ?_), B⟩, F.kp⟩
  · obtain ⟨p, dx, as, rfl, hl, _⟩ := h
    rw [List.length_cons, hl]
    rfl
  · obtain ⟨p, dx, as, rfl, hl, hp, k⟩ := h
    match as, hl, k with
    | [a0, a1], _, k =>
    refine ⟨_, pss_cons (ps_fld (pv 0) (pv 1) rfl) (pss_one (ps_fld (pv 0) (pv 2) rfl)), ?_⟩
    refine ⟨_, rfl, _, rfl, p, d.cImpaled, dx, _, rfl, hp, T.kImpaled.cl, T.kImpaled.no.1, (by decide), ?_⟩
    have e1 : putF "dexter" a0 [] = (["dexter"] : List Str).zip [a0] := rfl
    refine ⟨_, rfl, _, rfl, p, d.cImpaled, dx, _, rfl, upd_same, T.kImpaled.cl, T.kImpaled.no.2.1, (by rw [e1]; show 1 < 1000; decide), ?_⟩
    have e2 : putF "sinister" a1 (putF "dexter" a0 []) = (["dexter", "sinister"] : List Str).zip [a0, a1] := by
      rw [e1, put_new _ _ _ _ rfl (by decide +kernel)]
      rfl
    exact k _ (fun b hb => by rw [upd_ne hb, upd_ne hb]) (by rw [upd_same, e2])
theorem sc_Pretence_init : FnScope ["self", "below", "upon"] ["self", "below", "upon"] (defScope s_Pretence_init) := ⟨rfl, rfl, rfl, by decide +kernel, rfl, by decide +kernel, by decide +kernel⟩
theorem ok_Pretence_init (T : Txt K mg d) : OkD P w K mg base CX0 1 d.mPretence_init ["self", "below", "upon"] (spInit d.cPretence ["below", "upon"]) := by
  obtain ⟨fd, F, B⟩ := T.kPretence.ini
  refine ⟨⟨fd, F.ok sc_Pretence_init (fun vs H Q E h => ?_) (fun cdv A outer s H vs Q E hr h => ?_), B⟩, F.kp⟩
  · obtain ⟨p, dx, as, rfl, hl, _⟩ := h
    rw [List.length_cons, hl]
    rfl
  · obtain ⟨p, dx, as, rfl, hl, hp, k⟩ := h
    match as, hl, k with
    | [a0, a1], _, k =>
    refine ⟨_, pss_cons (ps_fld (pv 0) (pv 1) rfl) (pss_one (ps_fld (pv 0) (pv 2) rfl)), ?_⟩
    refine ⟨_, rfl, _, rfl, p, d.cPretence, dx, _, rfl, hp, T.kPretence.cl, T.kPretence.no.1, (by decide), ?_⟩
    have e1 : putF "below" a0 [] = (["below"] : List Str).zip [a0] := rfl
    refine ⟨_, rfl, _, rfl, p, d.cPretence, dx, _, rfl, upd_same, T.kPretence.cl, T.kPretence.no.2.1, (by rw [e1]; show 1 < 1000; decide), ?_⟩
    have e2 : putF "upon" a1 (putF "below" a0 []) = (["below", "upon"] : List Str).zip [a0, a1] := by
      rw [e1, put_new _ _ _ _ rfl (by decide +kernel)]
      rfl
    exact k _ (fun b hb => by rw [upd_ne hb, upd_ne hb]) (by rw [upd_same, e2])
theorem sc_Token_init : FnScope ["self", "content", "place"] ["self", "content", "place"] (defScope s_Token_init) := ⟨rfl, rfl, rfl, by decide +kernel, rfl, by decide +kernel, by decide +kernel⟩
theorem ok_Token_init (T : Txt K mg d) : OkD P w K mg base CX0 1 d.mToken_init ["self", "content", "place"] (spInit d.cToken ["content", "place"]) := by
  obtain ⟨fd, F, B⟩ := T.kToken.ini
  refine ⟨⟨fd, F.ok sc_Token_init (fun vs H Q E h => ?_) (fun cdv A outer s H vs Q E hr h => ?_), B⟩, F.kp⟩
  · obtain ⟨p, dx, as, rfl, hl, _⟩ := h
    rw [List.length_cons, hl]
    rfl
  · obtain ⟨p, dx, as, rfl, hl, hp, k⟩ := h
    match as, hl, k with
    | [a0, a1], _, k =>
    refine ⟨_, pss_cons (ps_fld (pv 0) (pv 1) rfl) (pss_one (ps_fld (pv 0) (pv 2) rfl)), ?_⟩
    refine ⟨_, rfl, _, rfl, p, d.cToken, dx, _, rfl, hp, T.kToken.cl, T.kToken.no.1, (by decide), ?_⟩
    have e1 : putF "content" a0 [] = (["content"] : List Str).zip [a0] := rfl
    refine ⟨_, rfl, _, rfl, p, d.cToken, dx, _, rfl, upd_same, T.kToken.cl, T.kToken.no.2.1, (by rw [e1]; show 1 < 1000; decide), ?_⟩
    have e2 : putF "place" a1 (putF "content" a0 []) = (["content", "place"] : List Str).zip [a0, a1] := by
      rw [e1, put_new _ _ _ _ rfl (by decide +kernel)]
      rfl
    exact k _ (fun b hb => by rw [upd_ne hb, upd_ne hb]) (by rw [upd_same, e2])
end
end HC
namespace HC
open PySem PySem.Spec PyProof.Rows L2
/-! ### how what is read stands in the heap. H0: the heap ahead; all of it is new there -/
/-- objects that are new behind H0 stay -/
structure Mv (H0 H H0' H' : Hp) : Prop where
  nw : ∀ b, H0 b = none → H0' b = none
  st : ∀ b o, H0 b = none → H b = some o → H' b = some o
inductive All2 {α : Type} (R : V → α → Prop) : List V → List α → Prop where
  | nil : All2 R [] []
  | cons {v : V} {x : α} {vs : List V} {xs : List α} (h : R v x) (t : All2 R vs xs) : All2 R (v :: vs) (x :: xs)
theorem All2.snoc {α : Type} {R : V → α → Prop} {v : V} {x : α} {vs : List V} {xs : List α} (t : All2 R vs xs) (h : R v x) : All2 R (vs ++ [v]) (xs ++ [x]) := by
  induction t with
  | nil => exact .cons h .nil
  | cons h' _ ih => exact .cons h' ih
theorem All2.mono {α : Type} {R R' : V → α → Prop} {vs : List V} {xs : List α} (t : All2 R vs xs) (f : ∀ v x, R v x → R' v x) : All2 R' vs xs := by
  induction t with
  | nil => exact .nil
  | cons h' _ ih => exact .cons (f _ _ h') ih
theorem All2.length {α : Type} {R : V → α → Prop} {vs : List V} {xs : List α} (t : All2 R vs xs) : vs.length = xs.length := by
  induction t with
  | nil => rfl
  | cons _ _ ih => rw [List.length_cons, List.length_cons, ih]
/-- an object of the class C with these attributes -/
def Obj1 (C : Addr) (ns : List Str) (as : List V) (H0 H : Hp) (v : V) : Prop := ∃ b dx, v = .ref b ∧ H0 b = none ∧ H b = some (.ins C dx (ns.zip as))
theorem Obj1.mv {C : Addr} {ns : List Str} {as : List V} {H0 H H0' H' : Hp} {v : V} (h : Obj1 C ns as H0 H v) (m : Mv H0 H H0' H') : Obj1 C ns as H0' H' v := by
  obtain ⟨b, dx, e, n, o⟩ := h
  exact ⟨b, dx, e, m.nw b n, m.st b _ n o⟩
/-- a list of these values -/
def Lst1 (vs : List V) (H0 H : Hp) (l : Addr) : Prop := H0 l = none ∧ H l = some (.lst vs)
theorem Lst1.mv {vs : List V} {H0 H H0' H' : Hp} {l : Addr} (h : Lst1 vs H0 H l) (m : Mv H0 H H0' H') : Lst1 vs H0' H' l := ⟨m.nw l h.1, m.st l _ h.1 h.2⟩
abbrev vN (n : Nat) : V := .int (n : Int)
def RNat (_ _ : Hp) (v : V) (n : Nat) : Prop := v = vN n
def RField (d : Ad) (H0 H : Hp) (v : V) : Sh.Field → Prop
  | .plain t => Obj1 d.cPlain ["tincture"] [vN t] H0 H v
  | .parted w l a b => Obj1 d.cParted ["way", "line", "first", "second"] [vN w, vN l, vN a, vN b] H0 H v
  | .varied w n l a b => Obj1 d.cVaried ["way", "pieces", "line", "first", "second"] [vN w, vN n, vN l, vN a, vN b] H0 H v
theorem RField.mv {d : Ad} {H0 H H0' H' : Hp} {v : V} {f : Sh.Field} (h : RField d H0 H v f) (m : Mv H0 H H0' H') : RField d H0' H' v f := by
  cases f <;> exact Obj1.mv h m
/-- a field is an object: objects that stay keep it -/
theorem RField.ins {d : Ad} {H0 H H' : Hp} {v : V} {f : Sh.Field} (h : RField d H0 H v f) (k : ∀ b C dx fs, H0 b = none → H b = some (.ins C dx fs) → H' b = some (.ins C dx fs)) : RField d H0 H' v f := by
  cases f <;> exact let ⟨b, dx, e, n, o⟩ := h; ⟨b, dx, e, n, k b _ _ _ n o⟩
def RFill (d : Ad) (H0 H : Hp) (v : V) : Sh.Fill → Prop
  | .solid f => RField d H0 H v f
  | .counter => v = .non
theorem RFill.mv {d : Ad} {H0 H H0' H' : Hp} {v : V} {f : Sh.Fill} (h : RFill d H0 H v f) (m : Mv H0 H H0' H') : RFill d H0' H' v f := by
  cases f with
  | solid f => exact RField.mv h m
  | counter => exact h
def RLayer (d : Ad) (H0 H : Hp) (v : V) : Sh.Layer → Prop
  | .ord o l f => ∃ u, Obj1 d.cOrdinary ["figure", "line", "fill"] [vN o, vN l, u] H0 H v ∧ RFill d H0 H u f
  | .group c n m s f => ∃ u, Obj1 d.cGroup ["charge", "many", "manner", "size", "fill"] [vN c, vN n, vN m, vN s, u] H0 H v ∧ RFill d H0 H u f
theorem RLayer.mv {d : Ad} {H0 H H0' H' : Hp} {v : V} {f : Sh.Layer} (h : RLayer d H0 H v f) (m : Mv H0 H H0' H') : RLayer d H0' H' v f := by
  cases f <;> exact let ⟨u, h1, h2⟩ := h; ⟨u, h1.mv m, h2.mv m⟩
def RArms (d : Ad) (H0 H : Hp) (v : V) (a : Sh.Arms) : Prop := ∃ u l us, Obj1 d.cArms ["field", "layers"] [u, .ref l] H0 H v ∧ RField d H0 H u a.field ∧ Lst1 us H0 H l ∧ All2 (RLayer d H0 H) us a.layers
theorem RArms.mv {d : Ad} {H0 H H0' H' : Hp} {v : V} {a : Sh.Arms} (h : RArms d H0 H v a) (m : Mv H0 H H0' H') : RArms d H0' H' v a := by
  obtain ⟨u, l, us, h1, h2, h3, h4⟩ := h
  exact ⟨u, l, us, h1.mv m, h2.mv m, h3.mv m, h4.mono fun _ _ z => z.mv m⟩
def ROpt (d : Ad) (H0 H : Hp) (v : V) : Option Sh.Arms → Prop
  | none => v = .non
  | some a => RArms d H0 H v a
theorem ROpt.mv {d : Ad} {H0 H H0' H' : Hp} {v : V} {a : Option Sh.Arms} (h : ROpt d H0 H v a) (m : Mv H0 H H0' H') : ROpt d H0' H' v a := by
  cases a with
  | none => exact h
  | some a => exact RArms.mv h m
def RMark (d : Ad) (H0 H : Hp) (v : V) (x : Nat × Nat) : Prop := Obj1 d.cMark ["g", "k"] [vN x.1, vN x.2] H0 H v
theorem RMark.mv {d : Ad} {H0 H H0' H' : Hp} {v : V} {x : Nat × Nat} (h : RMark d H0 H v x) (m : Mv H0 H H0' H') : RMark d H0' H' v x := Obj1.mv h m
/-- a list of things -/
def RList {α : Type} (R : Hp → Hp → V → α → Prop) (H0 H : Hp) (v : V) (xs : List α) : Prop := ∃ l us, v = .ref l ∧ Lst1 us H0 H l ∧ All2 (R H0 H) us xs
def RMarks (d : Ad) : Hp → Hp → V → List (Nat × Nat) → Prop := RList (RMark d)
theorem RMarks.mv {d : Ad} {H0 H H0' H' : Hp} {v : V} {x : List (Nat × Nat)} (h : RMarks d H0 H v x) (m : Mv H0 H H0' H') : RMarks d H0' H' v x := by
  obtain ⟨l, us, e, h1, h2⟩ := h
  exact ⟨l, us, e, h1.mv m, h2.mono fun _ _ z => z.mv m⟩
def RMarked (d : Ad) (H0 H : Hp) (v : V) (x : ShMarsh.Marked) : Prop := ∃ u c k, Obj1 d.cMarked ["arms", "canton", "marks"] [u, c, k] H0 H v ∧ RArms d H0 H u x.arms ∧ ROpt d H0 H c x.canton ∧ RMarks d H0 H k x.marks
theorem RMarked.mv {d : Ad} {H0 H H0' H' : Hp} {v : V} {x : ShMarsh.Marked} (h : RMarked d H0 H v x) (m : Mv H0 H H0' H') : RMarked d H0' H' v x := by
  obtain ⟨u, c, k, h1, h2, h3, h4⟩ := h
  exact ⟨u, c, k, h1.mv m, h2.mv m, h3.mv m, h4.mv m⟩
mutual
def RCoat (d : Ad) (H0 H : Hp) : ShMarsh.Coat → V → Prop
  | .one x, v => RMarked d H0 H v x
  | .quarters l, v => ∃ p us, Obj1 d.cQuarterly ["coats"] [.ref p] H0 H v ∧ Lst1 us H0 H p ∧ RCoats d H0 H l us
  | .impaled x y, v => ∃ a b, Obj1 d.cImpaled ["dexter", "sinister"] [a, b] H0 H v ∧ RCoat d H0 H x a ∧ RCoat d H0 H y b
  | .pretence x y, v => ∃ a b, Obj1 d.cPretence ["below", "upon"] [a, b] H0 H v ∧ RCoat d H0 H x a ∧ RCoat d H0 H y b
def RCoats (d : Ad) (H0 H : Hp) : List ShMarsh.Coat → List V → Prop
  | [], us => us = []
  | x :: l, us => ∃ u r, us = u :: r ∧ RCoat d H0 H x u ∧ RCoats d H0 H l r
end
mutual
theorem RCoat.mv {d : Ad} {H0 H H0' H' : Hp} (m : Mv H0 H H0' H') : ∀ (c : ShMarsh.Coat) (v : V), RCoat d H0 H c v → RCoat d H0' H' c v
  | .one x, v, h => RMarked.mv h m
  | .quarters l, v, h => by
    obtain ⟨p, us, h1, h2, h3⟩ := h
    exact ⟨p, us, h1.mv m, h2.mv m, RCoats.mv m l us h3⟩
  | .impaled x y, v, h => by
    obtain ⟨a, b, h1, h2, h3⟩ := h
    exact ⟨a, b, h1.mv m, RCoat.mv m x a h2, RCoat.mv m y b h3⟩
  | .pretence x y, v, h => by
    obtain ⟨a, b, h1, h2, h3⟩ := h
    exact ⟨a, b, h1.mv m, RCoat.mv m x a h2, RCoat.mv m y b h3⟩
theorem RCoats.mv {d : Ad} {H0 H H0' H' : Hp} (m : Mv H0 H H0' H') : ∀ (l : List ShMarsh.Coat) (us : List V), RCoats d H0 H l us → RCoats d H0' H' l us
  | [], us, h => h
  | x :: l, us, h => by
    obtain ⟨u, r, e, h1, h2⟩ := h
    exact ⟨u, r, e, RCoat.mv m x u h1, RCoats.mv m l r h2⟩
end
/-- a coat's standing, the value first -/
def RC (d : Ad) (H0 H : Hp) (v : V) (c : ShMarsh.Coat) : Prop := RCoat d H0 H c v
theorem RC.mv {d : Ad} {H0 H H0' H' : Hp} {v : V} {c : ShMarsh.Coat} (h : RC d H0 H v c) (m : Mv H0 H H0' H') : RC d H0' H' v c := RCoat.mv m c v h
theorem rcoats_of {d : Ad} {H0 H : Hp} {us : List V} {l : List ShMarsh.Coat} (h : All2 (RC d H0 H) us l) : RCoats d H0 H l us := by
  induction h with
  | nil => rfl
  | cons h _ ih => exact ⟨_, _, rfl, h, ih⟩
theorem Mv.same {H0 H H0' H' H2 : Hp} (m : Mv H0 H H0' H') (s : Same H' H2) : Mv H0 H H0' H2 := ⟨m.nw, fun b o n h => s b o (m.st b o n h)⟩
theorem Mv.here {H0 H H' : Hp} (s : Same H H') : Mv H0 H H0 H' := ⟨fun _ h => h, fun b o _ h => s b o h⟩
theorem Keep.mv {R : Addr} {H H1 H' : Hp} {o : HO} (k : Keep R H H1) (hR : H1 R = some o) : Mv H1 H' H H' := ⟨fun _ h => k.free hR h, fun _ _ _ h => h⟩
def vals (bs : List UInt8) : List V := bs.map fun b => V.int (b.toNat : Int)
end HC
namespace HC
open PySem L2
/-- the bytes that are handed in -/
def bytesOf (ns : List Int) : List UInt8 := ns.map fun n => UInt8.ofNat n.toNat
def Byt (ns : List Int) : Prop := ∀ n ∈ ns, 0 ≤ n ∧ n ≤ 255
theorem text_some {ns : List Int} (h : Byt ns) : CoatNeutral.text? ns = some (bytesOf ns) := by
  unfold CoatNeutral.text?
  rw [if_pos]
  · rfl
  · unfold NeutralIO.bytes
    rw [List.all_eq_true]
    intro n hn
    have := h n hn
    simp
    omega
theorem vals_of : ∀ {ns : List Int}, Byt ns → vals (bytesOf ns) = ns.map V.int
  | [], _ => rfl
  | n :: ns, h => by
    have h1 := h n List.mem_cons_self
    have ih := vals_of (ns := ns) fun m hm => h m (List.mem_cons_of_mem _ hm)
    show V.int ((UInt8.ofNat n.toNat).toNat : Int) :: vals (bytesOf ns) = V.int n :: ns.map V.int
    rw [ih]
    have e : ((UInt8.ofNat n.toNat).toNat : Int) = n := by
      rw [UInt8.toNat_ofNat']
      omega
    rw [e]
theorem f_of {c : CoatNeutral.Call} {x : ShCoats.Call} (h : CoatNeutral.callOf c = some x) : CoatNeutral.f c = (ShCoats.answer x).ret :: (((ShCoats.answer x).nums.map fun (n : Nat) => (n : Int)) ++ (ShCoats.answer x).bytes.map fun (b : UInt8) => (b.toNat : Int)) := by
  unfold CoatNeutral.f
  rw [h]
theorem check_is {ns : List Int} (h : Byt ns) : PyWqaqbh.check ns = match ShMarsh.readCoat (bytesOf ns) with
    | .error e => [-1, (e : Int)]
    | .ok _ => [0] := by
  have hc : CoatNeutral.callOf [[1], ns] = some (.check (bytesOf ns)) := by
    show (CoatNeutral.text? ns).map ShCoats.Call.check = _
    rw [text_some h]
    rfl
  show CoatNeutral.f [[1], ns] = _
  rw [f_of hc]
  unfold ShCoats.answer ShCoats.ofCoat
  dsimp only
  cases ShMarsh.readCoat (bytesOf ns) with
  | error e => rfl
  | ok c => rfl
theorem byt_of {l : List Int} (q : l.all (PySem.W.Codec.inInt 0 255) = true) : Byt l := by
  intro n hn
  have h := List.all_eq_true.mp q n hn
  unfold PySem.W.Codec.inInt at h
  simp at h
  omega
end HC
namespace HC
open PySem PySem.Spec PyProof.Rows L2
/-! ### texts as bytes -/
def strOf (b : List UInt8) : Str := ⟨(b.map UInt8.toNat).toArray⟩
abbrev vS (b : List UInt8) : V := .str (strOf b)
theorem tl_strOf (b : List UInt8) : (strOf b).cps.toList = b.map UInt8.toNat := rfl
theorem strOf_app (a b : List UInt8) : strOf a ++ strOf b = strOf (a ++ b) := TL.ext_tl (by
  rw [TL.tl_append]
  show a.map _ ++ b.map _ = (a ++ b).map _
  rw [List.map_append])
theorem strOf_len (b : List UInt8) : (strOf b).length = b.length := by
  rw [TL.len_tl]
  show (b.map UInt8.toNat).length = _
  rw [List.length_map]
theorem u8map_inj : ∀ {a b : List UInt8}, a.map UInt8.toNat = b.map UInt8.toNat → a = b
  | [], [], _ => rfl
  | [], _ :: _, h => by simp at h
  | _ :: _, [], h => by simp at h
  | x :: a, y :: b, h => by
    rw [List.map_cons, List.map_cons] at h
    injection h with h1 h2
    rw [UInt8.toNat_inj.mp h1, u8map_inj h2]
theorem strOf_inj {a b : List UInt8} (h : strOf a = strOf b) : a = b := u8map_inj (congrArg (fun z : Str => z.cps.toList) h)
theorem vS_inj {a b : List UInt8} (h : vS a = vS b) : a = b := strOf_inj (by injection h)
theorem dec_vS (a b : List UInt8) : decide (vS a = vS b) = decide (a = b) := by
  by_cases h : a = b
  · rw [h, decide_eq_true rfl, decide_eq_true rfl]
  · rw [decide_eq_false h, decide_eq_false fun e => h (vS_inj e)]
def ne (b : List UInt8) : Bool := !decide (b = [])
theorem ne_str (w : List UInt8) {z : Str} (hz : z = strOf []) : (!decide (V.str (strOf w) = V.str z)) = ne w := by
  subst hz
  unfold ne
  rw [dec_vS]
/-! ### texts put together -/
def glue (sep : List UInt8) : List (List UInt8) → List UInt8
  | [] => []
  | [b] => b
  | b :: r => b ++ (sep ++ glue sep r)
theorem join_glue (sep : List UInt8) : ∀ l : List (List UInt8), Str.join (strOf sep) (l.map strOf) = strOf (glue sep l)
  | [] => rfl
  | [_] => rfl
  | x :: y :: r => by
    show strOf x ++ strOf sep ++ Str.join (strOf sep) ((y :: r).map strOf) = strOf (x ++ (sep ++ glue sep (y :: r)))
    rw [join_glue sep (y :: r), strOf_app, strOf_app, List.append_assoc]
theorem txt_glue {z : Str} {sep : List UInt8} (hz : z = strOf sep) (l : List (List UInt8)) : Txt.join z (l.map strOf) = strOf (glue sep l) := by
  subst hz
  show Builtin.Str.glued _ _ = _
  rw [StrLaws.glued_eq_join, join_glue]
theorem glue_spaced : ∀ l : List (List UInt8), glue [32] l = ShBlazon.spaced l
  | [] => rfl
  | [_] => rfl
  | x :: y :: r => by
    show x ++ ([32] ++ glue [32] (y :: r)) = x ++ (32 :: ShBlazon.spaced (y :: r))
    rw [glue_spaced (y :: r)]
    rfl
theorem glue_flat (sep : List UInt8) : ∀ (x : List UInt8) (l : List (List UInt8)), glue sep (x :: l) = x ++ l.flatMap fun w => sep ++ w
  | x, [] => by
    show x = x ++ []
    rw [List.append_nil]
  | x, y :: r => by
    show x ++ (sep ++ glue sep (y :: r)) = x ++ (y :: r).flatMap fun w => sep ++ w
    rw [glue_flat sep y r, List.flatMap_cons, List.append_assoc]
theorem glue_len (sep : List UInt8) : ∀ l : List (List UInt8), (glue sep l).length ≤ (l.map List.length).sum + l.length * sep.length
  | [] => Nat.zero_le _
  | [x] => by
    show x.length ≤ x.length + 0 + 1 * sep.length
    omega
  | x :: y :: r => by
    have h := glue_len sep (y :: r)
    show (x ++ (sep ++ glue sep (y :: r))).length ≤ _
    rw [List.length_append, List.length_append]
    simp only [List.map_cons, List.sum_cons, List.length_cons, Nat.succ_mul] at h ⊢
    omega
theorem sum_le : ∀ (l : List (List UInt8)) (n : Nat), (∀ w ∈ l, w.length ≤ n) → (l.map List.length).sum ≤ l.length * n
  | [], _, _ => Nat.zero_le _
  | x :: l, n, h => by
    have h1 := h x List.mem_cons_self
    have h2 := sum_le l n fun w hw => h w (List.mem_cons_of_mem _ hw)
    rw [List.map_cons, List.sum_cons, List.length_cons, Nat.succ_mul]
    omega
theorem lens_of (l : List (List UInt8)) : (l.map strOf).map (fun z : Str => z.length) = l.map List.length := by
  rw [List.map_map]
  exact List.map_congr_left fun w _ => strOf_len w
open ShBlazon
theorem spaced_cons {x : List UInt8} {l : List (List UInt8)} (h : l ≠ []) : spaced (x :: l) = x ++ (32 :: spaced l) := by
  cases l with
  | nil => exact absurd rfl h
  | cons y r => rfl
theorem spaced_app : ∀ {a b : List (List UInt8)}, a ≠ [] → b ≠ [] → spaced (a ++ b) = spaced a ++ (32 :: spaced b)
  | [], _, h, _ => absurd rfl h
  | [x], b, _, hb => spaced_cons hb
  | x :: y :: r, b, _, hb => by
    show x ++ (32 :: spaced ((y :: r) ++ b)) = (x ++ (32 :: spaced (y :: r))) ++ (32 :: spaced b)
    rw [spaced_app (a := y :: r) (fun z => by cases z) hb, List.append_assoc]
    rfl
theorem spaced_ne {g : List (List UInt8)} (h : g ≠ []) (hw : ∀ w ∈ g, w ≠ []) : spaced g ≠ [] := by
  cases g with
  | nil => exact absurd rfl h
  | cons x r =>
    have hx := hw x List.mem_cons_self
    cases r with
    | nil => exact hx
    | cons y r =>
      intro z
      have z' : x ++ (32 :: spaced (y :: r)) = [] := z
      exact hx (List.append_eq_nil_iff.mp z').1
theorem ne_true {w : List UInt8} (h : w ≠ []) : ne w = true := by
  unfold ne
  rw [decide_eq_false h]
  rfl
theorem spaced_groups : ∀ gs : List (List (List UInt8)), (∀ g ∈ gs, ∀ w ∈ g, w ≠ []) → spaced ((gs.map spaced).filter ne) = spaced gs.flatten ∧ (gs.flatten ≠ [] → (gs.map spaced).filter ne ≠ [])
  | [], _ => ⟨rfl, fun h => absurd rfl h⟩
  | g :: r, h => by
    obtain ⟨i1, i2⟩ := spaced_groups r fun g' hg => h g' (List.mem_cons_of_mem _ hg)
    have hg := h g List.mem_cons_self
    by_cases c : g = []
    · subst c
      have e : ((([] : List (List UInt8)) :: r).map spaced).filter ne = (r.map spaced).filter ne := by
        rw [List.map_cons, List.filter_cons_of_neg (by decide)]
      rw [e]
      exact ⟨i1, i2⟩
    · have e : ((g :: r).map spaced).filter ne = spaced g :: (r.map spaced).filter ne := by
        rw [List.map_cons, List.filter_cons_of_pos (ne_true (spaced_ne c hg))]
      rw [e]
      refine ⟨?_, fun _ z => by cases z⟩
      by_cases q : r.flatten = []
      · have f0 : (r.map spaced).filter ne = [] := by
          rw [List.filter_eq_nil_iff]
          intro w hw
          obtain ⟨g', hg', rfl⟩ := List.mem_map.mp hw
          have : g' = [] := List.flatten_eq_nil_iff.mp q g' hg'
          subst this
          decide
        rw [f0, List.flatten_cons, q, List.append_nil]
        rfl
      · rw [spaced_cons (i2 q), i1, List.flatten_cons, spaced_app c q]
theorem spaced_join {gs : List (List (List UInt8))} (h : ∀ g ∈ gs, ∀ w ∈ g, w ≠ []) : spaced ((gs.map spaced).filter ne) = spaced gs.flatten := (spaced_groups gs h).1
end HC
namespace HC
open PySem PySem.Spec PyProof.Rows L2 ShBlazon
/-! ### signs -/
def okSign (c : UInt8) : Bool := (ascii "\n abcdefghijklmnopqrstuvwxyz0123456789,.;()[]").contains c
def norm (c : UInt8) : UInt8 := if okSign c = true then c else 63
abbrev nb (bs : List UInt8) : List UInt8 := bs.map norm
theorem u8_all {P : UInt8 → Prop} (h : ∀ n : Fin 256, P (UInt8.ofNat n.val)) (c : UInt8) : P c := by
  have := h ⟨c.toNat, c.toNat_lt⟩
  dsimp only at this
  rw [UInt8.ofNat_toNat] at this
  exact this
theorem norm_eq {c k : UInt8} (hk : okSign k = true) : norm c = k ↔ c = k := by
  unfold norm
  by_cases h : okSign c = true
  · rw [if_pos h]
  · rw [if_neg h]
    constructor
    · intro e
      rw [← e] at hk
      exact absurd hk (by decide +kernel)
    · intro e
      rw [e] at h
      exact absurd hk h
theorem alpha_tb : ∀ c : UInt8, Txt.isalpha (strOf [norm c]) = isLetter c := u8_all (by decide +kernel)
theorem digit_tb : ∀ c : UInt8, Txt.isdigit (strOf [norm c]) = isDigit c := u8_all (by decide +kernel)
theorem space_tb : ∀ c : UInt8, Txt.isspace (strOf [norm c]) = isBlank c := u8_all (by decide +kernel)
theorem letter_norm : ∀ c : UInt8, isLetter c = true → norm c = c := u8_all (by decide +kernel)
theorem digit_norm : ∀ c : UInt8, isDigit c = true → norm c = c := u8_all (by decide +kernel)
theorem class_tb : ∀ c : UInt8, (isLetter c && isDigit c) = false ∧ (isLetter c && isBlank c) = false ∧ (isDigit c && isBlank c) = false := u8_all (by decide +kernel)
theorem txt_e0 : Txt.isalpha (strOf []) = false ∧ Txt.isdigit (strOf []) = false ∧ Txt.isspace (strOf []) = false := by decide +kernel
/-- the sign at p, none behind the end -/
def sg (bs : List UInt8) (p : Nat) : List UInt8 := ((nb bs).drop p).take 1
theorem sg_at {bs : List UInt8} {p : Nat} {c : UInt8} (h : bs[p]? = some c) : sg bs p = [norm c] := by
  unfold sg
  have h' : (nb bs)[p]? = some (norm c) := by
    rw [List.getElem?_map, h]
    rfl
  obtain ⟨hl, e⟩ := List.getElem?_eq_some_iff.mp h'
  rw [List.drop_eq_getElem_cons hl, e]
  rfl
theorem sg_end {bs : List UInt8} {p : Nat} (h : bs[p]? = none) : sg bs p = [] := by
  unfold sg
  have hl : bs.length ≤ p := List.getElem?_eq_none_iff.mp h
  rw [List.drop_eq_nil_of_le (by rw [List.length_map]; exact hl)]
  rfl
theorem sg_is {bs : List UInt8} {p : Nat} {k : UInt8} (hk : okSign k = true) : sg bs p = [k] ↔ bs[p]? = some k := by
  cases h : bs[p]? with
  | none =>
    rw [sg_end h]
    constructor
    · intro e; cases e
    · intro e; cases e
  | some c =>
    rw [sg_at h]
    constructor
    · intro e
      injection e with e _
      rw [(norm_eq hk).mp e]
    · intro e
      injection e with e
      rw [(norm_eq hk).mpr e]
theorem sg_nil {bs : List UInt8} {p : Nat} : sg bs p = [] ↔ bs[p]? = none := by
  cases h : bs[p]? with
  | none => rw [sg_end h]; exact ⟨fun _ => rfl, fun _ => rfl⟩
  | some c =>
    rw [sg_at h]
    constructor
    · intro e; cases e
    · intro e; cases e
def hereP (P : UInt8 → Bool) (bs : List UInt8) (p : Nat) : Bool := match bs[p]? with
  | some c => P c
  | none => false
theorem sg_alpha (bs : List UInt8) (p : Nat) : Txt.isalpha (strOf (sg bs p)) = hereP isLetter bs p := by
  unfold hereP
  cases h : bs[p]? with
  | none => rw [sg_end h]; exact txt_e0.1
  | some c => rw [sg_at h]; exact alpha_tb c
theorem sg_digit (bs : List UInt8) (p : Nat) : Txt.isdigit (strOf (sg bs p)) = hereP isDigit bs p := by
  unfold hereP
  cases h : bs[p]? with
  | none => rw [sg_end h]; exact txt_e0.2.1
  | some c => rw [sg_at h]; exact digit_tb c
theorem sg_space (bs : List UInt8) (p : Nat) : Txt.isspace (strOf (sg bs p)) = hereP isBlank bs p := by
  unfold hereP
  cases h : bs[p]? with
  | none => rw [sg_end h]; exact txt_e0.2.2
  | some c => rw [sg_at h]; exact space_tb c
/-! ### as far as signs are of a kind -/
def upTo (P : UInt8 → Bool) (bs : List UInt8) (p : Nat) : Nat := p + ((bs.drop p).takeWhile P).length
theorem drop_cons {bs : List UInt8} {p : Nat} {c : UInt8} (h : bs[p]? = some c) : bs.drop p = c :: bs.drop (p + 1) := by
  obtain ⟨hl, e⟩ := List.getElem?_eq_some_iff.mp h
  rw [List.drop_eq_getElem_cons hl, e]
theorem drop_none {bs : List UInt8} {p : Nat} (h : bs[p]? = none) : bs.drop p = [] := List.drop_eq_nil_of_le (List.getElem?_eq_none_iff.mp h)
theorem upTo_step {P : UInt8 → Bool} {bs : List UInt8} {p : Nat} (h : hereP P bs p = true) : upTo P bs p = upTo P bs (p + 1) ∧ p < bs.length := by
  unfold hereP at h
  cases e : bs[p]? with
  | none => rw [e] at h; cases h
  | some c =>
    rw [e] at h
    replace h : P c = true := h
    refine ⟨?_, (List.getElem?_eq_some_iff.mp e).1⟩
    unfold upTo
    rw [drop_cons e, List.takeWhile_cons_of_pos h, List.length_cons]
    omega
theorem upTo_stop {P : UInt8 → Bool} {bs : List UInt8} {p : Nat} (h : hereP P bs p = false) : upTo P bs p = p := by
  unfold hereP at h
  unfold upTo
  cases e : bs[p]? with
  | none => rw [drop_none e]; rfl
  | some c =>
    rw [e] at h
    replace h : P c = false := h
    rw [drop_cons e, List.takeWhile_cons_of_neg (by rw [h]; exact Bool.false_ne_true)]
    rfl
theorem tw_len_le {P : UInt8 → Bool} (l : List UInt8) : (l.takeWhile P).length ≤ l.length := by
  induction l with
  | nil => exact Nat.le_refl _
  | cons c r ih =>
    by_cases h : P c = true
    · rw [List.takeWhile_cons_of_pos h, List.length_cons, List.length_cons]
      omega
    · rw [List.takeWhile_cons_of_neg h]
      exact Nat.zero_le _
theorem upTo_le {P : UInt8 → Bool} {bs : List UInt8} {p : Nat} (h : p ≤ bs.length) : upTo P bs p ≤ bs.length := by
  have := tw_len_le (P := P) (bs.drop p)
  rw [List.length_drop] at this
  unfold upTo
  omega
theorem upTo_ge {P : UInt8 → Bool} {bs : List UInt8} {p : Nat} : p ≤ upTo P bs p := Nat.le_add_right _ _
theorem take_tw {P : UInt8 → Bool} : ∀ l : List UInt8, l.take (l.takeWhile P).length = l.takeWhile P
  | [] => rfl
  | c :: r => by
    by_cases h : P c = true
    · rw [List.takeWhile_cons_of_pos h, List.length_cons, List.take_succ_cons, take_tw r]
    · rw [List.takeWhile_cons_of_neg h]
      rfl
theorem drop_tw {P : UInt8 → Bool} : ∀ l : List UInt8, l.drop (l.takeWhile P).length = l.dropWhile P
  | [] => rfl
  | c :: r => by
    by_cases h : P c = true
    · rw [List.takeWhile_cons_of_pos h, List.dropWhile_cons_of_pos h, List.length_cons, List.drop_succ_cons, drop_tw r]
    · rw [List.takeWhile_cons_of_neg h, List.dropWhile_cons_of_neg h]
      rfl
theorem tw_all {P : UInt8 → Bool} : ∀ (l : List UInt8), ∀ c ∈ l.takeWhile P, P c = true
  | [], c, h => by cases h
  | x :: r, c, h => by
    by_cases hx : P x = true
    · rw [List.takeWhile_cons_of_pos hx] at h
      rcases List.mem_cons.mp h with e | e
      · rw [e]; exact hx
      · exact tw_all r c e
    · rw [List.takeWhile_cons_of_neg hx] at h
      cases h
/-- what stands from p up to there, as the program's text has it -/
theorem nb_tw {P : UInt8 → Bool} (hP : ∀ c, P c = true → norm c = c) (bs : List UInt8) (p : Nat) : ((nb bs).drop p).take (upTo P bs p - p) = (bs.drop p).takeWhile P := by
  have e : upTo P bs p - p = ((bs.drop p).takeWhile P).length := by unfold upTo; omega
  rw [e, ← List.map_drop, ← List.map_take, take_tw]
  rw [List.map_congr_left (g := fun c => c) fun c hc => hP c (tw_all _ c hc)]
  exact List.map_id' _
theorem cut_nb (t : List UInt8) {a b : Nat} (h1 : a ≤ b) (h2 : b ≤ t.length) : cutS (strOf t) (some (a : Int)) (some (b : Int)) = strOf ((t.drop a).take (b - a)) := by
  unfold cutS
  rw [strOf_len, HT.sIx_nat, HT.sIx_nat, Nat.min_eq_left (Nat.le_trans h1 h2), Nat.min_eq_left h2, tl_strOf, ← List.map_drop, ← List.map_take]
  rfl
theorem cut_sg (bs : List UInt8) {p : Nat} (h : p ≤ bs.length) : cutS (strOf (nb bs)) (some (p : Int)) (some ((p : Int) + 1)) = strOf (sg bs p) := by
  have hl : (nb bs).length = bs.length := List.length_map _
  unfold cutS sg
  rw [strOf_len, HT.sIx_nat, show ((p : Int) + 1) = ((p + 1 : Nat) : Int) by omega, HT.sIx_nat, hl, Nat.min_eq_left h, tl_strOf]
  by_cases c : p < bs.length
  · rw [Nat.min_eq_left (by omega), show p + 1 - p = 1 by omega, ← List.map_drop, ← List.map_take]
    rfl
  · have e : p = bs.length := by omega
    subst e
    rw [← List.map_drop, List.drop_eq_nil_of_le (by rw [hl]; exact Nat.le_refl _), List.map_nil, List.take_nil, List.take_nil]
    rfl
/-! ### find, startswith -/
theorem find_iff (t : List UInt8) {p : Nat} {z : Str} {k : UInt8} (hz : z = ⟨#[k.toNat]⟩) : Txt.find3 (strOf t) z (p : Int) < 0 ↔ ∀ i, p ≤ i → t[i]? ≠ some k := by
  subst hz
  have hf : PySem.fromIndex (strOf t).length (p : Int) = p := by
    unfold PySem.fromIndex
    rw [if_neg (by omega)]
    omega
  have key := StrLaws.occ_none (strOf t) ⟨#[k.toNat]⟩ (strOf t).length (List.range' p ((strOf t).length + 1 - p)) p (fun i hi => by
    obtain ⟨j, _, rfl⟩ := List.mem_range'.mp hi
    omega)
  have sub : ∀ i, (i + (⟨#[k.toNat]⟩ : Str).length ≤ (strOf t).length ∧ Builtin.Str.subAt (strOf t) ⟨#[k.toNat]⟩ i = true) ↔ t[i]? = some k := by
    intro i
    rw [StrLaws.subAt_one, tl_strOf, List.getElem?_map]
    cases t[i]? with
    | none => simp
    | some c =>
      simp only [Option.map_some, Option.some.injEq]
      exact UInt8.toNat_inj
  unfold Txt.find3
  rw [hf, StrLaws.occ_eq]
  constructor
  · intro h i hi e
    cases q : (forIn (List.range' p ((strOf t).length + 1 - p)) ((#[] : Array Nat), p) (StrLaws.occBody (strOf t) ⟨#[k.toNat]⟩ (strOf t).length 1)).run.fst.toList with
    | nil =>
      have q' := key.mp (Array.toList_eq_nil_iff.mp q) i (List.mem_range'.mpr ⟨i - p, by
        have := (List.getElem?_eq_some_iff.mp e).1
        rw [strOf_len]
        omega, by omega⟩)
      exact q' ((sub i).mpr e)
    | cons a r =>
      rw [q] at h
      dsimp only at h
      omega
  · intro h
    have q := key.mpr fun i hi e => by
      obtain ⟨j, _, rfl⟩ := List.mem_range'.mp hi
      exact h _ (by omega) ((sub _).mp e)
    rw [q]
    decide
theorem starts_tb (b : List UInt8) {z : Str} (hz : z = strOf [48]) : Txt.startswith (strOf b) z = (b.head? == some 48) := by
  subst hz
  unfold Txt.startswith
  rw [StrLaws.subAt_eq]
  cases b with
  | nil => rfl
  | cons c r =>
    have e : ((List.drop 0 (strOf (c :: r)).cps.toList).take (strOf [48]).length == (strOf [48]).cps.toList) = ((c :: r).head? == some 48) := by
      show ([c.toNat] == [48]) = (some c == some 48)
      rw [Bool.eq_iff_iff, beq_iff_eq, beq_iff_eq]
      constructor
      · intro h
        injection h with h
        rw [UInt8.toNat_inj.mp (show c.toNat = (48 : UInt8).toNat from h)]
      · intro h
        injection h with h
        rw [h]
        rfl
    rw [e, strOf_len, strOf_len]
    show (decide (0 + 1 ≤ r.length + 1) && _) = _
    rw [decide_eq_true (by omega)]
    rfl
end HC
namespace HC
open PySem PySem.Spec PyProof.Rows L2 ShBlazon
section
variable {P : Program} {w : World} {K : PySem.W.Frag} {mg : Str → Option Value} {base : Heap} {d : Ad}
/-! ### the cursor -/
abbrev cuF : List Str := ["text", "place"]
abbrev cur (d : Ad) (x : Addr) (bs : List UInt8) (p : Nat) : HO := .ins d.cCursor x (cuF.zip [vS (nb bs), vN p])
structure CAt (d : Ad) (bs : List UInt8) (C x : Addr) (H : Hp) (p : Nat) : Prop where
  hC : H C = some (cur d x bs p)
  le : p ≤ bs.length
  sz : bs.length ≤ 4096
theorem nb_fit {bs : List UInt8} (h : bs.length ≤ 4096) : (strOf (nb bs)).length ≤ sizeLine := by
  rw [strOf_len, List.length_map]
  exact Nat.le_trans h (by decide)
theorem cu_no {bs : List UInt8} {p : Nat} {f : Str} (h : f ∉ cuF) : (cuF.zip [vS (nb bs), vN p]).lookup f = none := look_no _ _ _ h
theorem put_pl {bs : List UInt8} {p q : Nat} {z : Int} (hz : z = (q : Int)) : putF "place" (V.int z) (cuF.zip [vS (nb bs), vN p]) = cuF.zip [vS (nb bs), vN q] := by
  subst hz
  rw [put_at _ _ _ _ 1 rfl (by decide +kernel)]
  rfl
def spCursor (d : Ad) : Sp := fun vs H Q _ => ∃ (p x : Addr) (bs : List UInt8), vs = [.ref p, vS (nb bs)] ∧ H p = some (.ins d.cCursor x []) ∧ ∀ H', (∀ b, b ≠ p → H' b = H b) → H' p = some (cur d x bs 0) → Q .non H'
theorem sc_Cursor_init : FnScope ["self", "text"] ["self", "text"] (defScope s_Cursor_init) := ⟨rfl, rfl, rfl, by decide +kernel, rfl, by decide +kernel, by decide +kernel⟩
theorem ok_Cursor_init (T : Txt K mg d) : OkD P w K mg base CX0 1 d.mCursor_init ["self", "text"] (spCursor d) := by
  obtain ⟨fd, F, B⟩ := T.kCursor.ini
  refine ⟨⟨fd, F.ok sc_Cursor_init (fun vs H Q E h => ?_) (fun cdv A outer s H vs Q E hr h => ?_), B⟩, F.kp⟩
  · obtain ⟨p, x, bs, rfl, _⟩ := h
    rfl
  · obtain ⟨p, x, bs, rfl, hp, k⟩ := h
    refine ⟨_, pss_cons (ps_fld (pv 0) (pv 1) rfl) (pss_one (ps_fld (pv 0) pe_int rfl)), ?_⟩
    refine ⟨_, rfl, _, rfl, p, d.cCursor, x, _, rfl, hp, T.kCursor.cl, T.kCursor.no.1, (by decide), ?_⟩
    have e1 : putF "text" (vS (nb bs)) [] = (["text"] : List Str).zip [vS (nb bs)] := rfl
    refine ⟨_, rfl, p, d.cCursor, x, _, rfl, upd_same, T.kCursor.cl, T.kCursor.no.2.1, (by rw [e1]; show 1 < 1000; decide), ?_⟩
    have e2 : putF "place" (.int 0) (putF "text" (vS (nb bs)) []) = cuF.zip [vS (nb bs), vN 0] := by
      rw [e1, put_new _ _ _ _ rfl (by decide +kernel)]
      rfl
    exact k _ (fun b hb => by rw [upd_ne hb, upd_ne hb]) (by rw [upd_same, e2])
def spSign (d : Ad) : Sp := fun vs H Q _ => ∃ (C : Addr) (bs : List UInt8) (x : Addr) (p : Nat), vs = [.ref C] ∧ CAt d bs C x H p ∧ Q (vS (sg bs p)) H
theorem sc_Cursor_sign : FnScope ["self"] ["self"] (defScope s_Cursor_sign) := ⟨rfl, rfl, rfl, by decide +kernel, rfl, by decide +kernel, by decide +kernel⟩
theorem ok_Cursor_sign (T : Txt K mg d) : OkD P w K mg base CX0 1 d.mCursor_sign ["self"] (spSign d) := by
  obtain ⟨fd, F, B⟩ := T.kCursor_sign.ex
  refine ⟨⟨fd, F.ok sc_Cursor_sign (fun vs H Q E h => ?_) (fun cdv A outer s H vs Q E hr h => ?_), B⟩, F.kp⟩
  · obtain ⟨C, bs, x, p, rfl, _⟩ := h
    rfl
  · obtain ⟨C, bs, dxC, p, rfl, A1, k⟩ := h
    have hC := A1.hC
    refine ⟨_, pss_one (ps_ret (pe_slice sl_str (pe_fld (pv 0) rfl) (po_some (pe_fld (pv 0) rfl)) (po_some (pe_op op_add (pe_fld (pv 0) rfl) pe_int)))), ?_⟩
    refine ⟨_, rfl, C, d.cCursor, dxC, _, _, rfl, hC, T.kCursor.cl, T.kCursor.no.1, look_at _ _ _ 0 rfl (by decide +kernel), _, rfl, C, d.cCursor, dxC, _, _, rfl, hC, T.kCursor.cl, T.kCursor.no.2.1, look_at _ _ _ 1 rfl (by decide +kernel), _, rfl, _, rfl, C, d.cCursor, dxC, _, _, rfl, hC, T.kCursor.cl, T.kCursor.no.2.1, look_at _ _ _ 1 rfl (by decide +kernel), _, _, rfl, rfl, _, rfl, _, rfl, nb_fit A1.sz, ?_⟩
    rw [cut_sg bs A1.le]
    exact k
theorem CAt.to {bs : List UInt8} {C x : Addr} {H H' : Hp} {p q : Nat} (A : CAt d bs C x H p) (h : H' C = some (cur d x bs q)) (l : q ≤ bs.length) : CAt d bs C x H' q := ⟨h, l, A.sz⟩
/-- the cursor goes on while its sign is of a kind -/
def spGo (d : Ad) (P : UInt8 → Bool) (v : List UInt8 → Nat → V) : Sp := fun vs H Q _ => ∃ (C : Addr) (bs : List UInt8) (x : Addr) (p : Nat), vs = [.ref C] ∧ CAt d bs C x H p ∧
  ∀ H', Keep C H H' → H' C = some (cur d x bs (upTo P bs p)) → upTo P bs p ≤ bs.length → Q (v bs p) H'
theorem sc_Cursor_skip_blanks : FnScope ["self"] ["self"] (defScope s_Cursor_skip_blanks) := ⟨rfl, rfl, rfl, by decide +kernel, rfl, by decide +kernel, by decide +kernel⟩
theorem ok_Cursor_skip_blanks (T : Txt K mg d) : OkD P w K mg base CX0 2 d.mCursor_skip_blanks ["self"] (spGo d isBlank (fun _ _ => .non)) := by
  obtain ⟨fd, F, B⟩ := T.kCursor_skip_blanks.ex
  obtain ⟨⟨fd_Cursor_sign, G_Cursor_sign, B_Cursor_sign⟩, kp_Cursor_sign⟩ := ok_Cursor_sign (P := P) (w := w) (base := base) T
  refine ⟨⟨fd, F.ok sc_Cursor_skip_blanks (fun vs H Q E h => ?_) (fun cdv A outer s H vs Q E hr h => ?_), B⟩, F.kp⟩
  · obtain ⟨C, bs, x, p, rfl, _⟩ := h
    rfl
  · obtain ⟨C, bs, dxC, p, rfl, A1, k⟩ := h
    have hr_Cursor_sign : Room 1 _ := hr.mono (by decide)
    refine ⟨_, pss_one (ps_while PassesOwn.never (pt_val (pe_m0 PySem.F.slot_str_isspace PySem.F.type_str_isspace mt_isspace (pe_meth0 (pv 0) T.kCursor.cl T.kCursor_sign.me G_Cursor_sign hr_Cursor_sign B_Cursor_sign .nil pass0)))
        (pss_one (ps_fld (pv 0) (pe_op op_add (pe_fld (pv 0) rfl) pe_int) rfl))), ?_⟩
    refine ⟨fun m σ' H' => ∃ q, m = bs.length - q ∧ σ' = [some (.ref C)] ∧ q ≤ bs.length ∧ Keep C H H' ∧ H' C = some (cur d dxC bs q) ∧ upTo isBlank bs q = upTo isBlank bs p, ⟨_, p, rfl, rfl, A1.le, Keep.refl _ _, A1.hC, rfl⟩, ?_⟩
    rintro m σ' H1 ⟨q, rfl, rfl, hq, kp, hC, eq⟩
    refine ⟨_, rfl, C, dxC, _, rfl, hC, cu_no (by decide +kernel), C, bs, dxC, q, rfl, ⟨hC, hq, A1.sz⟩, ⟨_, rfl⟩, _, rfl, rfl, trivial, _, rfl, ?_⟩
    rw [sg_space]
    cases b : hereP isBlank bs q with
    | true =>
      rw [if_pos rfl]
      obtain ⟨e1, e2⟩ := upTo_step b
      refine ⟨fun σ' H' => σ' = [some (.ref C)] ∧ q + 1 ≤ bs.length ∧ Keep C H H' ∧ H' C = some (cur d dxC bs (q + 1)) ∧ upTo isBlank bs (q + 1) = upTo isBlank bs p, fun σ' H' z => ⟨bs.length - (q + 1), by omega, q + 1, rfl, z⟩, ?_⟩
      refine ⟨_, rfl, C, d.cCursor, dxC, _, _, rfl, hC, T.kCursor.cl, T.kCursor.no.2.1, look_at _ _ _ 1 rfl (by decide +kernel), _, _, rfl, rfl, _, rfl, C, d.cCursor, dxC, _, rfl, hC, T.kCursor.cl, T.kCursor.no.2.1, (by show 2 < 1000; decide), ?_⟩
      refine ⟨rfl, e2, fun b o hb ho => by rw [upd_ne hb]; exact kp b o hb ho, by rw [upd_same, put_pl (q := q + 1) (by omega)], by rw [← e1]; exact eq⟩
    | false =>
      rw [if_neg Bool.false_ne_true]
      have e1 := upTo_stop b
      rw [eq] at e1
      exact k _ kp (by rw [e1]; exact hC) (by rw [e1]; exact hq)
theorem sc_Cursor_take_letters : FnScope ["self", "start"] ["self"] (defScope s_Cursor_take_letters) := ⟨rfl, rfl, rfl, by decide +kernel, rfl, by decide +kernel, by decide +kernel⟩
theorem ok_Cursor_take_letters (T : Txt K mg d) : OkD P w K mg base CX0 2 d.mCursor_take_letters ["self"] (spGo d isLetter (fun bs p => vS ((bs.drop p).takeWhile isLetter))) := by
  obtain ⟨fd, F, B⟩ := T.kCursor_take_letters.ex
  obtain ⟨⟨fd_Cursor_sign, G_Cursor_sign, B_Cursor_sign⟩, kp_Cursor_sign⟩ := ok_Cursor_sign (P := P) (w := w) (base := base) T
  refine ⟨⟨fd, F.ok sc_Cursor_take_letters (fun vs H Q E h => ?_) (fun cdv A outer s H vs Q E hr h => ?_), B⟩, F.kp⟩
  · obtain ⟨C, bs, x, p, rfl, _⟩ := h
    rfl
  · obtain ⟨C, bs, dxC, p, rfl, A1, k⟩ := h
    have hC := A1.hC
    have hr_Cursor_sign : Room 1 _ := hr.mono (by decide)
    refine ⟨_, pss_cons (ps_set (i := 1) sc_Cursor_take_letters.nd rfl (Or.inl rfl) (pe_fld (pv 0) rfl))
      (pss_cons (ps_while PassesOwn.never (pt_val (pe_m0 PySem.F.slot_str_isalpha PySem.F.type_str_isalpha mt_isalpha (pe_meth0 (pv 0) T.kCursor.cl T.kCursor_sign.me G_Cursor_sign hr_Cursor_sign B_Cursor_sign .nil pass0)))
        (pss_one (ps_fld (pv 0) (pe_op op_add (pe_fld (pv 0) rfl) pe_int) rfl)))
      (pss_one (ps_ret (pe_slice sl_str (pe_fld (pv 0) rfl) (po_some (pv 1)) (po_some (pe_fld (pv 0) rfl)))))), ?_⟩
    refine ⟨_, rfl, C, d.cCursor, dxC, _, _, rfl, hC, T.kCursor.cl, T.kCursor.no.2.1, look_at _ _ _ 1 rfl (by decide +kernel), ?_⟩
    refine ⟨fun m σ' H' => ∃ q, m = bs.length - q ∧ σ' = [some (.ref C), some (vN p)] ∧ q ≤ bs.length ∧ Keep C H H' ∧ H' C = some (cur d dxC bs q) ∧ upTo isLetter bs q = upTo isLetter bs p, ⟨_, p, rfl, rfl, A1.le, Keep.refl _ _, A1.hC, rfl⟩, ?_⟩
    rintro m σ' H1 ⟨q, rfl, rfl, hq, kp, hC, eq⟩
    refine ⟨_, rfl, C, dxC, _, rfl, hC, cu_no (by decide +kernel), C, bs, dxC, q, rfl, ⟨hC, hq, A1.sz⟩, ⟨_, rfl⟩, _, rfl, rfl, trivial, _, rfl, ?_⟩
    rw [sg_alpha]
    cases b : hereP isLetter bs q with
    | true =>
      rw [if_pos rfl]
      obtain ⟨e1, e2⟩ := upTo_step b
      refine ⟨fun σ' H' => σ' = [some (.ref C), some (vN p)] ∧ q + 1 ≤ bs.length ∧ Keep C H H' ∧ H' C = some (cur d dxC bs (q + 1)) ∧ upTo isLetter bs (q + 1) = upTo isLetter bs p, fun σ' H' z => ⟨bs.length - (q + 1), by omega, q + 1, rfl, z⟩, ?_⟩
      refine ⟨_, rfl, C, d.cCursor, dxC, _, _, rfl, hC, T.kCursor.cl, T.kCursor.no.2.1, look_at _ _ _ 1 rfl (by decide +kernel), _, _, rfl, rfl, _, rfl, C, d.cCursor, dxC, _, rfl, hC, T.kCursor.cl, T.kCursor.no.2.1, (by show 2 < 1000; decide), ?_⟩
      refine ⟨rfl, e2, fun b o hb ho => by rw [upd_ne hb]; exact kp b o hb ho, by rw [upd_same, put_pl (q := q + 1) (by omega)], by rw [← e1]; exact eq⟩
    | false =>
      rw [if_neg Bool.false_ne_true]
      have e1 := upTo_stop b
      rw [eq] at e1
      refine ⟨_, rfl, C, d.cCursor, dxC, _, _, rfl, hC, T.kCursor.cl, T.kCursor.no.1, look_at _ _ _ 0 rfl (by decide +kernel), _, rfl, _, rfl, _, rfl, C, d.cCursor, dxC, _, _, rfl, hC, T.kCursor.cl, T.kCursor.no.2.1, look_at _ _ _ 1 rfl (by decide +kernel), _, rfl, _, rfl, nb_fit A1.sz, ?_⟩
      have hp : p ≤ q := by rw [← e1]; exact upTo_ge
      rw [cut_nb _ hp (by rw [List.length_map]; exact hq), ← e1, nb_tw letter_norm]
      exact k _ kp (by rw [e1]; exact hC) (by rw [e1]; exact hq)
theorem sc_Cursor_take_digits : FnScope ["self", "start"] ["self"] (defScope s_Cursor_take_digits) := ⟨rfl, rfl, rfl, by decide +kernel, rfl, by decide +kernel, by decide +kernel⟩
theorem ok_Cursor_take_digits (T : Txt K mg d) : OkD P w K mg base CX0 2 d.mCursor_take_digits ["self"] (spGo d isDigit (fun bs p => vS ((bs.drop p).takeWhile isDigit))) := by
  obtain ⟨fd, F, B⟩ := T.kCursor_take_digits.ex
  obtain ⟨⟨fd_Cursor_sign, G_Cursor_sign, B_Cursor_sign⟩, kp_Cursor_sign⟩ := ok_Cursor_sign (P := P) (w := w) (base := base) T
  refine ⟨⟨fd, F.ok sc_Cursor_take_digits (fun vs H Q E h => ?_) (fun cdv A outer s H vs Q E hr h => ?_), B⟩, F.kp⟩
  · obtain ⟨C, bs, x, p, rfl, _⟩ := h
    rfl
  · obtain ⟨C, bs, dxC, p, rfl, A1, k⟩ := h
    have hC := A1.hC
    have hr_Cursor_sign : Room 1 _ := hr.mono (by decide)
    refine ⟨_, pss_cons (ps_set (i := 1) sc_Cursor_take_digits.nd rfl (Or.inl rfl) (pe_fld (pv 0) rfl))
      (pss_cons (ps_while PassesOwn.never (pt_val (pe_m0 PySem.F.slot_str_isdigit PySem.F.type_str_isdigit mt_isdigit (pe_meth0 (pv 0) T.kCursor.cl T.kCursor_sign.me G_Cursor_sign hr_Cursor_sign B_Cursor_sign .nil pass0)))
        (pss_one (ps_fld (pv 0) (pe_op op_add (pe_fld (pv 0) rfl) pe_int) rfl)))
      (pss_one (ps_ret (pe_slice sl_str (pe_fld (pv 0) rfl) (po_some (pv 1)) (po_some (pe_fld (pv 0) rfl)))))), ?_⟩
    refine ⟨_, rfl, C, d.cCursor, dxC, _, _, rfl, hC, T.kCursor.cl, T.kCursor.no.2.1, look_at _ _ _ 1 rfl (by decide +kernel), ?_⟩
    refine ⟨fun m σ' H' => ∃ q, m = bs.length - q ∧ σ' = [some (.ref C), some (vN p)] ∧ q ≤ bs.length ∧ Keep C H H' ∧ H' C = some (cur d dxC bs q) ∧ upTo isDigit bs q = upTo isDigit bs p, ⟨_, p, rfl, rfl, A1.le, Keep.refl _ _, A1.hC, rfl⟩, ?_⟩
    rintro m σ' H1 ⟨q, rfl, rfl, hq, kp, hC, eq⟩
    refine ⟨_, rfl, C, dxC, _, rfl, hC, cu_no (by decide +kernel), C, bs, dxC, q, rfl, ⟨hC, hq, A1.sz⟩, ⟨_, rfl⟩, _, rfl, rfl, trivial, _, rfl, ?_⟩
    rw [sg_digit]
    cases b : hereP isDigit bs q with
    | true =>
      rw [if_pos rfl]
      obtain ⟨e1, e2⟩ := upTo_step b
      refine ⟨fun σ' H' => σ' = [some (.ref C), some (vN p)] ∧ q + 1 ≤ bs.length ∧ Keep C H H' ∧ H' C = some (cur d dxC bs (q + 1)) ∧ upTo isDigit bs (q + 1) = upTo isDigit bs p, fun σ' H' z => ⟨bs.length - (q + 1), by omega, q + 1, rfl, z⟩, ?_⟩
      refine ⟨_, rfl, C, d.cCursor, dxC, _, _, rfl, hC, T.kCursor.cl, T.kCursor.no.2.1, look_at _ _ _ 1 rfl (by decide +kernel), _, _, rfl, rfl, _, rfl, C, d.cCursor, dxC, _, rfl, hC, T.kCursor.cl, T.kCursor.no.2.1, (by show 2 < 1000; decide), ?_⟩
      refine ⟨rfl, e2, fun b o hb ho => by rw [upd_ne hb]; exact kp b o hb ho, by rw [upd_same, put_pl (q := q + 1) (by omega)], by rw [← e1]; exact eq⟩
    | false =>
      rw [if_neg Bool.false_ne_true]
      have e1 := upTo_stop b
      rw [eq] at e1
      refine ⟨_, rfl, C, d.cCursor, dxC, _, _, rfl, hC, T.kCursor.cl, T.kCursor.no.1, look_at _ _ _ 0 rfl (by decide +kernel), _, rfl, _, rfl, _, rfl, C, d.cCursor, dxC, _, _, rfl, hC, T.kCursor.cl, T.kCursor.no.2.1, look_at _ _ _ 1 rfl (by decide +kernel), _, rfl, _, rfl, nb_fit A1.sz, ?_⟩
      have hp : p ≤ q := by rw [← e1]; exact upTo_ge
      rw [cut_nb _ hp (by rw [List.length_map]; exact hq), ← e1, nb_tw digit_norm]
      exact k _ kp (by rw [e1]; exact hC) (by rw [e1]; exact hq)
def spTakeS (d : Ad) : Sp := fun vs H Q _ => ∃ (C : Addr) (bs : List UInt8) (x : Addr) (p : Nat), vs = [.ref C] ∧ CAt d bs C x H p ∧ p < bs.length ∧
  ∀ H', Keep C H H' → H' C = some (cur d x bs (p + 1)) → Q (vS (sg bs p)) H'
theorem sc_Cursor_take_sign : FnScope ["self", "sign"] ["self"] (defScope s_Cursor_take_sign) := ⟨rfl, rfl, rfl, by decide +kernel, rfl, by decide +kernel, by decide +kernel⟩
theorem ok_Cursor_take_sign (T : Txt K mg d) : OkD P w K mg base CX0 2 d.mCursor_take_sign ["self"] (spTakeS d) := by
  obtain ⟨fd, F, B⟩ := T.kCursor_take_sign.ex
  obtain ⟨⟨fd_Cursor_sign, G_Cursor_sign, B_Cursor_sign⟩, kp_Cursor_sign⟩ := ok_Cursor_sign (P := P) (w := w) (base := base) T
  refine ⟨⟨fd, F.ok sc_Cursor_take_sign (fun vs H Q E h => ?_) (fun cdv A outer s H vs Q E hr h => ?_), B⟩, F.kp⟩
  · obtain ⟨C, bs, x, p, rfl, _⟩ := h
    rfl
  · obtain ⟨C, bs, dxC, p, rfl, A1, hp, k⟩ := h
    have hC := A1.hC
    have hr_Cursor_sign : Room 1 _ := hr.mono (by decide)
    refine ⟨_, pss_cons (ps_set (i := 1) sc_Cursor_take_sign.nd rfl (Or.inl rfl) (pe_meth0 (pv 0) T.kCursor.cl T.kCursor_sign.me G_Cursor_sign hr_Cursor_sign B_Cursor_sign .nil pass0))
      (pss_cons (ps_fld (pv 0) (pe_op op_add (pe_fld (pv 0) rfl) pe_int) rfl)
      (pss_one (ps_ret (pv 1)))), ?_⟩
    refine ⟨_, rfl, C, dxC, _, rfl, hC, cu_no (by decide +kernel), C, bs, dxC, p, rfl, A1, ?_⟩
    refine ⟨_, rfl, C, d.cCursor, dxC, _, _, rfl, hC, T.kCursor.cl, T.kCursor.no.2.1, look_at _ _ _ 1 rfl (by decide +kernel), _, _, rfl, rfl, _, rfl, C, d.cCursor, dxC, _, rfl, hC, T.kCursor.cl, T.kCursor.no.2.1, (by show 2 < 1000; decide), ?_⟩
    refine ⟨_, rfl, k _ (fun b o hb ho => by rw [upd_ne hb]; exact ho) (by rw [upd_same, put_pl (q := p + 1) (by omega)])⟩
/-! ### is_number -/
def isNum (b : List UInt8) : Bool := decide (b.length ≤ 3) && !(b.head? == some 48)
def spIsNum : Sp := fun vs H Q _ => ∃ b : List UInt8, vs = [vS b] ∧ b.length ≤ 4096 ∧ Q (.bl (isNum b)) H
theorem sc_is_number : FnScope ["digits"] ["digits"] (defScope s_is_number) := ⟨rfl, rfl, rfl, by decide +kernel, rfl, by decide +kernel, by decide +kernel⟩
theorem ok_is_number (T : Txt K mg d) : OkD P w K mg base CX0 1 d.f_is_number ["digits"] (spIsNum) := by
  obtain ⟨fd, F, B⟩ := T.k_is_number.ex
  refine ⟨⟨fd, F.ok sc_is_number (fun vs H Q E h => ?_) (fun cdv A outer s H vs Q E hr h => ?_), B⟩, F.kp⟩
  · obtain ⟨b, rfl, _⟩ := h
    rfl
  · obtain ⟨b, rfl, hl, k⟩ := h
    refine ⟨_, pss_one (ps_ret (pe_and (pe_cmpR op_le (pe_callB call_len_str (by rfl) T.b_len PySem.boot_len (pa_cons (pv 0) pa_nil)) pe_int (nomark _)) (pe_one (pe_not (pe_m1 PySem.F.slot_str_startswith PySem.F.type_str_startswith mt_startswith (pv 0) pe_str))))), ?_⟩
    refine ⟨_, rfl, _, rfl, (by rw [strOf_len]; exact Nat.le_trans hl (by decide)), _, _, rfl, rfl, _, rfl, ?_⟩
    have e : decide ((((strOf b).length : Nat) : Int) ≤ 3) = decide (b.length ≤ 3) := by
      rw [strOf_len, Bool.eq_iff_iff, decide_eq_true_eq, decide_eq_true_eq]
      omega
    rw [e]
    unfold isNum at k
    cases c : decide (b.length ≤ 3) with
    | true =>
      rw [if_pos rfl]
      rw [c] at k
      refine ⟨_, rfl, ⟨_, rfl⟩, _, _, rfl, rfl, _, rfl, ?_⟩
      rw [starts_tb b (by decide +kernel)]
      exact k
    | false =>
      rw [if_neg Bool.false_ne_true]
      rw [c] at k
      exact k
end
end HC


namespace HC
open PySem PySem.Spec PyProof.Rows L2 ShBlazon
def SG : List Nat := ("\n abcdefghijklmnopqrstuvwxyz0123456789,.;()[]" : Str).cps.toList
def sgD (i : Nat) : List (Key × V) := (SG.take i).map fun (c : Nat) => (Sum.inl (c : Int), V.str ⟨#[c]⟩)
theorem sg_put : ∀ i : Fin 45, putK (sgD i.val) (Sum.inl ((SG.getD i.val 0 : Nat) : Int)) (V.str ⟨#[SG.getD i.val 0]⟩) = sgD (i.val + 1) := by decide +kernel
theorem sg_val : ∀ n : Fin 256, ((valV (sgD 45) (Sum.inl ((n.val : Nat) : Int))).getD (V.str ("?" : Str))) = vS [norm (UInt8.ofNat n.val)] := by decide +kernel
theorem glue_one : ∀ bs : List UInt8, glue [] (bs.map fun c => [norm c]) = nb bs
  | [] => rfl
  | [_] => rfl
  | x :: y :: r => by
    show [norm x] ++ ([] ++ glue [] ((y :: r).map fun c => [norm c])) = norm x :: nb (y :: r)
    rw [glue_one (y :: r)]
    rfl
section
variable {P : Program} {w : World} {K : PySem.W.Frag} {mg : Str → Option Value} {base : Heap} {d : Ad}
/-- a list that a comprehension builds at D -/
structure Cm (H : Hp) (D : Addr) (acc : List V) (H' : Hp) : Prop where
  sm : Same H H'
  ac : H' D = some (.lst acc)
theorem Cm.start {H : Hp} {D : Addr} (hD : H D = none) : Cm H D [] (upd H D (.lst [])) := ⟨fun b o h => by rw [upd_ne (ne_of_none h hD)]; exact h, upd_same⟩
theorem Cm.turn {H H' H4 : Hp} {D : Addr} {acc : List V} (hD : H D = none) (c : Cm H D acc H') (s : Same H' H4) (y : V) : H4 D = some (.lst acc) ∧ Cm H D (acc ++ [y]) (upd H4 D (.lst (acc ++ [y]))) := by
  refine ⟨s _ _ c.ac, fun b o h => ?_, upd_same⟩
  rw [upd_ne (ne_of_none h hD)]
  exact s _ _ (c.sm b o h)
theorem get_map {α : Type} {f : α → V} {l : List α} {i : Nat} {x : V} (h : (l.map f)[i]? = some x) : ∃ w, l[i]? = some w ∧ x = f w := by
  rw [List.getElem?_map] at h
  cases q : l[i]? with
  | none => rw [q] at h; cases h
  | some w => rw [q] at h; cases h; exact ⟨w, rfl, rfl⟩
theorem get_lt {α : Type} {l : List α} {i : Nat} {x : α} (h : l[i]? = some x) : i < l.length := by
  rcases Nat.lt_or_ge i l.length with z | z
  · exact z
  · rw [List.getElem?_eq_none z] at h
    cases h
theorem new_same {H : Hp} {p : Addr} {o : HO} (np : H p = none) : Same H (upd H p o) := fun b u h => by rw [upd_ne (ne_of_none h np)]; exact h
/-! ### text_of -/
def spTextOf (K : PySem.W.Frag) : Sp := fun vs H Q _ => ∃ (a : Addr) (bs : List UInt8), vs = [.ref a] ∧ SqL K H a (vals bs) ∧ bs.length ≤ 4096 ∧ ∀ H', Same H H' → Q (vS (nb bs)) H'
theorem sc_text_of : FnScope ["numbers", "signs", "sign", "number"] ["numbers"] (defScope s_text_of) := ⟨rfl, rfl, rfl, by decide +kernel, rfl, by decide +kernel, by decide +kernel⟩
theorem ok_text_of (T : Txt K mg d) : OkD P w K mg base CX0 1 d.f_text_of ["numbers"] (spTextOf K) := by
  obtain ⟨fd, F, B⟩ := T.k_text_of.ex
  obtain ⟨c_SIGNS, m_SIGNS⟩ := T.sSIGNS
  obtain ⟨c_FOREIGN_SIGN, m_FOREIGN_SIGN⟩ := T.sFOREIGN_SIGN
  refine ⟨⟨fd, F.ok sc_text_of (fun vs H Q E h => ?_) (fun cdv A outer s H vs Q E hr h => ?_), B⟩, F.kp⟩
  · obtain ⟨a, bs, rfl, _⟩ := h
    rfl
  · obtain ⟨a, bs, rfl, hS, hl, k⟩ := h
    refine ⟨_, pss_cons (ps_set (i := 1) sc_text_of.nd rfl (Or.inr rfl) pe_dnewK)
      (pss_cons (ps_for PassesOwn.never rfl (pi_str (pgs m_SIGNS)) (pg_name (i := 2) sc_text_of.nd rfl (Or.inl rfl))
        (pss_one (ps_dput (hu_of hr) (pv 1) (pe_callB call_ord (by rfl) T.b_ord (by decide +kernel) (pa_cons (pv 2) pa_nil)) (pv 2) rfl)))
      (pss_one (ps_ret (pe_join pe_str (pe_lc (own := [("number", 3)]) (g := gName 3) (tt := tYes) rfl sc_text_of.nd (pi_list (pv 0)) (blkOk_by (N := ["numbers", "signs", "sign", "number"]) (sc := defScope s_text_of) (by decide +kernel)) (fun _ _ _ _ _ => pg_name (i := 3) sc_text_of.nd rfl (Or.inl rfl)) (fun _ _ _ _ _ => pts_nil) (fun _ _ _ _ _ => (pe_dget2 (hu_of hr) (pv 1) (pv 3) (pgs m_FOREIGN_SIGN) ⟨rfl, rfl, rfl, rfl⟩))))))), ?_⟩
    refine fun dc nd => ?_
    refine ⟨_, rfl, ?_⟩
    refine for_it (walk_str (z := "\n abcdefghijklmnopqrstuvwxyz0123456789,.;()[]")) (fun i σ' H' => (∃ z, σ' = [some (.ref a), some (.ref dc), z, none]) ∧ H' = upd H dc (.dK (sgD i))) ⟨⟨_, rfl⟩, rfl⟩ (fun _ _ _ _ _ => trivial) (fun i x σ' H1 H2 hi q y => ?_) (fun σ' H1 q => ?_)
    · obtain ⟨⟨z, rfl⟩, rfl⟩ := q
      obtain ⟨rfl, c, hc, rfl⟩ := y
      have hi' : i < 45 := hi
      have hc' : SG.getD i 0 = c := by
        have e : SG[i]? = some c := by
          show (("\n abcdefghijklmnopqrstuvwxyz0123456789,.;()[]" : Str).cps.toList)[i]? = some c
          rw [Array.getElem?_toList]
          exact hc
        rw [List.getD_eq_getElem?_getD, e]
        rfl
      refine ⟨_, rfl, _, rfl, _, rfl, _, rfl, rfl, dc, _, rfl, DPut.k (k := Sum.inl (c : Int)) upd_same (by
        unfold sgD
        rw [List.length_map, List.length_take]
        exact Nat.lt_of_le_of_lt (Nat.min_le_left _ _) (Nat.lt_trans hi' (by decide))), ⟨_, rfl⟩, ?_⟩
      have e := sg_put ⟨i, hi'⟩
      dsimp only at e
      rw [hc'] at e
      rw [e, upd_upd]
    · obtain ⟨⟨z, rfl⟩, rfl⟩ := q
      have e45 : (("\n abcdefghijklmnopqrstuvwxyz0123456789,.;()[]" : Str).cps.size) = 45 := by decide +kernel
      rw [e45]
      have hd : (upd H dc (.dK (sgD 45))) dc = some (.dK (sgD 45)) := upd_same
      have s1 : Same H (upd H dc (.dK (sgD 45))) := new_same nd
      refine ⟨⟨_, rfl⟩, _, rfl, a, rfl, ⟨_, s1.seq hS⟩, fun D hD => ?_⟩
      refine lc_list (xs := vals bs) (fun i H' => Cm (upd H dc (.dK (sgD 45))) D ((bs.take i).map fun c => vS [norm c]) H') (Cm.start hD) (fun i H' _ cm => (s1.trans cm.sm).seq hS) (fun i x H' hx cm => ?_) (fun H' cm => ?_)
      · obtain ⟨c, hc, rfl⟩ := get_map hx
        have hi := get_lt hc
        refine ⟨rfl, ?_⟩
        unfold tYes
        dsimp only
        rw [if_pos rfl]
        have hd' := cm.sm _ _ hd
        refine ⟨_, rfl, dc, rfl, .inl ⟨_, .inl hd'⟩, _, rfl, _, DGet.k (k := Sum.inl (c.toNat : Int)) hd', ?_⟩
        have e := sg_val ⟨c.toNat, c.toNat_lt⟩
        dsimp only at e
        rw [UInt8.ofNat_toNat] at e
        rw [e]
        obtain ⟨t1, t2⟩ := cm.turn hD (Same.refl _) (vS [norm c])
        rw [List.take_add_one, hc, Option.toList_some, List.map_append]
        refine ⟨_, t1, ?_, t2⟩
        rw [List.length_map, List.length_take]
        have h5 : (16777216 : Nat) = sizeLine := rfl
        omega
      · have ez : (vals bs).length = bs.length := List.length_map _
        rw [ez, List.take_length] at cm
        have e : ((bs.map fun c => [norm c]).map strOf).map V.str = bs.map fun c => vS [norm c] := by
          rw [List.map_map, List.map_map]
          rfl
        refine ⟨_, D, (bs.map fun c => [norm c]).map strOf, rfl, rfl, .inl (by rw [e]; exact SqL.of cm.ac), ?_, ?_⟩
        · have hs := sum_le (bs.map fun c => [norm c]) 1 fun w hw => by
            obtain ⟨c, _, rfl⟩ := List.mem_map.mp hw
            exact Nat.le_refl _
          have h2 : ("" : Str).length = 0 := by decide +kernel
          rw [lens_of, h2]
          rw [List.length_map] at hs
          omega
        · rw [txt_glue (sep := []) (by decide +kernel), glue_one]
          exact k _ (s1.trans cm.sm)
end
end HC


namespace HC
open PySem PySem.Spec PyProof.Rows L2 ShBlazon
/-! ### a blazon within a text -/
/-- from t0 up to its ) at e -/
structure Bz (bs : List UInt8) (t0 e : Nat) : Prop where
  le : t0 ≤ e
  at_ : bs[e]? = some 41
  no : ∀ i, t0 ≤ i → i < e → bs[i]? ≠ some 41
theorem Bz.lt {bs : List UInt8} {t0 e : Nat} (h : Bz bs t0 e) : e < bs.length := (List.getElem?_eq_some_iff.mp h.at_).1
def seg (bs : List UInt8) (q e : Nat) : List UInt8 := (bs.drop q).take (e - q)
theorem seg_cons {bs : List UInt8} {q e : Nat} {c : UInt8} (h : q < e) (hc : bs[q]? = some c) : seg bs q e = c :: seg bs (q + 1) e := by
  unfold seg
  rw [drop_cons hc, show e - q = (e - (q + 1)) + 1 by omega, List.take_succ_cons]
theorem seg_nil (bs : List UInt8) (e : Nat) : seg bs e e = [] := by
  unfold seg
  rw [Nat.sub_self]
  rfl
theorem seg_len {bs : List UInt8} {q e : Nat} (he : e ≤ bs.length) : (seg bs q e).length = e - q := by
  unfold seg
  rw [List.length_take, List.length_drop]
  omega
theorem seg_drop (bs : List UInt8) (q e k : Nat) : (seg bs q e).drop k = seg bs (q + k) e := by
  unfold seg
  rw [List.drop_take, List.drop_drop, show e - q - k = e - (q + k) by omega]
theorem seg_tw {P : UInt8 → Bool} (hP : P 41 = false) {bs : List UInt8} {e : Nat} (he : bs[e]? = some 41) : ∀ (n q : Nat), q + n = e → (seg bs q e).takeWhile P = (bs.drop q).takeWhile P
  | 0, q, h => by
    have h' : q = e := h
    subst h'
    rw [seg_nil, drop_cons he, List.takeWhile_cons_of_neg (by rw [hP]; exact Bool.false_ne_true)]
    rfl
  | n + 1, q, h => by
    have hl : q < bs.length := by
      have := (List.getElem?_eq_some_iff.mp he).1
      omega
    have hc : bs[q]? = some bs[q] := List.getElem?_eq_getElem hl
    rw [seg_cons (by omega) hc, drop_cons hc]
    by_cases c : P bs[q] = true
    · rw [List.takeWhile_cons_of_pos c, List.takeWhile_cons_of_pos c, seg_tw hP he n (q + 1) (by omega)]
    · rw [List.takeWhile_cons_of_neg c, List.takeWhile_cons_of_neg c]
theorem upTo_in {P : UInt8 → Bool} (hP : P 41 = false) {bs : List UInt8} {q e : Nat} (he : bs[e]? = some 41) (hq : q ≤ e) : upTo P bs q ≤ e := by
  have hl := (List.getElem?_eq_some_iff.mp he).1
  have h1 := tw_len_le (P := P) (seg bs q e)
  rw [seg_tw hP he (e - q) q (by omega), seg_len (by omega)] at h1
  unfold upTo
  omega
theorem upTo_not {P : UInt8 → Bool} {bs : List UInt8} : ∀ (n q : Nat), bs.length ≤ q + n → hereP P bs (upTo P bs q) = false
  | 0, q, h => by
    have e : bs[q]? = none := List.getElem?_eq_none (by omega)
    have : hereP P bs q = false := by
      unfold hereP
      rw [e]
    rw [upTo_stop this]
    exact this
  | n + 1, q, h => by
    cases c : hereP P bs q with
    | true =>
      rw [(upTo_step c).1]
      exact upTo_not n (q + 1) (by omega)
    | false =>
      rw [upTo_stop c]
      exact c
theorem upTo_end {P : UInt8 → Bool} {bs : List UInt8} {q : Nat} : hereP P bs (upTo P bs q) = false := upTo_not bs.length q (by omega)
theorem upTo_idem {P : UInt8 → Bool} {bs : List UInt8} {q : Nat} : upTo P bs (upTo P bs q) = upTo P bs q := upTo_stop upTo_end
/-! ### tokens -/
theorem one_len {p : Nat} {b : List UInt8} (h : (oneToken p b).1.kind < 3) : 1 ≤ (oneToken p b).2 ∧ b ≠ [] := by
  cases b with
  | nil => exact absurd (show 3 < 3 from h) (Nat.lt_irrefl _)
  | cons c r =>
    refine ⟨?_, fun z => by cases z⟩
    unfold oneToken at h ⊢
    dsimp only at h ⊢
    by_cases h1 : isLetter c = true
    · rw [if_pos h1, List.takeWhile_cons_of_pos h1]
      exact Nat.succ_le_succ (Nat.zero_le _)
    · rw [if_neg h1] at h ⊢
      by_cases h2 : isDigit c = true
      · rw [if_pos h2] at h ⊢
        by_cases h3 : c ≠ 48 ∧ valueOf ((c :: r).takeWhile isDigit) < 1000
        · rw [if_pos h3, List.takeWhile_cons_of_pos h2]
          exact Nat.succ_le_succ (Nat.zero_le _)
        · rw [if_neg h3] at h
          exact absurd (show 5 < 3 from h) (by decide)
      · rw [if_neg h2] at h ⊢
        by_cases h3 : c = 44
        · rw [if_pos h3]
          exact Nat.le_refl _
        · rw [if_neg h3] at h
          exact absurd (show 4 < 3 from h) (by decide)
theorem toks_fuel : ∀ (n : Nat) (f p : Nat) (b : List UInt8), b.length ≤ n → b.length + 1 ≤ f → tokensFrom f p b = tokensFrom (b.length + 1) p b
  | n, f + 1, p, b, hn, hf => by
    show _ :: _ = _ :: _
    congr 1
    by_cases h : 3 ≤ (oneToken (p + (b.takeWhile isBlank).length) (b.drop (b.takeWhile isBlank).length)).1.kind
    · rw [if_pos h, if_pos h]
    · rw [if_neg h, if_neg h]
      obtain ⟨o1, o2⟩ := one_len (Nat.lt_of_not_le h)
      have hb : 1 ≤ b.length := by
        cases b with
        | nil => exact absurd List.drop_nil o2
        | cons c r => exact Nat.succ_le_succ (Nat.zero_le _)
      have hl : (b.drop ((b.takeWhile isBlank).length + (oneToken (p + (b.takeWhile isBlank).length) (b.drop (b.takeWhile isBlank).length)).2)).length + 1 ≤ b.length := by
        rw [List.length_drop]
        omega
      cases n with
      | zero => omega
      | succ n =>
        rw [toks_fuel n f _ _ (by omega) (by omega), toks_fuel n b.length _ _ (by omega) hl]
  | n, 0, p, b, _, hf => by omega
/-- the tokens from q on -/
def tks (bs : List UInt8) (t0 e q : Nat) : ShBlazon.St := tokensFrom ((seg bs q e).length + 1) (q - t0) (seg bs q e)
abbrev oneAt (bs : List UInt8) (t0 e q : Nat) : Token × Nat := oneToken (q - t0) (seg bs q e)
theorem tks_step {bs : List UInt8} {t0 e q : Nat} (bz : Bz bs t0 e) (h1 : t0 ≤ q) (h2 : q ≤ e) :
    tks bs t0 e q = (oneAt bs t0 e (upTo isBlank bs q)).1 :: (if 3 ≤ (oneAt bs t0 e (upTo isBlank bs q)).1.kind then [] else tks bs t0 e (upTo isBlank bs q + (oneAt bs t0 e (upTo isBlank bs q)).2)) := by
  have hk : ((seg bs q e).takeWhile isBlank).length = upTo isBlank bs q - q := by
    rw [seg_tw (by decide) bz.at_ (e - q) q (by omega)]
    unfold upTo
    omega
  have hge : q ≤ upTo isBlank bs q := upTo_ge
  unfold tks
  show _ :: _ = _
  rw [hk, seg_drop, show q - t0 + (upTo isBlank bs q - q) = upTo isBlank bs q - t0 by omega, show q + (upTo isBlank bs q - q) = upTo isBlank bs q by omega]
  congr 1
  by_cases h : 3 ≤ (oneAt bs t0 e (upTo isBlank bs q)).1.kind
  · rw [if_pos h, if_pos h]
  · rw [if_neg h, if_neg h]
    obtain ⟨o1, o2⟩ := one_len (Nat.lt_of_not_le h)
    have o1' : 1 ≤ (oneAt bs t0 e (upTo isBlank bs q)).2 := o1
    have hlen := seg_len (q := q) (Nat.le_of_lt bz.lt)
    have hq : q < e := by
      rcases Nat.lt_or_ge q e with z | z
      · exact z
      · exfalso
        have hu := upTo_in (P := isBlank) (by decide) bz.at_ h2
        have : upTo isBlank bs q = e := by omega
        rw [this, seg_nil] at o2
        exact o2 rfl
    rw [seg_drop, show q + (upTo isBlank bs q - q + (oneAt bs t0 e (upTo isBlank bs q)).2) = upTo isBlank bs q + (oneAt bs t0 e (upTo isBlank bs q)).2 by omega,
      show upTo isBlank bs q - t0 + (oneAt bs t0 e (upTo isBlank bs q)).2 = upTo isBlank bs q + (oneAt bs t0 e (upTo isBlank bs q)).2 - t0 by omega]
    refine toks_fuel e _ _ _ ?_ ?_
    · rw [seg_len (Nat.le_of_lt bz.lt)]
      omega
    · rw [seg_len (Nat.le_of_lt bz.lt), hlen]
      omega
theorem tks_ne {bs : List UInt8} {t0 e q : Nat} : tks bs t0 e q ≠ [] := by
  unfold tks
  intro z
  cases z
theorem tks_of {bs : List UInt8} {t0 e : Nat} : tks bs t0 e t0 = tokensOf (seg bs t0 e) := by
  unfold tks tokensOf
  rw [Nat.sub_self]
/-! ### numbers -/
theorem fold_bd : ∀ (d : List UInt8) (n : Nat), (∀ c ∈ d, isDigit c = true) → n * 10 ^ d.length ≤ d.foldl (fun (n : Nat) (c : UInt8) => 10 * n + (c.toNat - 48)) n ∧ d.foldl (fun (n : Nat) (c : UInt8) => 10 * n + (c.toNat - 48)) n < (n + 1) * 10 ^ d.length
  | [], n, _ => by
    show n * 1 ≤ n ∧ n < (n + 1) * 1
    omega
  | c :: d, n, h => by
    have hc := h c List.mem_cons_self
    have hc' : c.toNat - 48 ≤ 9 := by
      unfold isDigit at hc
      rw [Bool.and_eq_true] at hc
      have h2 := of_decide_eq_true hc.2
      have h3 : c.toNat ≤ 57 := UInt8.le_iff_toNat_le.mp h2
      omega
    obtain ⟨i1, i2⟩ := fold_bd d (10 * n + (c.toNat - 48)) fun x hx => h x (List.mem_cons_of_mem _ hx)
    rw [List.foldl_cons, List.length_cons, Nat.pow_succ]
    generalize 10 ^ d.length = m at i1 i2 ⊢
    constructor
    · refine Nat.le_trans ?_ i1
      rw [show n * (m * 10) = (10 * n) * m by rw [Nat.mul_comm m 10, ← Nat.mul_assoc, Nat.mul_comm n 10]]
      exact Nat.mul_le_mul_right _ (by omega)
    · refine Nat.lt_of_lt_of_le i2 ?_
      rw [show (n + 1) * (m * 10) = (10 * (n + 1)) * m by rw [Nat.mul_comm m 10, ← Nat.mul_assoc, Nat.mul_comm (n + 1) 10]]
      exact Nat.mul_le_mul_right _ (by omega)
theorem val_lt {d : List UInt8} (h : ∀ c ∈ d, isDigit c = true) : valueOf d < 10 ^ d.length := by
  have := (fold_bd d 0 h).2
  rw [Nat.zero_add, Nat.one_mul] at this
  exact this
theorem val_ge {c : UInt8} {d : List UInt8} (h : ∀ x ∈ c :: d, isDigit x = true) (hc : c ≠ 48) : 10 ^ d.length ≤ valueOf (c :: d) := by
  have h0 := h c List.mem_cons_self
  have h1 : 1 ≤ c.toNat - 48 := by
    unfold isDigit at h0
    rw [Bool.and_eq_true] at h0
    have h2 : 48 ≤ c.toNat := UInt8.le_iff_toNat_le.mp (of_decide_eq_true h0.1)
    have h3 : c.toNat ≠ 48 := fun z => hc (UInt8.toNat_inj.mp z)
    omega
  have := (fold_bd d (10 * 0 + (c.toNat - 48)) fun x hx => h x (List.mem_cons_of_mem _ hx)).1
  refine Nat.le_trans ?_ this
  have e := Nat.mul_le_mul_right (10 ^ d.length) (show 1 ≤ 10 * 0 + (c.toNat - 48) by omega)
  rw [Nat.one_mul] at e
  exact e
theorem num_iff {c : UInt8} {d : List UInt8} (h : ∀ x ∈ c :: d, isDigit x = true) : isNum (c :: d) = true ↔ (c ≠ 48 ∧ valueOf (c :: d) < 1000) := by
  unfold isNum
  rw [Bool.and_eq_true, decide_eq_true_eq, Bool.not_eq_true', beq_eq_false_iff_ne]
  constructor
  · rintro ⟨h1, h2⟩
    refine ⟨fun z => h2 (by rw [z]; rfl), ?_⟩
    exact Nat.lt_of_lt_of_le (val_lt h) (Nat.pow_le_pow_right (n := 10) (by decide) h1)
  · rintro ⟨h1, h2⟩
    refine ⟨?_, fun z => h1 (by injection z)⟩
    rcases Nat.lt_or_ge d.length 3 with z | z
    · exact z
    · exfalso
      have h3 := val_ge h h1
      have h4 : 10 ^ 3 ≤ 10 ^ d.length := Nat.pow_le_pow_right (by decide) z
      omega
/-- of what a token's text is -/
def TokRel (c : List UInt8) (t : Token) : Prop :=
  (t.kind = 0 ∧ c = t.bytes ∧ c ≠ [] ∧ (∀ x ∈ c, isLetter x = true) ∧ c.length ≤ 4096) ∨ (t.kind = 1 ∧ c ≠ [] ∧ c.length ≤ 3 ∧ (∀ x ∈ c, isDigit x = true) ∧ valueOf c = t.num) ∨ (t.kind = 2 ∧ c = [44]) ∨ (t.kind = 3 ∧ c = [41])
theorem TokRel.len {c : List UInt8} {t : Token} (h : TokRel c t) : c.length ≤ 4096 := by
  rcases h with ⟨_, _, _, _, l⟩ | ⟨_, _, l, _⟩ | ⟨_, e⟩ | ⟨_, e⟩
  · exact l
  · omega
  · rw [e]; decide
  · rw [e]; decide
end HC
namespace HC
open PySem PySem.Spec PyProof.Rows L2
open ShBlazon (isLetter isDigit isBlank oneToken tokensFrom tokensOf valueOf Token kindOf place wordOf numOf wanted look eat isWord eatWord ascii)
abbrev Tks := ShBlazon.St
section
variable {P : Program} {w : World} {K : PySem.W.Frag} {mg : Str → Option Value} {base : Heap} {d : Ad}
/-- an error with its kind and place -/
def ErrM (d : Ad) (E : XK) (k p : Nat) : Prop := ∀ (x : Addr) (H' : Hp), H' x = some (.xd (mrF (vN k) (vN p))) → E (.ref d.xMisread) (some x) H'
/-! ### take_content -/
def spCont (d : Ad) : Sp := fun vs H Q E => ∃ (C : Addr) (bs : List UInt8) (x : Addr) (q t0 e : Nat), vs = [.ref C] ∧ CAt d bs C x H q ∧ Bz bs t0 e ∧ t0 ≤ q ∧ q ≤ e ∧ hereP isBlank bs q = false ∧
  if (oneAt bs t0 e q).1.kind = 4 then ErrM d E 1 q else if (oneAt bs t0 e q).1.kind = 5 then ErrM d E 2 q else
    ∀ H' c, Keep C H H' → H' C = some (cur d x bs (if (oneAt bs t0 e q).1.kind = 3 then e + 1 else q + (oneAt bs t0 e q).2)) → ((oneAt bs t0 e q).1.kind ≠ 3 → q + (oneAt bs t0 e q).2 ≤ e) → TokRel c (oneAt bs t0 e q).1 → (oneAt bs t0 e q).1.at_ = q - t0 → (oneAt bs t0 e q).1.kind ≤ 3 → Q (vS c) H'
theorem one_nil {p : Nat} : oneToken p [] = (⟨p, 3, [], 0⟩, 0) := rfl
theorem one_let {p : Nat} {c : UInt8} {r : List UInt8} (h : isLetter c = true) : oneToken p (c :: r) = (⟨p, 0, (c :: r).takeWhile isLetter, 0⟩, ((c :: r).takeWhile isLetter).length) := by
  unfold oneToken
  dsimp only
  rw [if_pos h]
theorem one_dig {p : Nat} {c : UInt8} {r : List UInt8} (h1 : ¬ isLetter c = true) (h : isDigit c = true) : oneToken p (c :: r) = (if c ≠ 48 ∧ valueOf ((c :: r).takeWhile isDigit) < 1000 then (⟨p, 1, [], valueOf ((c :: r).takeWhile isDigit)⟩, ((c :: r).takeWhile isDigit).length) else (⟨p, 5, [], 0⟩, 0)) := by
  unfold oneToken
  dsimp only
  rw [if_neg h1, if_pos h]
theorem one_com {p : Nat} {c : UInt8} {r : List UInt8} (h1 : ¬ isLetter c = true) (h : ¬ isDigit c = true) : oneToken p (c :: r) = (if c = 44 then (⟨p, 2, [], 0⟩, 1) else (⟨p, 4, [], 0⟩, 0)) := by
  unfold oneToken
  dsimp only
  rw [if_neg h1, if_neg h]
theorem txt_comma : ("," : Str) = strOf [44] := by decide +kernel
theorem txt_end : (")" : Str) = strOf [41] := by decide +kernel
theorem vtup {c e : List UInt8} : eqV (vS c) (vS e) = decide (c = e) := by
  show (strOf c == strOf e) = decide (c = e)
  rw [Bool.eq_iff_iff, beq_iff_eq, decide_eq_true_eq]
  exact ⟨strOf_inj, fun h => by rw [h]⟩
theorem tup_at {t : Addr} {H : Hp} {xs : List V} (h : H t = some (.tup xs)) : SqT K H t xs := SqT.of h
theorem sc_take_content : FnScope ["cursor", "place", "digits"] ["cursor"] (defScope s_take_content) := ⟨rfl, rfl, rfl, by decide +kernel, rfl, by decide +kernel, by decide +kernel⟩
theorem ok_take_content (T : Txt K mg d) : OkD P w K mg base (L2.CX P w) 3 d.f_take_content ["cursor"] (spCont d) := by
  obtain ⟨fd, F, B⟩ := T.k_take_content.ex
  obtain ⟨⟨fd_Cursor_take_letters, G_Cursor_take_letters, B_Cursor_take_letters⟩, kp_Cursor_take_letters⟩ := ok_Cursor_take_letters (P := P) (w := w) (base := base) T
  obtain ⟨⟨fd_Cursor_take_digits, G_Cursor_take_digits, B_Cursor_take_digits⟩, kp_Cursor_take_digits⟩ := ok_Cursor_take_digits (P := P) (w := w) (base := base) T
  obtain ⟨⟨fd_Cursor_sign, G_Cursor_sign, B_Cursor_sign⟩, kp_Cursor_sign⟩ := ok_Cursor_sign (P := P) (w := w) (base := base) T
  obtain ⟨⟨fd_Cursor_take_sign, G_Cursor_take_sign, B_Cursor_take_sign⟩, kp_Cursor_take_sign⟩ := ok_Cursor_take_sign (P := P) (w := w) (base := base) T
  obtain ⟨⟨fd_is_number, G_is_number, B_is_number⟩, kp_is_number⟩ := ok_is_number (P := P) (w := w) (base := base) T
  obtain ⟨c_FOREIGN_BYTE, m_FOREIGN_BYTE⟩ := T.nFOREIGN_BYTE
  obtain ⟨c_COMMA, m_COMMA⟩ := T.sCOMMA
  obtain ⟨c_END, m_END⟩ := T.sEND
  obtain ⟨c_NO_NUMBER, m_NO_NUMBER⟩ := T.nNO_NUMBER
  refine ⟨⟨fd, F.okX sc_take_content (fun vs H Q E h => ?_) (fun cdv A outer s H vs Q E hr h => ?_), B⟩, F.kp⟩
  · obtain ⟨C, bs, x, q, t0, e, rfl, _⟩ := h
    rfl
  · obtain ⟨C, bs, dxC, q, t0, e, rfl, A1, bz, h1, h2, hb, k⟩ := h
    have hC := A1.hC
    have hE := bz.at_
    have hlt := bz.lt
    have hr_Cursor_take_letters : Room 2 _ := hr.mono (by decide)
    have hr_Cursor_take_digits : Room 2 _ := hr.mono (by decide)
    have hr_Cursor_sign : Room 1 _ := hr.mono (by decide)
    have hr_Cursor_take_sign : Room 2 _ := hr.mono (by decide)
    have hr_is_number : Room 1 _ := hr.mono (by decide)
    refine ⟨_, pss_cons (ps_set (i := 1) sc_take_content.nd rfl (Or.inl rfl) (pe_fld (pv 0) rfl))
      (pss_cons (ps_if (pt_val (pe_m0 PySem.F.slot_str_isalpha PySem.F.type_str_isalpha mt_isalpha (pe_meth0 (pv 0) T.kCursor.cl T.kCursor_sign.me G_Cursor_sign hr_Cursor_sign B_Cursor_sign .nil pass0)))
        (pss_one (ps_ret (pe_meth0 (pv 0) T.kCursor.cl T.kCursor_take_letters.me G_Cursor_take_letters hr_Cursor_take_letters B_Cursor_take_letters .nil pass0)))
        pss_nil)
      (pss_cons (ps_if (pt_val (pe_m0 PySem.F.slot_str_isdigit PySem.F.type_str_isdigit mt_isdigit (pe_meth0 (pv 0) T.kCursor.cl T.kCursor_sign.me G_Cursor_sign hr_Cursor_sign B_Cursor_sign .nil pass0)))
        (pss_cons (ps_set (i := 2) sc_take_content.nd rfl (Or.inl rfl) (pe_meth0 (pv 0) T.kCursor.cl T.kCursor_take_digits.me G_Cursor_take_digits hr_Cursor_take_digits B_Cursor_take_digits .nil pass0))
      (pss_cons (ps_if (pt_not (pt_val (pe_call G_is_number hr_is_number rfl T.k_is_number.gl kp_is_number B_is_number .nil pass0 (pa_cons (pv 2) pa_nil))))
        (pss_one (ps_raiseLow rfl T.xMisread hr takesX (pa_cons (pgi m_NO_NUMBER) (pa_cons (pv 1) pa_nil))))
        pss_nil)
      (pss_one (ps_ret (pv 2)))))
        pss_nil)
      (pss_cons (ps_if (pt_cmpR op_in_seq (pe_meth0 (pv 0) T.kCursor.cl T.kCursor_sign.me G_Cursor_sign hr_Cursor_sign B_Cursor_sign .nil pass0) (pe_tup (pa_cons (pgs m_COMMA) (pa_cons (pgs m_END) pa_nil))) (by rfl))
        (pss_one (ps_ret (pe_meth0 (pv 0) T.kCursor.cl T.kCursor_take_sign.me G_Cursor_take_sign hr_Cursor_take_sign B_Cursor_take_sign .nil pass0)))
        pss_nil)
      (pss_one (ps_raiseLow rfl T.xMisread hr takesX (pa_cons (pgi m_FOREIGN_BYTE) (pa_cons (pv 1) pa_nil))))))), ?_⟩
    refine ⟨_, rfl, C, d.cCursor, dxC, _, _, rfl, hC, T.kCursor.cl, T.kCursor.no.2.1, look_at _ _ _ 1 rfl (by decide +kernel), ?_⟩
    refine ⟨_, rfl, C, dxC, _, rfl, hC, cu_no (by decide +kernel), C, bs, dxC, q, rfl, A1, ⟨_, rfl⟩, _, rfl, rfl, trivial, _, rfl, ?_⟩
    rw [sg_alpha]
    cases hl : hereP isLetter bs q with
    | true =>
      rw [if_pos rfl]
      have hq : q < e := by
        rcases Nat.lt_or_ge q e with z | z
        · exact z
        · have : q = e := by omega
          subst this
          unfold hereP at hl
          rw [hE] at hl
          exact absurd hl (by decide)
      have hc : bs[q]? = some bs[q] := List.getElem?_eq_getElem (by omega)
      have hl' : isLetter bs[q] = true := by
        unfold hereP at hl
        rw [hc] at hl
        exact hl
      have eo : oneAt bs t0 e q = (⟨q - t0, 0, (bs.drop q).takeWhile isLetter, 0⟩, ((bs.drop q).takeWhile isLetter).length) := by
        show oneToken (q - t0) (seg bs q e) = _
        rw [seg_cons hq hc, one_let hl', ← seg_cons hq hc, seg_tw (by decide) hE (e - q) q (by omega)]
      rw [eo] at k
      rw [if_neg (show ¬ (0 : Nat) = 4 by decide), if_neg (show ¬ (0 : Nat) = 5 by decide), if_neg (show ¬ (0 : Nat) = 3 by decide)] at k
      refine ⟨_, rfl, C, dxC, _, rfl, hC, cu_no (by decide +kernel), C, bs, dxC, q, rfl, A1, fun H' kp h' le => ?_⟩
      have ne : (bs.drop q).takeWhile isLetter ≠ [] := by
        rw [drop_cons hc, List.takeWhile_cons_of_pos hl']
        intro z
        cases z
      exact k H' _ kp h' (fun _ => upTo_in (by decide) hE h2) (.inl ⟨rfl, rfl, ne, tw_all _, by
        have := tw_len_le (P := isLetter) (bs.drop q)
        rw [List.length_drop] at this
        have := A1.sz
        omega⟩) rfl (show (0 : Nat) ≤ 3 by decide)
    | false =>
      rw [if_neg Bool.false_ne_true]
      refine ⟨_, rfl, C, dxC, _, rfl, hC, cu_no (by decide +kernel), C, bs, dxC, q, rfl, A1, ⟨_, rfl⟩, _, rfl, rfl, trivial, _, rfl, ?_⟩
      rw [sg_digit]
      cases hd : hereP isDigit bs q with
      | true =>
        rw [if_pos rfl]
        have hq : q < e := by
          rcases Nat.lt_or_ge q e with z | z
          · exact z
          · have : q = e := by omega
            subst this
            unfold hereP at hd
            rw [hE] at hd
            exact absurd hd (by decide)
        have hc : bs[q]? = some bs[q] := List.getElem?_eq_getElem (by omega)
        have hd' : isDigit bs[q] = true := by
          unfold hereP at hd
          rw [hc] at hd
          exact hd
        have hl' : ¬ isLetter bs[q] = true := by
          unfold hereP at hl
          rw [hc] at hl
          replace hl : isLetter bs[q] = false := hl
          rw [hl]
          exact Bool.false_ne_true
        have ecs : (bs.drop q).takeWhile isDigit = bs[q] :: (bs.drop (q + 1)).takeWhile isDigit := by
          rw [drop_cons hc, List.takeWhile_cons_of_pos hd']
        have eo : oneAt bs t0 e q = (if bs[q] ≠ 48 ∧ valueOf ((bs.drop q).takeWhile isDigit) < 1000 then (⟨q - t0, 1, [], valueOf ((bs.drop q).takeWhile isDigit)⟩, ((bs.drop q).takeWhile isDigit).length) else (⟨q - t0, 5, [], 0⟩, 0)) := by
          show oneToken (q - t0) (seg bs q e) = _
          rw [seg_cons hq hc, one_dig hl' hd', ← seg_cons hq hc, seg_tw (by decide) hE (e - q) q (by omega)]
        have all := tw_all (P := isDigit) (bs.drop q)
        have iff := num_iff (c := bs[q]) (d := (bs.drop (q + 1)).takeWhile isDigit) (by rw [← ecs]; exact all)
        rw [← ecs] at iff
        refine ⟨_, rfl, C, dxC, _, rfl, hC, cu_no (by decide +kernel), C, bs, dxC, q, rfl, A1, fun H' kp h' le => ?_⟩
        have hlen : ((bs.drop q).takeWhile isDigit).length ≤ 4096 := by
          have := tw_len_le (P := isDigit) (bs.drop q)
          rw [List.length_drop] at this
          have := A1.sz
          omega
        refine ⟨_, rfl, _, rfl, hlen, _, rfl, ?_⟩
        by_cases c : bs[q] ≠ 48 ∧ valueOf ((bs.drop q).takeWhile isDigit) < 1000
        · rw [if_pos c] at eo
          rw [eo] at k
          rw [if_neg (show ¬ (1 : Nat) = 4 by decide), if_neg (show ¬ (1 : Nat) = 5 by decide), if_neg (show ¬ (1 : Nat) = 3 by decide)] at k
          have hn := iff.mpr c
          rw [hn]
          refine iteF ?_
          have h3 : ((bs.drop q).takeWhile isDigit).length ≤ 3 := by
            unfold isNum at hn
            rw [Bool.and_eq_true] at hn
            exact of_decide_eq_true hn.1
          exact ⟨_, rfl, k H' _ kp h' (fun _ => upTo_in (by decide) hE h2) (.inr (.inl ⟨rfl, (fun z => by rw [ecs] at z; cases z), h3, all, rfl⟩)) rfl (show (1 : Nat) ≤ 3 by decide)⟩
        · rw [if_neg c] at eo
          rw [eo] at k
          rw [if_neg (show ¬ (5 : Nat) = 4 by decide), if_pos rfl] at k
          have hn : isNum ((bs.drop q).takeWhile isDigit) = false := by
            cases z : isNum ((bs.drop q).takeWhile isDigit) with
            | false => rfl
            | true => exact absurd (iff.mp z) c
          rw [hn]
          refine iteT ?_
          exact ⟨_, rfl, _, _, rfl, fun z hz => k z _ upd_same⟩
      | false =>
        rw [if_neg Bool.false_ne_true]
        refine ⟨_, rfl, C, dxC, _, rfl, hC, cu_no (by decide +kernel), C, bs, dxC, q, rfl, A1, (by show 2 ≤ sizeLine; decide), fun t nt => ?_⟩
        have s1 : Same H (upd H t (.tup [V.str ("," : Str), V.str (")" : Str)])) := fun b o ho => by rw [upd_ne (ne_of_none ho nt)]; exact ho
        have hC' := s1 _ _ hC
        refine ⟨t, _, rfl, .inr (SqT.of upd_same), rfl, rfl, _, rfl, ?_⟩
        have ein : inV (vS (sg bs q)) [V.str ("," : Str), V.str (")" : Str)] = (decide (([44] : List UInt8) = sg bs q) || (decide (([41] : List UInt8) = sg bs q) || false)) := by
          rw [txt_comma, txt_end]
          show (eqV (vS [44]) (vS (sg bs q)) || (eqV (vS [41]) (vS (sg bs q)) || false)) = _
          rw [vtup, vtup]
        rw [if_neg Bool.false_ne_true, ein]
        have hqs : bs[q]? = some bs[q] := List.getElem?_eq_getElem (by omega)
        by_cases c1 : bs[q]? = some 44
        · have hq : q < e := by
            rcases Nat.lt_or_ge q e with z | z
            · exact z
            · have : q = e := by omega
              subst this
              rw [hE] at c1
              exact absurd c1 (by decide)
          have eo : oneAt bs t0 e q = (⟨q - t0, 2, [], 0⟩, 1) := by
            show oneToken (q - t0) (seg bs q e) = _
            rw [seg_cons hq c1]
            exact one_com (by decide) (by decide)
          rw [eo] at k
          rw [if_neg (show ¬ (2 : Nat) = 4 by decide), if_neg (show ¬ (2 : Nat) = 5 by decide), if_neg (show ¬ (2 : Nat) = 3 by decide)] at k
          have es : sg bs q = [44] := (sg_is (by decide +kernel)).mpr c1
          rw [es]
          refine iteT ?_
          refine ⟨_, rfl, C, dxC, _, rfl, hC', cu_no (by decide +kernel), C, bs, dxC, q, rfl, A1.to hC' A1.le, by omega, fun H' kp h' => ?_⟩
          rw [es]
          exact k H' _ ((Keep.of s1).trans kp) h' (fun _ => hq) (.inr (.inr (.inl ⟨rfl, rfl⟩))) rfl (show (2 : Nat) ≤ 3 by decide)
        · by_cases c2 : bs[q]? = some 41
          · have hq : q = e := by
              rcases Nat.lt_or_ge q e with z | z
              · exact absurd c2 (bz.no q h1 z)
              · omega
            subst hq
            have eo : oneAt bs t0 q q = (⟨q - t0, 3, [], 0⟩, 0) := by
              show oneToken (q - t0) (seg bs q q) = _
              rw [seg_nil]
              rfl
            rw [eo] at k
            rw [if_neg (show ¬ (3 : Nat) = 4 by decide), if_neg (show ¬ (3 : Nat) = 5 by decide), if_pos rfl] at k
            have es : sg bs q = [41] := (sg_is (by decide +kernel)).mpr c2
            rw [es]
            refine iteT ?_
            refine ⟨_, rfl, C, dxC, _, rfl, hC', cu_no (by decide +kernel), C, bs, dxC, q, rfl, A1.to hC' A1.le, by omega, fun H' kp h' => ?_⟩
            rw [es]
            exact k H' _ ((Keep.of s1).trans kp) h' (fun z => absurd rfl z) (.inr (.inr (.inr ⟨rfl, rfl⟩))) rfl (show (3 : Nat) ≤ 3 by decide)
          · have n1 : ¬ ([44] : List UInt8) = sg bs q := fun z => c1 ((sg_is (by decide +kernel)).mp z.symm)
            have n2 : ¬ ([41] : List UInt8) = sg bs q := fun z => c2 ((sg_is (by decide +kernel)).mp z.symm)
            rw [decide_eq_false n1, decide_eq_false n2]
            refine iteF ?_
            have hq : q < e := by
              rcases Nat.lt_or_ge q e with z | z
              · exact z
              · have : q = e := by omega
                subst this
                exact absurd hE c2
            have eo : oneAt bs t0 e q = (⟨q - t0, 4, [], 0⟩, 0) := by
              show oneToken (q - t0) (seg bs q e) = _
              have g1 : ¬ isLetter bs[q] = true := by
                unfold hereP at hl
                rw [hqs] at hl
                replace hl : isLetter bs[q] = false := hl
                rw [hl]
                exact Bool.false_ne_true
              have g2 : ¬ isDigit bs[q] = true := by
                unfold hereP at hd
                rw [hqs] at hd
                replace hd : isDigit bs[q] = false := hd
                rw [hd]
                exact Bool.false_ne_true
              rw [seg_cons hq hqs, one_com g1 g2, if_neg fun z => c1 (by rw [hqs, z])]
            rw [eo] at k
            rw [if_pos rfl] at k
            exact ⟨_, rfl, _, _, rfl, fun z hz => k z _ upd_same⟩
end
end HC


namespace HC
open PySem PySem.Spec PyProof.Rows L2
open ShBlazon (isLetter isDigit isBlank oneToken tokensFrom tokensOf valueOf Token kindOf place wordOf numOf wanted look eat isWord eatWord ascii)
section
variable {P : Program} {w : World} {K : PySem.W.Frag} {mg : Str → Option Value} {base : Heap} {d : Ad}
abbrev tkF : List Str := ["cursor", "ahead"]
abbrev toF : List Str := ["content", "place"]
abbrev tksO (d : Ad) (x C : Addr) (av : V) : HO := .ins d.cTokens x (tkF.zip [.ref C, av])
abbrev tokO (d : Ad) (x : Addr) (c : List UInt8) (p : Nat) : HO := .ins d.cToken x (toF.zip [vS c, vN p])
theorem ins_ne {C1 C2 x1 x2 : Addr} {n1 n2 : Str} {v1 v2 : V} {r1 r2 : List (Str × V)} (h : n1 ≠ n2) : HO.ins C1 x1 ((n1, v1) :: r1) ≠ HO.ins C2 x2 ((n2, v2) :: r2) := by
  intro z
  injection z with _ _ z
  injection z with z _
  injection z with z _
  exact h z
theorem n_ct : ("cursor" : Str) ≠ "text" := by decide +kernel
theorem n_cc : ("cursor" : Str) ≠ "content" := by decide +kernel
theorem n_tc : ("text" : Str) ≠ "content" := by decide +kernel
/-- all but R and C is as it was -/
def Keep2 (R C : Addr) (H H' : Hp) : Prop := ∀ b o, b ≠ R → b ≠ C → H b = some o → H' b = some o
theorem Keep2.refl (R C : Addr) (H : Hp) : Keep2 R C H H := fun _ _ _ _ h => h
theorem Keep2.trans {R C : Addr} {H H1 H2 : Hp} (a : Keep2 R C H H1) (b : Keep2 R C H1 H2) : Keep2 R C H H2 := fun c o n m h => b c o n m (a c o n m h)
theorem Keep2.of {R C : Addr} {H H' : Hp} (s : Same H H') : Keep2 R C H H' := fun b o _ _ h => s b o h
theorem Keep2.ofC {R C : Addr} {H H' : Hp} (s : Keep C H H') : Keep2 R C H H' := fun b o _ n h => s b o n h
/-- a token is ahead: it stands at A -/
def TkAh (d : Ad) (bs : List UInt8) (t0 e : Nat) (R C : Addr) (H : Hp) (A : Addr) (tok : Token) (r : Tks) : Prop := ∃ (xR xC xA : Addr) (c : List UInt8) (q : Nat),
  H R = some (tksO d xR C (.ref A)) ∧ H C = some (cur d xC bs q) ∧ q ≤ bs.length ∧ H A = some (tokO d xA c (t0 + tok.at_)) ∧ TokRel c tok ∧ ((tok.kind = 3 ∧ q = e + 1 ∧ r = []) ∨ (tok.kind < 3 ∧ t0 ≤ q ∧ q ≤ e ∧ r = tks bs t0 e q))
/-- the tokens s are to come -/
def TkAt (d : Ad) (bs : List UInt8) (t0 e : Nat) (R C : Addr) (H : Hp) (s : Tks) : Prop :=
  (∃ (xR xC : Addr) (q : Nat), H R = some (tksO d xR C .non) ∧ H C = some (cur d xC bs q) ∧ t0 ≤ q ∧ q ≤ e ∧ s = tks bs t0 e q) ∨ ∃ A tok r, s = tok :: r ∧ TkAh d bs t0 e R C H A tok r
theorem TkAt.ne {bs : List UInt8} {t0 e : Nat} {R C : Addr} {H : Hp} {s : Tks} (h : TkAt d bs t0 e R C H s) : s ≠ [] := by
  rcases h with ⟨_, _, q, _, _, _, _, rfl⟩ | ⟨_, tok, r, rfl, _⟩
  · exact tks_ne
  · intro z; cases z
theorem TkAt.hR {bs : List UInt8} {t0 e : Nat} {R C : Addr} {H : Hp} {s : Tks} (h : TkAt d bs t0 e R C H s) : ∃ x av, H R = some (tksO d x C av) := by
  rcases h with ⟨x, _, _, h, _⟩ | ⟨_, _, _, _, x, _, _, _, _, h, _⟩
  · exact ⟨_, _, h⟩
  · exact ⟨_, _, h⟩
theorem TkAt.hC {bs : List UInt8} {t0 e : Nat} {R C : Addr} {H : Hp} {s : Tks} (h : TkAt d bs t0 e R C H s) : ∃ x q, H C = some (cur d x bs q) := by
  rcases h with ⟨_, x, _, _, h, _⟩ | ⟨_, _, _, _, _, x, _, _, _, _, h, _⟩
  · exact ⟨_, _, h⟩
  · exact ⟨_, _, h⟩
/-- objects of other classes stay -/
theorem TkAt.mv {bs : List UInt8} {t0 e : Nat} {R C : Addr} {H H1 H' : Hp} {s : Tks} (h : TkAt d bs t0 e R C H1 s) (k : Keep2 R C H H1) : Mv H1 H' H H' := by
  refine ⟨fun b hb => ?_, fun _ _ _ z => z⟩
  cases q : H b with
  | none => rfl
  | some o =>
    obtain ⟨_, _, hR⟩ := h.hR
    obtain ⟨_, _, hC⟩ := h.hC
    have n1 : b ≠ R := fun z => by rw [z, hR] at hb; cases hb
    have n2 : b ≠ C := fun z => by rw [z, hC] at hb; cases hb
    rw [k b o n1 n2 q] at hb
    cases hb
/-- .. whatever comes behind -/
theorem TkAt.mv' {bs : List UInt8} {t0 e : Nat} {R C : Addr} {H H1 H' : Hp} {s s1 : Tks} (_h : TkAt d bs t0 e R C H' s) (k : Keep2 R C H H1) (h1 : TkAt d bs t0 e R C H1 s1) : Mv H1 H' H H' := h1.mv k
def spTokens (d : Ad) : Sp := fun vs H Q _ => ∃ (p x C : Addr), vs = [.ref p, .ref C] ∧ H p = some (.ins d.cTokens x []) ∧ ∀ H', (∀ b, b ≠ p → H' b = H b) → H' p = some (tksO d x C .non) → Q .non H'
theorem sc_Tokens_init : FnScope ["self", "cursor"] ["self", "cursor"] (defScope s_Tokens_init) := ⟨rfl, rfl, rfl, by decide +kernel, rfl, by decide +kernel, by decide +kernel⟩
theorem ok_Tokens_init (T : Txt K mg d) : OkD P w K mg base CX0 1 d.mTokens_init ["self", "cursor"] (spTokens d) := by
  obtain ⟨fd, F, B⟩ := T.kTokens.ini
  refine ⟨⟨fd, F.ok sc_Tokens_init (fun vs H Q E h => ?_) (fun cdv A outer s H vs Q E hr h => ?_), B⟩, F.kp⟩
  · obtain ⟨p, x, C, rfl, _⟩ := h
    rfl
  · obtain ⟨p, x, C, rfl, hp, k⟩ := h
    refine ⟨_, pss_cons (ps_fld (pv 0) (pv 1) rfl) (pss_one (ps_fld (pv 0) pe_non rfl)), ?_⟩
    refine ⟨_, rfl, _, rfl, p, d.cTokens, x, _, rfl, hp, T.kTokens.cl, T.kTokens.no.1, (by decide), ?_⟩
    have e1 : putF "cursor" (.ref C) [] = (["cursor"] : List Str).zip [.ref C] := rfl
    refine ⟨_, rfl, p, d.cTokens, x, _, rfl, upd_same, T.kTokens.cl, T.kTokens.no.2.1, (by rw [e1]; show 1 < 1000; decide), ?_⟩
    have e2 : putF "ahead" .non (putF "cursor" (.ref C) []) = tkF.zip [.ref C, .non] := by
      rw [e1, put_new _ _ _ _ rfl (by decide +kernel)]
      rfl
    exact k _ (fun b hb => by rw [upd_ne hb, upd_ne hb]) (by rw [upd_same, e2])
theorem put_ah {C : Addr} {av bv : V} : putF "ahead" bv (tkF.zip [.ref C, av]) = tkF.zip [.ref C, bv] := by
  rw [put_at _ _ _ _ 1 rfl (by decide +kernel)]
  rfl
theorem tk_no {C : Addr} {av : V} {f : Str} (h : f ∉ tkF) : (tkF.zip [.ref C, av]).lookup f = none := look_no _ _ _ h
/-! ### peek, take -/
def spPeek (d : Ad) : Sp := fun vs H Q E => ∃ (R C : Addr) (bs : List UInt8) (t0 e : Nat) (s : Tks), vs = [.ref R] ∧ bs.length ≤ 4096 ∧ Bz bs t0 e ∧ TkAt d bs t0 e R C H s ∧
  if 4 ≤ kindOf s then ErrM d E (wanted s).1 (t0 + (wanted s).2) else ∀ H' A tok r, s = tok :: r → Keep2 R C H H' → TkAh d bs t0 e R C H' A tok r → Q (.ref A) H'
theorem one_kind {p : Nat} {b : List UInt8} : (oneToken p b).1.kind ≤ 5 ∧ (oneToken p b).1.at_ = p := by
  cases b with
  | nil => exact ⟨by show 3 ≤ 5; decide, rfl⟩
  | cons c r =>
    by_cases h1 : isLetter c = true
    · rw [one_let h1]; exact ⟨Nat.zero_le _, rfl⟩
    · by_cases h2 : isDigit c = true
      · rw [one_dig h1 h2]
        by_cases h3 : c ≠ 48 ∧ valueOf ((c :: r).takeWhile isDigit) < 1000
        · rw [if_pos h3]; exact ⟨by show 1 ≤ 5; decide, rfl⟩
        · rw [if_neg h3]; exact ⟨by show 5 ≤ 5; decide, rfl⟩
      · rw [one_com h1 h2]
        by_cases h3 : c = 44
        · rw [if_pos h3]; exact ⟨by show 2 ≤ 5; decide, rfl⟩
        · rw [if_neg h3]; exact ⟨by show 4 ≤ 5; decide, rfl⟩
theorem sc_Tokens_peek : FnScope ["self", "place"] ["self"] (defScope s_Tokens_peek) := ⟨rfl, rfl, rfl, by decide +kernel, rfl, by decide +kernel, by decide +kernel⟩
theorem ok_Tokens_peek (T : Txt K mg d) : OkD P w K mg base (L2.CX P w) 4 d.mTokens_peek ["self"] (spPeek d) := by
  obtain ⟨fd, F, B⟩ := T.kTokens_peek.ex
  obtain ⟨⟨fd_Cursor_skip_blanks, G_Cursor_skip_blanks, B_Cursor_skip_blanks⟩, kp_Cursor_skip_blanks⟩ := ok_Cursor_skip_blanks (P := P) (w := w) (base := base) T
  obtain ⟨⟨fd_Token, G_Token, B_Token⟩, kp_Token⟩ := ok_Token_init (P := P) (w := w) (base := base) T
  obtain ⟨⟨fd_take_content, G_take_content, B_take_content⟩, kp_take_content⟩ := ok_take_content (P := P) (w := w) (base := base) T
  refine ⟨⟨fd, F.okX sc_Tokens_peek (fun vs H Q E h => ?_) (fun cdv A outer s H vs Q E hr h => ?_), B⟩, F.kp⟩
  · obtain ⟨R, C, bs, t0, e, s, rfl, _⟩ := h
    rfl
  · obtain ⟨R, C, bs, t0, e, s, rfl, sz, bz, hT, k⟩ := h
    have hE := bz.at_
    have hlt := bz.lt
    have hr_Cursor_skip_blanks : Room 2 _ := hr.mono (by decide)
    have hr_Token : Room 2 _ := hr.mono (by decide)
    have hr_take_content : Room 3 _ := hr.mono (by decide)
    refine ⟨_, C8.pss_cut (ps_if (pt_cmp (pc_isN (pe_fld (pv 0) rfl)))
        (pss_cons (ps_expr (pe_meth0 (pe_fld (pv 0) rfl) T.kCursor.cl T.kCursor_skip_blanks.me G_Cursor_skip_blanks hr_Cursor_skip_blanks B_Cursor_skip_blanks .nil pass0))
      (pss_cons (ps_set (i := 1) sc_Tokens_peek.nd rfl (Or.inl rfl) (pe_fld (pe_fld (pv 0) rfl) rfl))
      (pss_one (ps_fld (pv 0) (pe_make T.kToken.mak G_Token hr_Token rfl T.kToken.gl B_Token .nil pass0 (pa_cons (pe_call G_take_content hr_take_content rfl T.k_take_content.gl kp_take_content B_take_content .nil passX (pa_cons (pe_fld (pv 0) rfl) pa_nil)) (pa_cons (pv 1) pa_nil))) rfl))))
        pss_nil)
      (pss_one (ps_ret (pe_fld (pv 0) rfl))), ?_⟩
    rcases hT with ⟨dxR, dxC, q, hR, hC, g1, g2, rfl⟩ | ⟨A0, tok, r, rfl, hA⟩
    · have nRC : R ≠ C := ne_of hR hC (ins_ne n_ct)
      refine ⟨fun σ' H' => ∃ A tok r z, σ' = [some (.ref R), z] ∧ tks bs t0 e q = tok :: r ∧ ¬ 4 ≤ kindOf (tks bs t0 e q) ∧ Keep2 R C H H' ∧ TkAh d bs t0 e R C H' A tok r, ?_, ?_⟩
      · refine ⟨_, rfl, R, d.cTokens, dxR, _, _, rfl, hR, T.kTokens.cl, T.kTokens.no.2.1, look_at _ _ _ 1 rfl (by decide +kernel), _, rfl, ?_⟩
        refine iteT ?_
        refine ⟨_, rfl, R, d.cTokens, dxR, _, _, rfl, hR, T.kTokens.cl, T.kTokens.no.1, look_at _ _ _ 0 rfl (by decide +kernel), C, dxC, _, rfl, hC, cu_no (by decide +kernel), C, bs, dxC, q, rfl, ⟨hC, by omega, sz⟩, fun H1 k1 h1 l1 => ?_⟩
        have hR1 := k1 _ _ nRC hR
        have hq' : upTo isBlank bs q ≤ e := upTo_in (by decide) hE g2
        have hge : q ≤ upTo isBlank bs q := upTo_ge
        have estep := tks_step bz g1 g2
        refine ⟨_, rfl, R, d.cTokens, dxR, _, _, rfl, hR1, T.kTokens.cl, T.kTokens.no.1, look_at _ _ _ 0 rfl (by decide +kernel), C, d.cCursor, dxC, _, _, rfl, h1, T.kCursor.cl, T.kCursor.no.2.1, look_at _ _ _ 1 rfl (by decide +kernel), ?_⟩
        refine ⟨_, rfl, R, d.cTokens, dxR, _, _, rfl, hR1, T.kTokens.cl, T.kTokens.no.1, look_at _ _ _ 0 rfl (by decide +kernel), C, bs, dxC, upTo isBlank bs q, t0, e, rfl, ⟨h1, l1, sz⟩, bz, by omega, hq', upTo_end, ?_⟩
        obtain ⟨o1, o2⟩ := one_kind (p := upTo isBlank bs q - t0) (b := seg bs (upTo isBlank bs q) e)
        replace o1 : (oneAt bs t0 e (upTo isBlank bs q)).1.kind ≤ 5 := o1
        replace o2 : (oneAt bs t0 e (upTo isBlank bs q)).1.at_ = upTo isBlank bs q - t0 := o2
        have ek : kindOf (tks bs t0 e q) = (oneAt bs t0 e (upTo isBlank bs q)).1.kind := by rw [estep]; rfl
        have ew : wanted (tks bs t0 e q) = (if (oneAt bs t0 e (upTo isBlank bs q)).1.kind = 4 then 1 else if (oneAt bs t0 e (upTo isBlank bs q)).1.kind = 5 then 2 else 3, upTo isBlank bs q - t0) := by
          rw [estep]
          show (_, (oneAt bs t0 e (upTo isBlank bs q)).1.at_) = _
          rw [o2]
          rfl
        have et : t0 + (upTo isBlank bs q - t0) = upTo isBlank bs q := by omega
        by_cases c4 : (oneAt bs t0 e (upTo isBlank bs q)).1.kind = 4
        · rw [if_pos c4]
          rw [ek, if_pos (by omega), ew, if_pos c4] at k
          dsimp only at k
          rw [et] at k
          exact k
        · by_cases c5 : (oneAt bs t0 e (upTo isBlank bs q)).1.kind = 5
          · rw [if_neg c4, if_pos c5]
            rw [ek, if_pos (by omega), ew, if_neg c4, if_pos c5] at k
            dsimp only at k
            rw [et] at k
            exact k
          · rw [if_neg c4, if_neg c5]
            intro H2 c k2 h2 l2 rel at2 kd
            have hR2 := k2 _ _ nRC hR1
            refine ⟨_, rfl, ?_⟩
            refine made rfl fun y dy H3 ny s3 hy => ?_
            have hR3 := s3 _ _ hR2
            have hC3 := s3 _ _ h2
            have nyR : y ≠ R := ne_of hy hR3 (ins_ne fun z => n_cc z.symm)
            refine ⟨_, rfl, R, d.cTokens, dxR, _, rfl, hR3, T.kTokens.cl, T.kTokens.no.2.1, (by show 2 < 1000; decide), ?_⟩
            refine ⟨y, (oneAt bs t0 e (upTo isBlank bs q)).1, _, _, rfl, estep, by rw [ek]; omega, ?_, ?_⟩
            · intro b o hb1 hb2 ho
              rw [upd_ne hb1]
              exact s3 _ _ (k2 _ _ hb2 (k1 _ _ hb2 ho))
            · refine ⟨dxR, dxC, dy, c, (if (oneAt bs t0 e (upTo isBlank bs q)).1.kind = 3 then e + 1 else upTo isBlank bs q + (oneAt bs t0 e (upTo isBlank bs q)).2), by rw [upd_same, put_ah], by rw [upd_ne nRC.symm]; exact hC3, ?_, ?_, rel, ?_⟩
              · by_cases c3 : (oneAt bs t0 e (upTo isBlank bs q)).1.kind = 3
                · rw [if_pos c3]
                  omega
                · rw [if_neg c3]
                  have := l2 c3
                  omega
              · rw [upd_ne nyR, hy, o2, et]
              · by_cases c3 : (oneAt bs t0 e (upTo isBlank bs q)).1.kind = 3
                · rw [if_pos c3, if_pos (show 3 ≤ (oneAt bs t0 e (upTo isBlank bs q)).1.kind by omega)]
                  exact .inl ⟨c3, rfl, rfl⟩
                · rw [if_neg c3, if_neg (show ¬ 3 ≤ (oneAt bs t0 e (upTo isBlank bs q)).1.kind by omega)]
                  exact .inr ⟨by omega, by omega, l2 c3, rfl⟩
      · rintro σ' H' ⟨A, tok, r, z, rfl, es, hk, kp, hA⟩
        rw [if_neg hk] at k
        obtain ⟨dxR', dxC', xA, c, q2, hR', hrest⟩ := _root_.id hA
        exact ⟨_, rfl, R, d.cTokens, dxR', _, _, rfl, hR', T.kTokens.cl, T.kTokens.no.2.1, look_at _ _ _ 1 rfl (by decide +kernel), k H' A tok r es kp hA⟩
    · obtain ⟨dxR, dxC, xA, c, q, hR, hC, lq, hAo, rel, alt⟩ := _root_.id hA
      refine ⟨fun σ' H' => σ' = [some (.ref R), none] ∧ H' = H, ?_, ?_⟩
      · refine ⟨_, rfl, R, d.cTokens, dxR, _, _, rfl, hR, T.kTokens.cl, T.kTokens.no.2.1, look_at _ _ _ 1 rfl (by decide +kernel), _, rfl, ?_⟩
        exact iteF ⟨rfl, rfl⟩
      · rintro σ' H' ⟨rfl, rfl⟩
        have hk : ¬ 4 ≤ kindOf (tok :: r) := by
          show ¬ 4 ≤ tok.kind
          rcases alt with ⟨z, _⟩ | ⟨z, _⟩ <;> omega
        rw [if_neg hk] at k
        exact ⟨_, rfl, R, d.cTokens, dxR, _, _, rfl, hR, T.kTokens.cl, T.kTokens.no.2.1, look_at _ _ _ 1 rfl (by decide +kernel), k H' A0 tok r rfl (Keep2.refl _ _ _) hA⟩
def spTkTake (d : Ad) : Sp := fun vs H Q E => ∃ (R C : Addr) (bs : List UInt8) (t0 e : Nat) (s : Tks), vs = [.ref R] ∧ bs.length ≤ 4096 ∧ Bz bs t0 e ∧ TkAt d bs t0 e R C H s ∧
  if 4 ≤ kindOf s then ErrM d E (wanted s).1 (t0 + (wanted s).2) else ∀ H' A xA c tok r, s = tok :: r → Keep2 R C H H' → H' A = some (tokO d xA c (t0 + tok.at_)) → TokRel c tok → (tok.kind < 3 → TkAt d bs t0 e R C H' r) → (tok.kind = 3 → ∃ xC, H' C = some (cur d xC bs (e + 1))) → tok.kind ≤ 3 → (∃ x av, H' R = some (tksO d x C av)) → Q (.ref A) H'
theorem sc_Tokens_take : FnScope ["self", "token"] ["self"] (defScope s_Tokens_take) := ⟨rfl, rfl, rfl, by decide +kernel, rfl, by decide +kernel, by decide +kernel⟩
theorem ok_Tokens_take (T : Txt K mg d) : OkD P w K mg base (L2.CX P w) 5 d.mTokens_take ["self"] (spTkTake d) := by
  obtain ⟨fd, F, B⟩ := T.kTokens_take.ex
  obtain ⟨⟨fd_Tokens_peek, G_Tokens_peek, B_Tokens_peek⟩, kp_Tokens_peek⟩ := ok_Tokens_peek (P := P) (w := w) (base := base) T
  refine ⟨⟨fd, F.okX sc_Tokens_take (fun vs H Q E h => ?_) (fun cdv A outer s H vs Q E hr h => ?_), B⟩, F.kp⟩
  · obtain ⟨R, C, bs, t0, e, s, rfl, _⟩ := h
    rfl
  · obtain ⟨R, C, bs, t0, e, s, rfl, sz, bz, hT, k⟩ := h
    obtain ⟨dxR0, av, hR0⟩ := hT.hR
    have hr_Tokens_peek : Room 4 _ := hr.mono (by decide)
    refine ⟨_, pss_cons (ps_set (i := 1) sc_Tokens_take.nd rfl (Or.inl rfl) (pe_meth0 (pv 0) T.kTokens.cl T.kTokens_peek.me G_Tokens_peek hr_Tokens_peek B_Tokens_peek .nil passX))
      (pss_cons (ps_fld (pv 0) pe_non rfl)
      (pss_one (ps_ret (pv 1)))), ?_⟩
    refine ⟨_, rfl, R, dxR0, _, rfl, hR0, tk_no (by decide +kernel), R, C, bs, t0, e, s, rfl, sz, bz, hT, ?_⟩
    by_cases c : 4 ≤ kindOf s
    · rw [if_pos c] at k ⊢
      exact k
    · rw [if_neg c] at k ⊢
      intro H1 A tok r es kp hA
      obtain ⟨dxR, dxC, xA, c, q, hR, hC, lq, hAo, rel, alt⟩ := _root_.id hA
      have nRC : R ≠ C := ne_of hR hC (ins_ne n_ct)
      have nAR : A ≠ R := ne_of hAo hR (ins_ne fun z => n_cc z.symm)
      refine ⟨_, rfl, R, d.cTokens, dxR, _, rfl, hR, T.kTokens.cl, T.kTokens.no.2.1, (by show 2 < 1000; decide), ?_⟩
      refine ⟨_, rfl, k _ A xA c tok r es ?_ (by rw [upd_ne nAR]; exact hAo) rel ?_ ?_ ?_ ⟨dxR, .non, by rw [upd_same, put_ah]⟩⟩
      · intro b o hb1 hb2 ho
        rw [upd_ne hb1]
        exact kp b o hb1 hb2 ho
      · intro hk
        rcases alt with ⟨z, _⟩ | ⟨z, z1, z2, rfl⟩
        · omega
        · exact .inl ⟨dxR, dxC, q, by rw [upd_same, put_ah], by rw [upd_ne nRC.symm]; exact hC, z1, z2, rfl⟩
      · intro hk
        rcases alt with ⟨z, z1, z2⟩ | ⟨z, _⟩
        · exact ⟨dxC, by rw [upd_ne nRC.symm, hC, z1]⟩
        · omega
      · rcases alt with ⟨z, _⟩ | ⟨z, _⟩ <;> omega
end
end HC


namespace HC
open PySem PySem.Spec PyProof.Rows L2
open ShBlazon (isLetter isDigit isBlank oneToken tokensFrom tokensOf valueOf Token kindOf place wordOf numOf wanted look eat isWord eatWord ascii sinister lineAt twoAt piecesAt partedAt variedAt fieldAt fillAt mannerAt sizeAt groupAt ordAt layerAt layersAt vowel TINCTWORDS LINEWORDS WAYWORDS VARYWORDS ORDWORDS CHARGEWORDS SEVERAL MANNERWORDS)
/-! ### tables of names -/
def sinW : List UInt8 := ascii " sinister"
/-- a name of the table, ahead told before it, sinister behind it where a name goes on so -/
def mName (ns : List (List UInt8)) (a : List UInt8) (s : Tks) : Except ShBlazon.Fault (Nat × Tks) :=
  if kindOf s = 0 then (match ns.findIdx? (fun x => x == a ++ wordOf s) with
    | none => .error (wanted s)
    | some j => match ns.findIdx? (fun x => x == (a ++ wordOf s) ++ sinW) with
      | none => .ok (j, s.drop 1)
      | some i => if 4 ≤ kindOf (s.drop 1) then .error (wanted (s.drop 1)) else if isWord (s.drop 1) "sinister" = true then .ok (i, (s.drop 1).drop 1) else .ok (j, s.drop 1))
  else .error (wanted s)
/-- a word of the specification's table, sinister behind the word of the number bend -/
def mSin (S : List (List UInt8)) (bend : Nat) (s : Tks) : Except ShBlazon.Fault (Nat × Tks) := match eat S s with
  | .error e => .error e
  | .ok k => if k.1 = bend then (if 4 ≤ kindOf k.2 then .error (wanted k.2) else .ok (sinister bend k.1 k.2)) else .ok k
/-- a token is a word of letters, if it is one -/
def WordOk (s : Tks) : Prop := kindOf s = 0 → wordOf s ≠ [] ∧ ∀ x ∈ wordOf s, isLetter x = true
def pairOk (a p s : List UInt8) : Bool := if s = [] then ((p.drop a.length).contains 32 || (decide (p.drop a.length = []) || !decide (p.take a.length = a))) else decide (p = a ++ s)
def tabOk (P S : List (List UInt8)) (a : List UInt8) (bend : Nat) : Bool :=
  decide (P.length = S.length) && ((P.zip S).all fun x => pairOk a x.1 x.2) && (List.range P.length).all fun i => decide (S.getD i [] = []) || decide (P.findIdx? (fun x => x == P.getD i [] ++ sinW) = if i = bend then some (i + 1) else none)
theorem pair_eq {a p s w : List UInt8} (h : pairOk a p s = true) (hw : w ≠ []) (hl : ∀ x ∈ w, isLetter x = true) : (p == a ++ w) = (s == w) := by
  unfold pairOk at h
  by_cases c : s = []
  · rw [if_pos c] at h
    subst c
    have e2 : (([] : List UInt8) == w) = false := beq_eq_false_iff_ne.mpr fun z => hw z.symm
    rw [e2, beq_eq_false_iff_ne]
    intro z
    rw [z, List.drop_left, List.take_left, decide_eq_true rfl, Bool.not_true, Bool.or_false] at h
    rw [Bool.or_eq_true] at h
    rcases h with h | h
    · have := List.contains_iff_mem.mp h
      exact absurd (hl 32 this) (by decide)
    · exact hw (of_decide_eq_true h)
  · rw [if_neg c] at h
    have e := of_decide_eq_true h
    subst e
    rw [Bool.eq_iff_iff, beq_iff_eq, beq_iff_eq]
    exact ⟨List.append_cancel_left, fun z => by rw [z]⟩
theorem idx_eq {a w : List UInt8} (hw : w ≠ []) (hl : ∀ x ∈ w, isLetter x = true) : ∀ (P S : List (List UInt8)), P.length = S.length → ((P.zip S).all fun x => pairOk a x.1 x.2) = true → P.findIdx? (fun x => x == a ++ w) = S.findIdx? fun x => x == w
  | [], [], _, _ => rfl
  | [], _ :: _, h, _ => by simp at h
  | _ :: _, [], h, _ => by simp at h
  | p :: P, s :: S, h, hz => by
    rw [List.zip_cons_cons, List.all_cons, Bool.and_eq_true] at hz
    rw [List.findIdx?_cons, List.findIdx?_cons, pair_eq hz.1 hw hl, idx_eq hw hl P S (by simpa using h) hz.2]
theorem idx_some {l : List (List UInt8)} {w : List UInt8} {j : Nat} (h : l.findIdx? (fun x => x == w) = some j) : l[j]? = some w ∧ j < l.length ∧ ∀ m z, m < j → l[m]? = some z → z ≠ w := by
  obtain ⟨h1, h2, h3⟩ := List.findIdx?_eq_some_iff_getElem.mp h
  refine ⟨?_, h1, fun m z hm hz e => ?_⟩
  · rw [List.getElem?_eq_getElem h1, beq_iff_eq.mp h2]
  · have hm' : m < l.length := by omega
    rw [List.getElem?_eq_getElem hm'] at hz
    have := h3 m hm
    rw [Option.some.inj hz, e] at this
    exact this (beq_self_eq_true _)
theorem name_tab {P S : List (List UInt8)} {a : List UInt8} {bend : Nat} (h : tabOk P S a bend = true) {s : Tks} (hs : WordOk s) : mName P a s = mSin S bend s := by
  unfold tabOk at h
  rw [Bool.and_eq_true, Bool.and_eq_true] at h
  obtain ⟨⟨h1, h2⟩, h3⟩ := h
  unfold mName mSin eat look
  by_cases c : kindOf s = 0
  · rw [if_pos c, if_pos c]
    obtain ⟨w1, w2⟩ := hs c
    have hlen := of_decide_eq_true h1
    rw [idx_eq w1 w2 P S hlen h2]
    cases e : S.findIdx? (fun x => x == wordOf s) with
    | none => rfl
    | some j =>
      have e' : P.findIdx? (fun x => x == a ++ wordOf s) = some j := by rw [idx_eq w1 w2 P S hlen h2]; exact e
      obtain ⟨i1, i2, _⟩ := idx_some e'
      obtain ⟨i3, i4, _⟩ := idx_some e
      have h4 := List.all_eq_true.mp h3 j (List.mem_range.mpr i2)
      have e1 : P.getD j [] = a ++ wordOf s := by rw [List.getD_eq_getElem?_getD, i1]; rfl
      have e2 : S.getD j [] = wordOf s := by rw [List.getD_eq_getElem?_getD, i3]; rfl
      rw [e1, e2, decide_eq_false w1, Bool.false_or] at h4
      have h5 := of_decide_eq_true h4
      dsimp only
      rw [h5]
      by_cases b : j = bend
      · rw [if_pos b, if_pos b]
        dsimp only
        unfold sinister
        by_cases c4 : 4 ≤ kindOf (s.drop 1)
        · rw [if_pos c4, if_pos c4]
        · rw [if_neg c4, if_neg c4]
          by_cases c5 : isWord (s.drop 1) "sinister" = true
          · rw [if_pos c5, if_pos ⟨b, c5⟩]
          · rw [if_neg c5, if_neg fun z => c5 z.2]
      · rw [if_neg b, if_neg b]
  · rw [if_neg c, if_neg c]
theorem sin_plain {S : List (List UInt8)} {s : Tks} {bend : Nat} (h : S.length ≤ bend) : mSin S bend s = eat S s := by
  unfold mSin
  cases e : eat S s with
  | error f => rfl
  | ok k =>
    dsimp only
    rw [if_neg]
    intro z
    unfold eat look at e
    by_cases c : kindOf s = 0
    · rw [if_pos c] at e
      cases q : S.findIdx? (fun x => x == wordOf s) with
      | none => rw [q] at e; cases e
      | some j =>
        rw [q] at e
        cases e
        have := (idx_some q).2.1
        dsimp only at z
        omega
    · rw [if_neg c] at e
      cases e
/-- names are of letters and blanks -/
def nmOk (ns : List (List UInt8)) : Bool := ns.all fun x => x.all fun c => isLetter c || c == 32
theorem nm_no {ns : List (List UInt8)} (h : nmOk ns = true) {a c : List UInt8} {x : UInt8} (hx : x ∈ c) (h1 : isLetter x = false) (h2 : x ≠ 32) : a ++ c ∉ ns := by
  intro m
  have h3 := List.all_eq_true.mp h _ m
  have h4 := List.all_eq_true.mp h3 x (List.mem_append_right _ hx)
  rw [h1, Bool.false_or] at h4
  exact h2 (beq_iff_eq.mp h4)
/-! ### tokens that are none -/
theorem wanted_tok {tok : Token} {r : Tks} (h : tok.kind ≤ 3) : wanted (tok :: r) = (3, tok.at_) := by
  show (if tok.kind = 4 then 1 else if tok.kind = 5 then 2 else 3, tok.at_) = _
  rw [if_neg (by omega), if_neg (by omega)]
theorem look_not {s : Tks} (h : kindOf s ≠ 0) (L : List (List UInt8)) : look L s = none := by
  unfold look
  rw [if_neg h]
theorem eat_not {s : Tks} (h : kindOf s ≠ 0) (L : List (List UInt8)) : eat L s = .error (wanted s) := by
  unfold eat
  rw [look_not h]
theorem isWord_not {s : Tks} (h : kindOf s ≠ 0) (w : String) : isWord s w = false := by
  unfold isWord
  have : (kindOf s == 0) = false := beq_eq_false_iff_ne.mpr h
  rw [this]
  rfl
theorem eatWord_not {s : Tks} (h : kindOf s ≠ 0) (w : String) : eatWord w s = .error (wanted s) := by
  unfold eatWord
  rw [isWord_not h]
  rfl
theorem line_not {s : Tks} (h : kindOf s ≠ 0) : lineAt s = (0, s) := by
  unfold lineAt
  rw [look_not h]
theorem size_not {s : Tks} (h : kindOf s ≠ 0) : sizeAt s = (3, s) := by
  unfold sizeAt
  rw [look_not h]
theorem two_not {s : Tks} (h : kindOf s ≠ 0) : twoAt s = .error (wanted s) := by
  unfold twoAt
  rw [eat_not h]
theorem parted_not {s : Tks} (h : kindOf s ≠ 0) (n : Nat) : partedAt n s = .error (wanted s) := by
  unfold partedAt
  rw [line_not h, two_not h]
theorem field_not {s : Tks} (h : kindOf s ≠ 0) : fieldAt s = .error (wanted s) := by
  unfold fieldAt
  rw [look_not h, isWord_not h, isWord_not h, isWord_not h, eat_not h]
  rfl
theorem fill_not {s : Tks} (h : kindOf s ≠ 0) (f : Sh.Field) : fillAt f s = .error (wanted s) := by
  unfold fillAt
  rw [isWord_not h, field_not h]
  rfl
/-! ### what the defs do with tokens -/
abbrev Pt (α : Type) := Tks → Except ShBlazon.Fault (α × Tks)
def secondAt (f : Nat) : Pt Nat := fun s => match eatWord "and" s with
  | .error e => .error e
  | .ok t => match eat TINCTWORDS t with
    | .error e => .error e
    | .ok b => if f = b.1 then .error (5, place t) else .ok (b.1, b.2)
def numAtT : Pt Nat := fun s => if kindOf s = 1 then (if numOf s < 2 ∨ 24 < numOf s then .error (4, place s) else .ok (numOf s, s.drop 1)) else .error (wanted s)
def lineM : Pt Nat := fun s => if 4 ≤ kindOf s then .error (wanted s) else .ok (lineAt s)
def sizeM : Pt Nat := fun s => if 4 ≤ kindOf s then .error (wanted s) else .ok (sizeAt s)
def variM : Pt Sh.Field := fun s => match eat VARYWORDS s with
  | .error e => .error e
  | .ok v => variedAt (sinister 2 v.1 v.2).1 (sinister 2 v.1 v.2).2
def manM : Pt Nat := fun s => if 4 ≤ kindOf s then .error (wanted s) else if isWord s "in" = true then mSin MANNERWORDS 3 (s.drop 1) else .ok (0, s)
def ordM (f : Sh.Field) : Pt Sh.Layer := fun s => match eat ORDWORDS s with
  | .error e => .error e
  | .ok o => ordAt f o.1 o.2
theorem two_second (s : Tks) : twoAt s = match eat TINCTWORDS s with
    | .error e => .error e
    | .ok a => match secondAt a.1 a.2 with
      | .error e => .error e
      | .ok b => .ok ((a.1, b.1), b.2) := by
  unfold twoAt secondAt
  cases eat TINCTWORDS s with
  | error e => rfl
  | ok a =>
    dsimp only
    cases eatWord "and" a.2 with
    | error e => rfl
    | ok t =>
      dsimp only
      cases eat TINCTWORDS t with
      | error e => rfl
      | ok b =>
        dsimp only
        by_cases c : a.1 = b.1
        · rw [if_pos c, if_pos c]
        · rw [if_neg c, if_neg c]
theorem pieces_num (s : Tks) : piecesAt s = match eatWord "of" s with
    | .error e => .error e
    | .ok t => numAtT t := rfl
/-! ### the program's tables -/
def NPART : List (List UInt8) := ["per pale", "per fess", "per bend", "per bend sinister", "per chevron", "per saltire", "quarterly", "gyronny"].map ascii
def NVARY : List (List UInt8) := ["barry", "paly", "bendy", "bendy sinister", "chevronny", "chequy", "lozengy"].map ascii
def NORD : List (List UInt8) := ["chief", "base", "pale", "fess", "bend", "bend sinister", "chevron", "cross", "saltire", "pile", "bordure", "canton", "quarter"].map ascii
def NMAN : List (List UInt8) := ["", "in fess", "in pale", "in bend", "in bend sinister", "in chief", "in base"].map ascii
def NSIZ : List (List UInt8) := ["small", "lesser", "", "great"].map ascii
def WAYW : List (List UInt8) := ["pale", "fess", "bend", "", "chevron", "saltire", "", ""].map ascii
theorem wn_tin : wTINCTURES = TINCTWORDS.map strOf := by decide +kernel
theorem wn_line : wLINES = LINEWORDS.map strOf := by decide +kernel
theorem wn_part : wPARTED_WAYS = NPART.map strOf := by decide +kernel
theorem wn_vary : wVARIED_WAYS = NVARY.map strOf := by decide +kernel
theorem wn_ord : wORDINARIES = NORD.map strOf := by decide +kernel
theorem wn_ch : wCHARGES = CHARGEWORDS.map strOf := by decide +kernel
theorem wn_man : wMANNERS = NMAN.map strOf := by decide +kernel
theorem wn_siz : wSIZES = NSIZ.map strOf := by decide +kernel
theorem wn_cnt : wCOUNTS = ShBlazon.COUNTS.map strOf := by decide +kernel
theorem tb_tin : tabOk TINCTWORDS TINCTWORDS [] 99 = true := by decide +kernel
theorem tb_line : tabOk LINEWORDS LINEWORDS [] 99 = true := by decide +kernel
theorem tb_vary : tabOk NVARY VARYWORDS [] 2 = true := by decide +kernel
theorem tb_ord : tabOk NORD ORDWORDS [] 4 = true := by decide +kernel
theorem tb_ch : tabOk CHARGEWORDS CHARGEWORDS [] 99 = true := by decide +kernel
theorem tb_sev : tabOk SEVERAL SEVERAL [] 99 = true := by decide +kernel
theorem tb_man : tabOk NMAN MANNERWORDS (ascii "in ") 3 = true := by decide +kernel
theorem tb_way : tabOk NPART WAYW (ascii "per ") 2 = true := by decide +kernel
theorem tb_cnt : tabOk ShBlazon.COUNTS ShBlazon.COUNTS [] 99 = true := by decide +kernel
theorem tb_siz : tabOk NSIZ NSIZ [] 99 = true := by decide +kernel
theorem nm_all : nmOk TINCTWORDS = true ∧ nmOk LINEWORDS = true ∧ nmOk NPART = true ∧ nmOk NVARY = true ∧ nmOk NORD = true ∧ nmOk CHARGEWORDS = true ∧ nmOk SEVERAL = true ∧ nmOk NMAN = true ∧ nmOk NSIZ = true ∧ nmOk ShBlazon.COUNTS = true := by decide +kernel
/-- where a word is looked up in a table -/
theorem mem_look {P S : List (List UInt8)} (h : ((P.zip S).all fun x => pairOk [] x.1 x.2) = true) (hl : P.length = S.length) {s : Tks} (hs : WordOk s) (hk : kindOf s = 0) : decide (wordOf s ∈ P) = (look S s).isSome := by
  obtain ⟨w1, w2⟩ := hs hk
  unfold look
  rw [if_pos hk, ← idx_eq (a := []) w1 w2 P S hl h, List.nil_append]
  rw [Bool.eq_iff_iff, decide_eq_true_eq, List.findIdx?_isSome, List.any_eq_true]
  constructor
  · intro m
    exact ⟨_, m, beq_self_eq_true _⟩
  · rintro ⟨x, m, e⟩
    rw [← beq_iff_eq.mp e]
    exact m
theorem pz_part : ((NPART.zip [[], [], [], [], [], [], ascii "quarterly", ascii "gyronny"]).all fun x => pairOk [] x.1 x.2) = true := by decide +kernel
theorem pz_vary : ((NVARY.zip VARYWORDS).all fun x => pairOk [] x.1 x.2) = true := by decide +kernel
theorem pz_ord : ((NORD.zip ORDWORDS).all fun x => pairOk [] x.1 x.2) = true := by decide +kernel
theorem pz_tin : ((TINCTWORDS.zip TINCTWORDS).all fun x => pairOk [] x.1 x.2) = true := by decide +kernel
theorem pz_line : ((LINEWORDS.zip LINEWORDS).all fun x => pairOk [] x.1 x.2) = true := by decide +kernel
theorem pz_ch : ((CHARGEWORDS.zip CHARGEWORDS).all fun x => pairOk [] x.1 x.2) = true := by decide +kernel
theorem pz_siz : ((NSIZ.zip NSIZ).all fun x => pairOk [] x.1 x.2) = true := by decide +kernel
end HC
namespace HC
open PySem PySem.Spec PyProof.Rows L2
open ShBlazon (isLetter isDigit isBlank oneToken tokensFrom tokensOf valueOf Token kindOf place wordOf numOf wanted look eat isWord eatWord ascii sinister lineAt twoAt piecesAt partedAt variedAt fieldAt fillAt mannerAt sizeAt groupAt ordAt layerAt layersAt vowel TINCTWORDS LINEWORDS WAYWORDS VARYWORDS ORDWORDS CHARGEWORDS SEVERAL MANNERWORDS)
section
variable {P : Program} {w : World} {K : PySem.W.Frag} {mg : Str → Option Value} {base : Heap} {d : Ad}
/-! ### what a def that takes tokens gives back -/
def GiveT {α : Type} (d : Ad) (bs : List UInt8) (t0 e : Nat) (R C : Addr) (Rep : Hp → Hp → V → α → Prop) (H : Hp) (Q : VK) (E : XK) : Except ShBlazon.Fault (α × Tks) → Prop
  | .error f => ErrM d E f.1 (t0 + f.2)
  | .ok y => ∀ v H', Keep2 R C H H' → TkAt d bs t0 e R C H' y.2 → Rep H H' v y.1 → Q v H'
def spT {α : Type} (d : Ad) (pre : Hp → List V → Pt α → Prop) (Rep : Hp → Hp → V → α → Prop) : Sp := fun vs H Q E => ∃ (R C : Addr) (us : List V) (bs : List UInt8) (t0 e : Nat) (s : Tks) (par : Pt α),
  vs = .ref R :: us ∧ bs.length ≤ 4096 ∧ Bz bs t0 e ∧ TkAt d bs t0 e R C H s ∧ pre H us par ∧ GiveT d bs t0 e R C Rep H Q E (par s)
theorem TkAh.at_ {bs : List UInt8} {t0 e : Nat} {R C A : Addr} {H : Hp} {tok : Token} {r : Tks} (h : TkAh d bs t0 e R C H A tok r) : TkAt d bs t0 e R C H (tok :: r) := .inr ⟨A, tok, r, rfl, h⟩
theorem TkAt.same {bs : List UInt8} {t0 e : Nat} {R C : Addr} {H H' : Hp} {s : Tks} (h : TkAt d bs t0 e R C H s) (z : Same H H') : TkAt d bs t0 e R C H' s := by
  rcases h with ⟨a, b, q, h1, h2, h3⟩ | ⟨A, tok, r, rfl, xR, xC, xA, c, q, h1, h2, h3, h4, h5⟩
  · exact .inl ⟨a, b, q, z _ _ h1, z _ _ h2, h3⟩
  · exact .inr ⟨A, tok, r, rfl, xR, xC, xA, c, q, z _ _ h1, z _ _ h2, h3, z _ _ h4, h5⟩
theorem TkAt.word {bs : List UInt8} {t0 e : Nat} {R C : Addr} {H : Hp} {s : Tks} (bz : Bz bs t0 e) (h : TkAt d bs t0 e R C H s) : WordOk s := by
  intro hk
  rcases h with ⟨a, b, q, h1, h2, h3, h4, rfl⟩ | ⟨A, tok, r, rfl, xR, xC, xA, c, q, h1, h2, h3, h4, rel, h5⟩
  · rw [tks_step bz h3 h4] at hk ⊢
    have hk' : (oneToken (upTo isBlank bs q - t0) (seg bs (upTo isBlank bs q) e)).1.kind = 0 := hk
    show (oneToken (upTo isBlank bs q - t0) (seg bs (upTo isBlank bs q) e)).1.bytes ≠ [] ∧ ∀ x ∈ (oneToken (upTo isBlank bs q - t0) (seg bs (upTo isBlank bs q) e)).1.bytes, _
    cases hs : seg bs (upTo isBlank bs q) e with
    | nil => rw [hs] at hk'; exact absurd hk' (by show ¬ (3 : Nat) = 0; decide)
    | cons c r =>
      rw [hs] at hk'
      by_cases g1 : isLetter c = true
      · rw [one_let g1]
        refine ⟨fun z => ?_, tw_all _⟩
        have z' : (c :: r).takeWhile isLetter = [] := z
        rw [List.takeWhile_cons_of_pos g1] at z'
        cases z'
      · by_cases g2 : isDigit c = true
        · rw [one_dig g1 g2] at hk'
          by_cases g3 : c ≠ 48 ∧ valueOf ((c :: r).takeWhile isDigit) < 1000
          · rw [if_pos g3] at hk'; exact absurd hk' (by show ¬ (1 : Nat) = 0; decide)
          · rw [if_neg g3] at hk'; exact absurd hk' (by show ¬ (5 : Nat) = 0; decide)
        · rw [one_com g1 g2] at hk'
          by_cases g3 : c = 44
          · rw [if_pos g3] at hk'; exact absurd hk' (by show ¬ (2 : Nat) = 0; decide)
          · rw [if_neg g3] at hk'; exact absurd hk' (by show ¬ (4 : Nat) = 0; decide)
  · replace hk : tok.kind = 0 := hk
    rcases rel with ⟨_, e1, e2, e3, _⟩ | ⟨z, _⟩ | ⟨z, _⟩ | ⟨z, _⟩
    · show tok.bytes ≠ [] ∧ ∀ x ∈ tok.bytes, isLetter x = true
      rw [← e1]
      exact ⟨e2, e3⟩
    · omega
    · omega
    · omega
theorem seq_keep2 {R C a : Addr} {H H' : Hp} {xs : List V} {o1 o2 : HO} {n1 n2 n3 n4 : Addr} {f1 f2 : List (Str × V)} (h : SqL K H a xs) (hR : H R = some o1) (e1 : o1 = .ins n1 n2 f1) (hC : H C = some o2) (e2 : o2 = .ins n3 n4 f2) (k : Keep2 R C H H') : SqL K H' a xs := by
  subst e1 e2
  rcases h with (z | ⟨o, z⟩) | z
  · exact .inl (.inl (k _ _ (ne_of z hR (by intro q; cases q)) (ne_of z hC (by intro q; cases q)) z))
  · exact .inl (.inr ⟨o, k _ _ (ne_of z hR (by intro q; cases q)) (ne_of z hC (by intro q; cases q)) z⟩)
  · exact .inr z
theorem TkAt.seq {bs : List UInt8} {t0 e : Nat} {R C a : Addr} {H H' : Hp} {s : Tks} {xs : List V} (h : TkAt d bs t0 e R C H s) (z : SqL K H a xs) (k : Keep2 R C H H') : SqL K H' a xs := by
  obtain ⟨_, _, hR⟩ := h.hR
  obtain ⟨_, _, hC⟩ := h.hC
  exact seq_keep2 z hR rfl hC rfl k
theorem all_flat (ns : List (List UInt8)) : (ns.map vS).all flatV = true := by
  rw [List.all_map]
  exact List.all_eq_true.mpr fun _ _ => rfl
theorem inV_vS (x : List UInt8) (ns : List (List UInt8)) : inV (vS x) (ns.map vS) = decide (x ∈ ns) := by
  unfold inV
  rw [List.any_map, Bool.eq_iff_iff, List.any_eq_true, decide_eq_true_eq]
  constructor
  · rintro ⟨y, m, e⟩
    have e' : eqV (vS y) (vS x) = true := e
    rw [vtup] at e'
    rw [← of_decide_eq_true e']
    exact m
  · intro m
    exact ⟨x, m, by show eqV (vS x) (vS x) = true; rw [vtup]; exact decide_eq_true rfl⟩
theorem map_vS (ns : List (List UInt8)) : (ns.map strOf).map V.str = ns.map vS := by
  rw [List.map_map]
  rfl
/-- a token's text is a word of these letters where the token is that word -/
theorem rel_word {c : List UInt8} {tok : Token} {r : Tks} (rel : TokRel c tok) {wd : String} (h1 : ascii wd ≠ []) (h2 : ∀ x ∈ ascii wd, isLetter x = true) : isWord (tok :: r) wd = decide (c = ascii wd) := by
  show (tok.kind == 0 && tok.bytes == ascii wd) = _
  rcases rel with ⟨k, e1, _⟩ | ⟨k, n, _, dg, _⟩ | ⟨k, e⟩ | ⟨k, e⟩
  · rw [k, e1, Bool.eq_iff_iff, Bool.and_eq_true, beq_iff_eq, beq_iff_eq, decide_eq_true_eq]
    exact ⟨fun z => z.2, fun z => ⟨rfl, z⟩⟩
  all_goals
    rw [k]
    symm
    show decide _ = false
    rw [decide_eq_false_iff_not]
    intro z
  · cases c with
    | nil => exact n rfl
    | cons x y =>
      have a1 := dg x List.mem_cons_self
      have a2 := h2 x (by rw [← z]; exact List.mem_cons_self)
      have := (class_tb x).1
      rw [a1, a2] at this
      cases this
  · rw [e] at z
    exact absurd (h2 44 (by rw [← z]; exact List.mem_cons_self)) (by decide)
  · rw [e] at z
    exact absurd (h2 41 (by rw [← z]; exact List.mem_cons_self)) (by decide)
/-- a word that is written -/
def wOk (wd : String) : Bool := !decide (ascii wd = []) && (ascii wd).all isLetter
theorem wOk.ne {wd : String} (h : wOk wd = true) : ascii wd ≠ [] := by
  unfold wOk at h
  rw [Bool.and_eq_true] at h
  intro z
  rw [decide_eq_true z] at h
  cases h.1
theorem wOk.all {wd : String} (h : wOk wd = true) : ∀ x ∈ ascii wd, isLetter x = true := by
  unfold wOk at h
  rw [Bool.and_eq_true] at h
  exact List.all_eq_true.mp h.2
def RNon (_ _ : Hp) (v : V) (_ : Unit) : Prop := v = .non
def RBl (_ _ : Hp) (v : V) (b : Bool) : Prop := v = .bl b
def preWord (_ : Hp) (us : List V) (par : Pt Unit) : Prop := ∃ wd : String, us = [vS (ascii wd)] ∧ wOk wd = true ∧ par = fun s => (eatWord wd s).map fun t => ((), t)
theorem kind_ne {s : Tks} (h : 4 ≤ kindOf s) : kindOf s ≠ 0 := by omega
theorem sc_take_word : FnScope ["tokens", "word", "token"] ["tokens", "word"] (defScope s_take_word) := ⟨rfl, rfl, rfl, by decide +kernel, rfl, by decide +kernel, by decide +kernel⟩
theorem ok_take_word (T : Txt K mg d) : OkD P w K mg base (L2.CX P w) 6 d.f_take_word ["tokens", "word"] (spT d preWord RNon) := by
  obtain ⟨fd, F, B⟩ := T.k_take_word.ex
  obtain ⟨⟨fd_Tokens_take, G_Tokens_take, B_Tokens_take⟩, kp_Tokens_take⟩ := ok_Tokens_take (P := P) (w := w) (base := base) T
  obtain ⟨c_OTHER_TOKEN, m_OTHER_TOKEN⟩ := T.nOTHER_TOKEN
  refine ⟨⟨fd, F.okX sc_take_word (fun vs H Q E h => ?_) (fun cdv A outer s H vs Q E hr h => ?_), B⟩, F.kp⟩
  · obtain ⟨R, C, us, bs, t0, e, s, par, rfl, _, _, _, ⟨wd, rfl, _⟩, _⟩ := h
    rfl
  · obtain ⟨R, C, us, bs, t0, e, s, par, rfl, sz, bz, hT, ⟨wd, rfl, hw, rfl⟩, k⟩ := h
    obtain ⟨dxR, av, hR⟩ := hT.hR
    have hr_Tokens_take : Room 5 _ := hr.mono (by decide)
    refine ⟨_, pss_cons (ps_set (i := 2) sc_take_word.nd rfl (Or.inl rfl) (pe_meth0 (pv 0) T.kTokens.cl T.kTokens_take.me G_Tokens_take hr_Tokens_take B_Tokens_take .nil passX))
      (pss_one (ps_if (pt_cmpR op_ne (pe_fld (pv 2) rfl) (pv 1) (nomark _))
        (pss_one (ps_raiseLow rfl T.xMisread hr takesX (pa_cons (pgi m_OTHER_TOKEN) (pa_cons (pe_fld (pv 2) rfl) pa_nil))))
        pss_nil)), ?_⟩
    refine ⟨_, rfl, R, dxR, _, rfl, hR, tk_no (by decide +kernel), R, C, bs, t0, e, s, rfl, sz, bz, hT, ?_⟩
    by_cases c4 : 4 ≤ kindOf s
    · rw [if_pos c4]
      dsimp only at k
      rw [eatWord_not (kind_ne c4)] at k
      exact k
    · rw [if_neg c4]
      intro H1 A dxA c tok r es kp hA rel nx en kd _
      subst es
      refine ⟨_, rfl, A, d.cToken, dxA, _, _, rfl, hA, T.kToken.cl, T.kToken.no.1, look_at _ _ _ 0 rfl (by decide +kernel), _, rfl, rfl, _, rfl, ?_⟩
      rw [dec_vS]
      have ew := rel_word (r := r) rel (wOk.ne hw) (wOk.all hw)
      by_cases c1 : c = ascii wd
      · rw [decide_eq_true c1] at ew ⊢
        refine iteF ?_
        have e1 : eatWord wd (tok :: r) = .ok r := by
          unfold eatWord
          rw [ew]
          rfl
        dsimp only at k
        rw [e1] at k
        have k0 : tok.kind = 0 := by
          unfold isWord at ew
          rw [Bool.and_eq_true] at ew
          exact beq_iff_eq.mp ew.1
        exact k .non H1 kp (nx (by omega)) rfl
      · rw [decide_eq_false c1] at ew ⊢
        refine iteT ?_
        have e1 : eatWord wd (tok :: r) = .error (wanted (tok :: r)) := by
          unfold eatWord
          rw [ew]
          rfl
        dsimp only at k
        rw [e1, wanted_tok kd] at k
        exact ⟨_, rfl, A, d.cToken, dxA, _, _, rfl, hA, T.kToken.cl, T.kToken.no.2.1, look_at _ _ _ 1 rfl (by decide +kernel), _, _, rfl, fun z hz => k z _ upd_same⟩
def passM (wd : String) : Pt Bool := fun s => if 4 ≤ kindOf s then .error (wanted s) else if isWord s wd = true then .ok (true, s.drop 1) else .ok (false, s)
def prePass (_ : Hp) (us : List V) (par : Pt Bool) : Prop := ∃ wd : String, us = [vS (ascii wd)] ∧ wOk wd = true ∧ par = passM wd
theorem sc_pass_word_blazons : FnScope ["tokens", "word"] ["tokens", "word"] (defScope s_pass_word_blazons) := ⟨rfl, rfl, rfl, by decide +kernel, rfl, by decide +kernel, by decide +kernel⟩
theorem ok_pass_word_blazons (T : Txt K mg d) : OkD P w K mg base (L2.CX P w) 6 d.f_pass_word_blazons ["tokens", "word"] (spT d prePass RBl) := by
  obtain ⟨fd, F, B⟩ := T.k_pass_word_blazons.ex
  obtain ⟨⟨fd_Tokens_take, G_Tokens_take, B_Tokens_take⟩, kp_Tokens_take⟩ := ok_Tokens_take (P := P) (w := w) (base := base) T
  obtain ⟨⟨fd_Tokens_peek, G_Tokens_peek, B_Tokens_peek⟩, kp_Tokens_peek⟩ := ok_Tokens_peek (P := P) (w := w) (base := base) T
  refine ⟨⟨fd, F.okX sc_pass_word_blazons (fun vs H Q E h => ?_) (fun cdv A outer s H vs Q E hr h => ?_), B⟩, F.kp⟩
  · obtain ⟨R, C, us, bs, t0, e, s, par, rfl, _, _, _, ⟨wd, rfl, _⟩, _⟩ := h
    rfl
  · obtain ⟨R, C, us, bs, t0, e, s, par, rfl, sz, bz, hT, ⟨wd, rfl, hw, rfl⟩, k⟩ := h
    obtain ⟨dxR, av, hR⟩ := hT.hR
    have hr_Tokens_take : Room 5 _ := hr.mono (by decide)
    have hr_Tokens_peek : Room 4 _ := hr.mono (by decide)
    refine ⟨_, pss_cons (ps_if (pt_cmpR op_ne (pe_fld (pe_meth0 (pv 0) T.kTokens.cl T.kTokens_peek.me G_Tokens_peek hr_Tokens_peek B_Tokens_peek .nil passX) rfl) (pv 1) (nomark _))
        (pss_one (ps_ret pe_bl))
        pss_nil)
      (pss_cons (ps_expr (pe_meth0 (pv 0) T.kTokens.cl T.kTokens_take.me G_Tokens_take hr_Tokens_take B_Tokens_take .nil passX))
      (pss_one (ps_ret pe_bl))), ?_⟩
    refine ⟨_, rfl, R, dxR, _, rfl, hR, tk_no (by decide +kernel), R, C, bs, t0, e, s, rfl, sz, bz, hT, ?_⟩
    unfold passM at k
    by_cases c4 : 4 ≤ kindOf s
    · rw [if_pos c4] at k ⊢
      exact k
    · rw [if_neg c4] at k ⊢
      intro H1 A tok r es kp hAh
      subst es
      obtain ⟨xR, xC, dxA, c, q, hR1, hC1, lq, hA, rel, alt⟩ := _root_.id hAh
      refine ⟨A, d.cToken, dxA, _, _, rfl, hA, T.kToken.cl, T.kToken.no.1, look_at _ _ _ 0 rfl (by decide +kernel), _, rfl, rfl, _, rfl, ?_⟩
      rw [dec_vS]
      have ew := rel_word (r := r) rel (wOk.ne hw) (wOk.all hw)
      by_cases c1 : c = ascii wd
      · rw [decide_eq_true c1] at ew ⊢
        refine iteF ?_
        rw [if_pos ew] at k
        refine ⟨_, rfl, R, xR, _, rfl, hR1, tk_no (by decide +kernel), R, C, bs, t0, e, tok :: r, rfl, sz, bz, hAh.at_, ?_⟩
        rw [if_neg c4]
        intro H2 A2 dxA2 c2 tok2 r2 es2 kp2 hA2 rel2 nx2 en2 kd2 _
        injection es2 with es2 es3
        subst es2 es3
        have k0 : tok.kind = 0 := by
          unfold isWord at ew
          rw [Bool.and_eq_true] at ew
          exact beq_iff_eq.mp ew.1
        exact k _ H2 (kp.trans kp2) (nx2 (by omega)) rfl
      · rw [decide_eq_false c1] at ew ⊢
        refine iteT ?_
        rw [if_neg (by rw [ew]; exact Bool.false_ne_true)] at k
        exact k _ H1 kp hAh.at_ rfl
/-! ### take_name -/
def preName (K : PySem.W.Frag) (H : Hp) (us : List V) (par : Pt Nat) : Prop := ∃ (p : Addr) (ns : List (List UInt8)) (a : List UInt8), us = [.ref p, vS a] ∧ SqL K H p (ns.map vS) ∧ nmOk ns = true ∧ a.length ≤ 10 ∧ par = mName ns a
theorem rel_not {c : List UInt8} {tok : Token} (rel : TokRel c tok) (h : tok.kind ≠ 0) : ∃ x ∈ c, isLetter x = false ∧ x ≠ 32 := by
  rcases rel with ⟨k, _⟩ | ⟨k, n, _, dg, _⟩ | ⟨k, e⟩ | ⟨k, e⟩
  · exact absurd k h
  · cases c with
    | nil => exact absurd rfl n
    | cons x y =>
      have a1 := dg x List.mem_cons_self
      refine ⟨x, List.mem_cons_self, ?_, fun z => ?_⟩
      · have := (class_tb x).1
        rw [a1, Bool.and_true] at this
        exact this
      · rw [z] at a1
        exact absurd a1 (by decide)
  · exact ⟨44, by rw [e]; exact List.mem_cons_self, by decide, by decide⟩
  · exact ⟨41, by rw [e]; exact List.mem_cons_self, by decide, by decide⟩
theorem rel_zero {c : List UInt8} {tok : Token} (rel : TokRel c tok) (h : tok.kind = 0) : c = tok.bytes := by
  rcases rel with ⟨_, e, _⟩ | ⟨k, _⟩ | ⟨k, _⟩ | ⟨k, _⟩
  · exact e
  · omega
  · omega
  · omega
theorem txt_sin : (" sinister" : Str) = strOf sinW := by decide +kernel
theorem txt_e : Str.empty = strOf [] := by decide +kernel
theorem sin_ok : wOk "sinister" = true := by decide +kernel
theorem str_sin : ("sinister" : Str) = strOf (ascii "sinister") := by decide +kernel
theorem strOf_fit' {b : List UInt8} (h : b.length ≤ 16000000) : (strOf b).length ≤ sizeLine := by
  rw [strOf_len]
  exact Nat.le_trans h (by decide)
theorem sc_take_name : FnScope ["tokens", "names", "ahead", "token", "name", "longer"] ["tokens", "names", "ahead"] (defScope s_take_name) := ⟨rfl, rfl, rfl, by decide +kernel, rfl, by decide +kernel, by decide +kernel⟩
theorem ok_take_name (T : Txt K mg d) : ∃ fd, FnOk P w K mg base (L2.CX P w) 7 d.f_take_name fd ["tokens", "names", "ahead"] (spT d (preName K) RNat) ∧ Binds K fd ["tokens", "names", "ahead"] [] ∧ (∃ ds, Vals [V.str ""] ds ∧ Binds K fd ["tokens", "names", "ahead"] ds) ∧ PySem.W.keepIn K (.ref d.f_take_name) = true := by
  obtain ⟨fd, F, B, BD⟩ := T.k_take_name.ex
  obtain ⟨⟨fd_Tokens_take, G_Tokens_take, B_Tokens_take⟩, kp_Tokens_take⟩ := ok_Tokens_take (P := P) (w := w) (base := base) T
  obtain ⟨⟨fd_pass_word_blazons, G_pass_word_blazons, B_pass_word_blazons⟩, kp_pass_word_blazons⟩ := ok_pass_word_blazons (P := P) (w := w) (base := base) T
  obtain ⟨c_OTHER_TOKEN, m_OTHER_TOKEN⟩ := T.nOTHER_TOKEN
  refine ⟨fd, F.ok sc_take_name (fun vs H Q E h => ?_) (fun cdv A outer s H vs Q E hr h => ?_), B, BD, F.kp⟩
  · obtain ⟨R, C, us, bs, t0, e, s, par, rfl, _, _, _, ⟨p, ns, a, rfl, _⟩, _⟩ := h
    rfl
  · obtain ⟨R, C, us, bs, t0, e, s, par, rfl, sz, bz, hT, ⟨p, ns, a, rfl, hS, hN, hal, rfl⟩, k⟩ := h
    obtain ⟨dxR, av, hR⟩ := hT.hR
    have hr_Tokens_take : Room 5 _ := hr.mono (by decide)
    have hr_pass_word_blazons : Room 6 _ := hr.mono (by decide)
    refine ⟨_, pss_cons (ps_set (i := 3) sc_take_name.nd rfl (Or.inl rfl) (pe_meth0 (pv 0) T.kTokens.cl T.kTokens_take.me G_Tokens_take hr_Tokens_take B_Tokens_take .nil passX))
      (pss_cons (ps_set (i := 4) sc_take_name.nd rfl (Or.inl rfl) (pe_op op_add_str (pv 2) (pe_fld (pv 3) rfl)))
      (pss_cons (ps_if (pt_cmpR op_notIn_seq (pv 4) (pv 1) (by rfl))
        (pss_one (ps_raiseLow rfl T.xMisread hr takesX (pa_cons (pgi m_OTHER_TOKEN) (pa_cons (pe_fld (pv 3) rfl) pa_nil))))
        pss_nil)
      (pss_cons (ps_set (i := 5) sc_take_name.nd rfl (Or.inl rfl) (pe_joined (PJ.cons (pe_fmt (pv 4)) (PJ.cons pe_str PJ.nil))))
      (C8.pss_cut (ps_if (PW.pt (pw_and (pt_cmpR op_in_seq (pv 5) (pv 1) (by rfl)) (pw_and1 (pt_val (pe_call G_pass_word_blazons hr_pass_word_blazons rfl T.k_pass_word_blazons.gl kp_pass_word_blazons B_pass_word_blazons .nil passX (pa_cons (pv 0) (pa_cons pe_str pa_nil)))))))
        (pss_one (ps_set (i := 4) sc_take_name.nd rfl (Or.inl rfl) (pv 5)))
        pss_nil)
      (pss_one (ps_ret (pe_bm PySem.F.plainAttrs_list PySem.F.slot_list_index PySem.F.type_list_index mt_index (pv 1) (pa_cons (pv 4) pa_nil)))))))), ?_⟩
    refine ⟨_, rfl, R, dxR, _, rfl, hR, tk_no (by decide +kernel), R, C, bs, t0, e, s, rfl, sz, bz, hT, ?_⟩
    by_cases c4 : 4 ≤ kindOf s
    · rw [if_pos c4]
      unfold mName at k
      rw [if_neg (kind_ne c4)] at k
      exact k
    · rw [if_neg c4]
      intro H1 A dxA c tok r es kp hA rel nx en kd _
      have hS1 := hT.seq hS kp
      have hcl := rel.len
      refine ⟨_, rfl, _, rfl, A, d.cToken, dxA, _, _, rfl, hA, T.kToken.cl, T.kToken.no.1, look_at _ _ _ 0 rfl (by decide +kernel), _, _, rfl, rfl, (by
        rw [strOf_len, strOf_len]
        exact Nat.le_trans (show a.length + c.length ≤ 5000 by omega) (by decide)), ?_⟩
      rw [strOf_app]
      refine ⟨_, rfl, _, rfl, p, _, rfl, .inl hS1, rfl, all_flat ns, _, rfl, ?_⟩
      rw [if_pos rfl, inV_vS]
      have hw := wanted_tok (r := r) kd
      by_cases m : a ++ c ∈ ns
      · rw [decide_eq_true m]
        refine iteF ?_
        have k0 : tok.kind = 0 := by
          rcases Nat.eq_zero_or_pos tok.kind with z | z
          · exact z
          · exfalso
            obtain ⟨x, hx, g1, g2⟩ := rel_not rel (by omega)
            exact nm_no hN hx g1 g2 m
        have ec := rel_zero rel k0
        have hT1 := nx (by omega)
        have hj : ∃ j, ns.findIdx? (fun x => x == a ++ c) = some j := by
          cases q : ns.findIdx? (fun x => x == a ++ c) with
          | some j => exact ⟨j, rfl⟩
          | none =>
            have := List.findIdx?_eq_none_iff.mp q _ m
            rw [beq_self_eq_true] at this
            cases this
        obtain ⟨j, hj⟩ := hj
        have e1 : mName ns a s = (match ns.findIdx? (fun x => x == (a ++ c) ++ sinW) with
            | none => .ok (j, r)
            | some i => if 4 ≤ kindOf r then .error (wanted r) else if isWord r "sinister" = true then .ok (i, r.drop 1) else .ok (j, r)) := by
          unfold mName
          subst es
          rw [if_pos (show kindOf (tok :: r) = 0 from k0), show wordOf (tok :: r) = c from ec.symm, hj]
          rfl
        refine ⟨_, rfl, .inl ⟨_, rfl, strOf_fit' (by rw [List.length_append]; omega), _, rfl, (by rw [txt_e, strOf_app]; exact strOf_fit' (by rw [List.nil_append, List.length_append]; omega)), _, rfl, (by
          rw [txt_e, txt_sin, strOf_app, strOf_app]
          exact strOf_fit' (by
            rw [List.nil_append, List.length_append, List.length_append]
            have : sinW.length = 9 := by decide +kernel
            omega)), ?_⟩⟩
        rw [txt_e, txt_sin, strOf_app, strOf_app, List.nil_append]
        refine ⟨fun σ' H' => ∃ nm i s', σ' = [some (.ref R), some (.ref p), some (vS a), some (.ref A), some (vS nm), some (vS ((a ++ c) ++ sinW))] ∧ ns.findIdx? (fun x => x == nm) = some i ∧ mName ns a s = .ok (i, s') ∧ Keep2 R C H H' ∧ TkAt d bs t0 e R C H' s', ?_, ?_⟩
        · refine ⟨_, rfl, _, rfl, p, _, rfl, .inl hS1, rfl, all_flat ns, _, rfl, ?_⟩
          rw [if_neg Bool.false_ne_true, inV_vS]
          cases hq : ns.findIdx? (fun x => x == (a ++ c) ++ sinW) with
          | none =>
            rw [hq] at e1
            have nm : (a ++ c) ++ sinW ∉ ns := fun z => by
              have := List.findIdx?_eq_none_iff.mp hq _ z
              rw [beq_self_eq_true] at this
              cases this
            rw [decide_eq_false nm]
            refine iteF ?_
            exact ⟨a ++ c, j, r, rfl, hj, e1, kp, hT1⟩
          | some i =>
            rw [hq] at e1
            dsimp only at e1
            have im := (idx_some hq).1
            rw [decide_eq_true (List.mem_of_getElem? im)]
            refine iteT ?_
            refine ⟨_, rfl, R, C, _, bs, t0, e, r, _, rfl, sz, bz, hT1, ⟨"sinister", by rw [str_sin]; rfl, sin_ok, rfl⟩, ?_⟩
            unfold passM
            by_cases b4 : 4 ≤ kindOf r
            · rw [if_pos b4] at e1 ⊢
              rw [e1] at k
              exact k
            · rw [if_neg b4] at e1 ⊢
              by_cases b5 : isWord r "sinister" = true
              · rw [if_pos b5] at e1 ⊢
                intro v2 H2 kp2 hT2 rv
                cases rv
                refine ⟨_, rfl, ?_⟩
                refine iteT ?_
                exact ⟨_, rfl, (a ++ c) ++ sinW, i, r.drop 1, rfl, hq, e1, kp.trans kp2, hT2⟩
              · rw [if_neg b5] at e1 ⊢
                intro v2 H2 kp2 hT2 rv
                cases rv
                refine ⟨_, rfl, ?_⟩
                refine iteF ?_
                exact ⟨a ++ c, j, r, rfl, hj, e1, kp.trans kp2, hT2⟩
        · rintro σ' H2 ⟨nm, i, s', rfl, hi, e2, kp2, hT2⟩
          rw [e2] at k
          have hS2 := hT.seq hS kp2
          obtain ⟨i1, i2, i3⟩ := idx_some hi
          refine ⟨_, rfl, .inl ⟨rfl, _, hS2⟩, _, rfl, p, _, _, i, vS nm, rfl, rfl, hS2, rfl, all_flat ns, (by rw [List.getElem?_map, i1]; rfl), (by rw [vtup]; exact decide_eq_true rfl), ?_, ?_⟩
          · intro mm z hm hz
            obtain ⟨y, hy, rfl⟩ := get_map hz
            rw [vtup]
            exact decide_eq_false (i3 mm y hm hy)
          · exact k _ H2 kp2 hT2 rfl
      · rw [decide_eq_false m]
        refine iteT ?_
        have e1 : mName ns a s = .error (3, tok.at_) := by
          unfold mName
          subst es
          by_cases k0 : tok.kind = 0
          · have ec := rel_zero rel k0
            rw [if_pos (show kindOf (tok :: r) = 0 from k0), show wordOf (tok :: r) = c from ec.symm]
            have q : ns.findIdx? (fun x => x == a ++ c) = none := List.findIdx?_eq_none_iff.mpr fun x hx => by
              cases z : (x == a ++ c) with
              | false => rfl
              | true => exact absurd (by rw [← beq_iff_eq.mp z]; exact hx) m
            rw [q, hw]
          · rw [if_neg (show ¬ kindOf (tok :: r) = 0 from k0), hw]
        rw [e1] at k
        exact ⟨_, rfl, A, d.cToken, dxA, _, _, rfl, hA, T.kToken.cl, T.kToken.no.2.1, look_at _ _ _ 1 rfl (by decide +kernel), _, _, rfl, fun z hz => k z _ upd_same⟩
end
end HC


namespace HC
open PySem PySem.Spec PyProof.Rows L2
open ShBlazon (isLetter isDigit isBlank oneToken tokensFrom tokensOf valueOf Token kindOf place wordOf numOf wanted look eat isWord eatWord ascii sinister lineAt twoAt piecesAt partedAt variedAt fieldAt fillAt mannerAt sizeAt groupAt ordAt layerAt layersAt vowel TINCTWORDS LINEWORDS WAYWORDS VARYWORDS ORDWORDS CHARGEWORDS SEVERAL MANNERWORDS)
section
variable {P : Program} {w : World} {K : PySem.W.Frag} {mg : Str → Option Value} {base : Heap} {d : Ad}
theorem GiveT.up {α : Type} {bs : List UInt8} {t0 e : Nat} {R C : Addr} {Rep : Hp → Hp → V → α → Prop} {H H1 : Hp} {Q : VK} {E : XK} {r : Except ShBlazon.Fault (α × Tks)} (k : Keep2 R C H H1) (mv : ∀ s H' v y, TkAt d bs t0 e R C H' s → Rep H1 H' v y → Rep H H' v y) (g : GiveT d bs t0 e R C Rep H Q E r) : GiveT d bs t0 e R C Rep H1 Q E r := by
  cases r with
  | error f => exact g
  | ok y => exact fun v H' k1 h1 t1 => g v H' (k.trans k1) h1 (mv _ _ _ _ h1 t1)
theorem e_str : V.str ("" : Str) = vS [] := by
  have : ("" : Str) = strOf [] := by decide +kernel
  rw [this]
/-- take_name of a table of the text -/
theorem name_give {bs : List UInt8} {t0 e : Nat} {R C l : Addr} {H : Hp} {Q : VK} {E : XK} {s : Tks} {W : List Str} {N S : List (List UInt8)} {a : List UInt8} {av : V} {bend : Nat} (sz : bs.length ≤ 4096) (bz : Bz bs t0 e) (hT : TkAt d bs t0 e R C H s) (nl : H l = none) (hW : W = N.map strOf) (hN : nmOk N = true) (tb : tabOk N S a bend = true) (hav : av = vS a) (ha : a.length ≤ 10)
    (k : GiveT d bs t0 e R C RNat H Q E (mSin S bend s)) : spT d (preName K) RNat [.ref R, .ref l, av] (upd H l (.lst (W.map V.str))) Q E := by
  subst hW hav
  refine ⟨R, C, _, bs, t0, e, s, _, rfl, sz, bz, hT.same (new_same nl), ⟨l, N, a, rfl, ?_, hN, ha, rfl⟩, ?_⟩
  · rw [map_vS]
    exact SqL.of upd_same
  · rw [name_tab tb (hT.word bz)]
    exact GiveT.up (Keep2.of (new_same nl)) (fun _ _ _ _ _ z => z) k
theorem mem_tok {N S : List (List UInt8)} (pz : ((N.zip S).all fun x => pairOk [] x.1 x.2) = true) (hl : N.length = S.length) (hn : nmOk N = true) {c : List UInt8} {tok : Token} {r : Tks} (rel : TokRel c tok) (hs : WordOk (tok :: r)) : decide (c ∈ N) = (look S (tok :: r)).isSome := by
  by_cases k0 : tok.kind = 0
  · rw [← mem_look pz hl hs k0, rel_zero rel k0]
    rfl
  · obtain ⟨x, hx, g1, g2⟩ := rel_not rel k0
    have : c ∉ N := by
      have := nm_no hn (a := []) hx g1 g2
      rw [List.nil_append] at this
      exact this
    rw [decide_eq_false this, look_not (show kindOf (tok :: r) ≠ 0 from k0)]
    rfl
theorem tup_vS {a : Addr} {W : List Str} {N : List (List UInt8)} (q : TupK K a (W.map V.str)) (hW : W = N.map strOf) (H : Hp) : SqT K H a (N.map vS) := by
  rw [← map_vS, ← hW]
  exact q H
def pre0T {α : Type} (g : Pt α) (_ : Hp) (us : List V) (par : Pt α) : Prop := us = [] ∧ par = g
theorem sc_take_tincture : FnScope ["tokens"] ["tokens"] (defScope s_take_tincture) := ⟨rfl, rfl, rfl, by decide +kernel, rfl, by decide +kernel, by decide +kernel⟩
theorem ok_take_tincture (T : Txt K mg d) : OkD P w K mg base (L2.CX P w) 8 d.f_take_tincture ["tokens"] (spT d (pre0T (eat TINCTWORDS)) RNat) := by
  obtain ⟨fd, F, B⟩ := T.k_take_tincture.ex
  obtain ⟨fd_take_name, G_take_name, B_take_name, ⟨ds_take_name, V1_take_name, B1_take_name⟩, kp_take_name⟩ := ok_take_name (P := P) (w := w) (base := base) T
  obtain ⟨a_TINCTURES, m_TINCTURES, q_TINCTURES⟩ := T.tTINCTURES
  refine ⟨⟨fd, F.okX sc_take_tincture (fun vs H Q E h => ?_) (fun cdv A outer s H vs Q E hr h => ?_), B⟩, F.kp⟩
  · obtain ⟨R, C, us, bs, t0, e, s, par, rfl, _, _, _, ⟨rfl, _⟩, _⟩ := h
    rfl
  · obtain ⟨R, C, us, bs, t0, e, s, par, rfl, sz, bz, hT, ⟨rfl, rfl⟩, k⟩ := h
    have hr_take_name : Room 7 _ := hr.mono (by decide)
    refine ⟨_, pss_one (ps_ret (pe_call G_take_name hr_take_name rfl T.k_take_name.gl kp_take_name B1_take_name V1_take_name passX (pa_cons (pv 0) (pa_cons (pe_callTy call_list_of (by rfl) T.b_list (by decide +kernel) (pa_cons (pe_glob (v := .ref a_TINCTURES) rfl m_TINCTURES rfl) pa_nil)) pa_nil)))), ?_⟩
    refine ⟨_, rfl, _, _, rfl, .inr (q_TINCTURES _), fun l nl => ?_⟩
    exact name_give sz bz hT nl wn_tin nm_all.1 tb_tin e_str (by decide) (by rw [sin_plain (by decide)]; exact k)
theorem str_and : ("and" : Str) = strOf (ascii "and") := by decide +kernel
theorem and_ok : wOk "and" = true := by decide +kernel
def preSec (_ : Hp) (us : List V) (par : Pt Nat) : Prop := ∃ f : Nat, us = [vN f] ∧ par = secondAt f
theorem sc_take_second_tincture : FnScope ["tokens", "first", "place", "second"] ["tokens", "first"] (defScope s_take_second_tincture) := ⟨rfl, rfl, rfl, by decide +kernel, rfl, by decide +kernel, by decide +kernel⟩
theorem ok_take_second_tincture (T : Txt K mg d) : OkD P w K mg base (L2.CX P w) 9 d.f_take_second_tincture ["tokens", "first"] (spT d preSec RNat) := by
  obtain ⟨fd, F, B⟩ := T.k_take_second_tincture.ex
  obtain ⟨⟨fd_take_word, G_take_word, B_take_word⟩, kp_take_word⟩ := ok_take_word (P := P) (w := w) (base := base) T
  obtain ⟨⟨fd_take_tincture, G_take_tincture, B_take_tincture⟩, kp_take_tincture⟩ := ok_take_tincture (P := P) (w := w) (base := base) T
  obtain ⟨⟨fd_Tokens_peek, G_Tokens_peek, B_Tokens_peek⟩, kp_Tokens_peek⟩ := ok_Tokens_peek (P := P) (w := w) (base := base) T
  obtain ⟨c_SAME_TINCTURE, m_SAME_TINCTURE⟩ := T.nSAME_TINCTURE
  refine ⟨⟨fd, F.okX sc_take_second_tincture (fun vs H Q E h => ?_) (fun cdv A outer s H vs Q E hr h => ?_), B⟩, F.kp⟩
  · obtain ⟨R, C, us, bs, t0, e, s, par, rfl, _, _, _, ⟨f, rfl, _⟩, _⟩ := h
    rfl
  · obtain ⟨R, C, us, bs, t0, e, s, par, rfl, sz, bz, hT, ⟨f, rfl, rfl⟩, k⟩ := h
    have hr_take_word : Room 6 _ := hr.mono (by decide)
    have hr_take_tincture : Room 8 _ := hr.mono (by decide)
    have hr_Tokens_peek : Room 4 _ := hr.mono (by decide)
    refine ⟨_, pss_cons (ps_expr (pe_call G_take_word hr_take_word rfl T.k_take_word.gl kp_take_word B_take_word .nil passX (pa_cons (pv 0) (pa_cons pe_str pa_nil))))
      (pss_cons (ps_set (i := 2) sc_take_second_tincture.nd rfl (Or.inl rfl) (pe_fld (pe_meth0 (pv 0) T.kTokens.cl T.kTokens_peek.me G_Tokens_peek hr_Tokens_peek B_Tokens_peek .nil passX) rfl))
      (pss_cons (ps_set (i := 3) sc_take_second_tincture.nd rfl (Or.inl rfl) (pe_call G_take_tincture hr_take_tincture rfl T.k_take_tincture.gl kp_take_tincture B_take_tincture .nil passX (pa_cons (pv 0) pa_nil)))
      (pss_cons (ps_if (pt_cmpR op_eq (pv 3) (pv 1) (nomark _))
        (pss_one (ps_raiseLow rfl T.xMisread hr takesX (pa_cons (pgi m_SAME_TINCTURE) (pa_cons (pv 2) pa_nil))))
        pss_nil)
      (pss_one (ps_ret (pv 3)))))), ?_⟩
    unfold secondAt at k
    refine ⟨_, rfl, R, C, _, bs, t0, e, s, _, rfl, sz, bz, hT, ⟨"and", by rw [str_and]; rfl, and_ok, rfl⟩, ?_⟩
    dsimp only
    cases e1 : eatWord "and" s with
    | error f1 => rw [e1] at k; exact k
    | ok t =>
    rw [e1] at k
    intro v1 H1 kp1 hT1 _
    replace hT1 : TkAt d bs t0 e R C H1 t := hT1
    dsimp only at k
    obtain ⟨dxR, av, hR⟩ := hT1.hR
    refine ⟨_, rfl, R, dxR, _, rfl, hR, tk_no (by decide +kernel), R, C, bs, t0, e, t, rfl, sz, bz, hT1, ?_⟩
    by_cases c4 : 4 ≤ kindOf t
    · rw [if_pos c4]
      rw [eat_not (kind_ne c4)] at k
      exact k
    · rw [if_neg c4]
      intro H2 A tok r es kp2 hAh
      subst es
      obtain ⟨xR, xC, dxA, c, q, hR1, hC1, lq, hA, rel, alt⟩ := _root_.id hAh
      refine ⟨A, d.cToken, dxA, _, _, rfl, hA, T.kToken.cl, T.kToken.no.2.1, look_at _ _ _ 1 rfl (by decide +kernel), ?_⟩
      refine ⟨_, rfl, R, C, _, bs, t0, e, tok :: r, _, rfl, sz, bz, hAh.at_, ⟨rfl, rfl⟩, ?_⟩
      cases e2 : eat TINCTWORDS (tok :: r) with
      | error f2 => rw [e2] at k; exact k
      | ok b =>
      rw [e2] at k
      intro v3 H3 kp3 hT3 rv
      cases rv
      dsimp only at k
      refine ⟨_, rfl, _, rfl, rfl, _, rfl, ?_⟩
      by_cases c1 : f = b.1
      · rw [decide_eq_true (show vN b.1 = vN f by rw [c1])]
        rw [if_pos c1] at k
        refine iteT ?_
        exact ⟨_, rfl, _, _, rfl, fun z hz => k z _ upd_same⟩
      · rw [decide_eq_false (show ¬ vN b.1 = vN f from fun z => c1 (by injection z with z; omega))]
        rw [if_neg c1] at k
        refine iteF ?_
        exact ⟨_, rfl, k _ H3 ((kp1.trans kp2).trans kp3) hT3 rfl⟩
/-! ### take_pieces -/
theorem dig_uni : ∀ c : UInt8, isDigit c = true → Unicode.isDigit c.toNat = true := u8_all (by decide +kernel)
theorem let_uni : ∀ c : UInt8, isLetter c = true → Unicode.isDigit c.toNat = false := u8_all (by decide +kernel)
theorem isdig_rel {c : List UInt8} {tok : Token} (rel : TokRel c tok) : Txt.isdigit (strOf c) = decide (tok.kind = 1) := by
  have ea : ∀ l : List UInt8, (strOf l).cps.all Unicode.isDigit = (l.map UInt8.toNat).all Unicode.isDigit := fun l => by
    rw [← Array.all_toList]
    rfl
  unfold Txt.isdigit
  rw [ea, strOf_len, List.all_map]
  rcases rel with ⟨k, _, n, l, _⟩ | ⟨k, n, _, dg, _⟩ | ⟨k, e⟩ | ⟨k, e⟩
  · rw [decide_eq_false (show ¬ tok.kind = 1 by omega)]
    cases c with
    | nil => exact absurd rfl n
    | cons x y =>
      rw [List.all_cons]
      show (decide _ && (Unicode.isDigit x.toNat && _)) = false
      rw [let_uni x (l x List.mem_cons_self), Bool.false_and, Bool.and_false]
  · rw [decide_eq_true k]
    have h1 : c.all (Unicode.isDigit ∘ UInt8.toNat) = true := List.all_eq_true.mpr fun x hx => dig_uni x (dg x hx)
    rw [h1, Bool.and_true, decide_eq_true_eq]
    cases c with
    | nil => exact absurd rfl n
    | cons x y => exact Nat.succ_pos _
  · rw [decide_eq_false (show ¬ tok.kind = 1 by omega), e]
    decide +kernel
  · rw [decide_eq_false (show ¬ tok.kind = 1 by omega), e]
    decide +kernel
theorem dig_of {c : UInt8} (h : isDigit c = true) : ∃ n : Fin 10, c = UInt8.ofNat (48 + n.val) := by
  unfold isDigit at h
  rw [Bool.and_eq_true] at h
  have h1 : 48 ≤ c.toNat := UInt8.le_iff_toNat_le.mp (of_decide_eq_true h.1)
  have h2 : c.toNat ≤ 57 := UInt8.le_iff_toNat_le.mp (of_decide_eq_true h.2)
  refine ⟨⟨c.toNat - 48, by omega⟩, ?_⟩
  show c = UInt8.ofNat (48 + (c.toNat - 48))
  rw [show 48 + (c.toNat - 48) = c.toNat by omega, UInt8.ofNat_toNat]
theorem int_1 : ∀ a : Fin 10, PySem.intText? (strOf [UInt8.ofNat (48 + a.val)]) = some ((valueOf [UInt8.ofNat (48 + a.val)] : Nat) : Int) := by decide +kernel
theorem int_2 : ∀ a b : Fin 10, PySem.intText? (strOf [UInt8.ofNat (48 + a.val), UInt8.ofNat (48 + b.val)]) = some ((valueOf [UInt8.ofNat (48 + a.val), UInt8.ofNat (48 + b.val)] : Nat) : Int) := by decide +kernel
theorem int_3 : ∀ a b c : Fin 10, PySem.intText? (strOf [UInt8.ofNat (48 + a.val), UInt8.ofNat (48 + b.val), UInt8.ofNat (48 + c.val)]) = some ((valueOf [UInt8.ofNat (48 + a.val), UInt8.ofNat (48 + b.val), UInt8.ofNat (48 + c.val)] : Nat) : Int) := by decide +kernel
theorem int_of {c : List UInt8} (n : c ≠ []) (l : c.length ≤ 3) (dg : ∀ x ∈ c, isDigit x = true) : PySem.intText? (strOf c) = some ((valueOf c : Nat) : Int) := by
  match c, n, l, dg with
  | [a], _, _, dg =>
    obtain ⟨a', rfl⟩ := dig_of (dg a (by simp))
    exact int_1 a'
  | [a, b], _, _, dg =>
    obtain ⟨a', rfl⟩ := dig_of (dg a (by simp))
    obtain ⟨b', rfl⟩ := dig_of (dg b (by simp))
    exact int_2 a' b'
  | [a, b, c], _, _, dg =>
    obtain ⟨a', rfl⟩ := dig_of (dg a (by simp))
    obtain ⟨b', rfl⟩ := dig_of (dg b (by simp))
    obtain ⟨c', rfl⟩ := dig_of (dg c (by simp))
    exact int_3 a' b' c'
  | _ :: _ :: _ :: _ :: _, _, l, _ => simp at l
theorem sc_take_pieces : FnScope ["tokens", "token", "pieces"] ["tokens"] (defScope s_take_pieces) := ⟨rfl, rfl, rfl, by decide +kernel, rfl, by decide +kernel, by decide +kernel⟩
theorem ok_take_pieces (T : Txt K mg d) : OkD P w K mg base (L2.CX P w) 6 d.f_take_pieces ["tokens"] (spT d (pre0T numAtT) RNat) := by
  obtain ⟨fd, F, B⟩ := T.k_take_pieces.ex
  obtain ⟨⟨fd_Tokens_take, G_Tokens_take, B_Tokens_take⟩, kp_Tokens_take⟩ := ok_Tokens_take (P := P) (w := w) (base := base) T
  obtain ⟨c_OTHER_TOKEN, m_OTHER_TOKEN⟩ := T.nOTHER_TOKEN
  obtain ⟨c_FEWEST_PIECES, m_FEWEST_PIECES⟩ := T.nFEWEST_PIECES
  obtain ⟨c_MOST_PIECES, m_MOST_PIECES⟩ := T.nMOST_PIECES
  obtain ⟨c_WRONG_PIECES, m_WRONG_PIECES⟩ := T.nWRONG_PIECES
  refine ⟨⟨fd, F.okX sc_take_pieces (fun vs H Q E h => ?_) (fun cdv A outer s H vs Q E hr h => ?_), B⟩, F.kp⟩
  · obtain ⟨R, C, us, bs, t0, e, s, par, rfl, _, _, _, ⟨rfl, _⟩, _⟩ := h
    rfl
  · obtain ⟨R, C, us, bs, t0, e, s, par, rfl, sz, bz, hT, ⟨rfl, rfl⟩, k⟩ := h
    obtain ⟨dxR, av, hR⟩ := hT.hR
    have hr_Tokens_take : Room 5 _ := hr.mono (by decide)
    refine ⟨_, pss_cons (ps_set (i := 1) sc_take_pieces.nd rfl (Or.inl rfl) (pe_meth0 (pv 0) T.kTokens.cl T.kTokens_take.me G_Tokens_take hr_Tokens_take B_Tokens_take .nil passX))
      (pss_cons (ps_if (pt_not (pt_val (pe_m0 PySem.F.slot_str_isdigit PySem.F.type_str_isdigit mt_isdigit (pe_fld (pv 1) rfl))))
        (pss_one (ps_raiseLow rfl T.xMisread hr takesX (pa_cons (pgi m_OTHER_TOKEN) (pa_cons (pe_fld (pv 1) rfl) pa_nil))))
        pss_nil)
      (pss_cons (ps_set (i := 2) sc_take_pieces.nd rfl (Or.inl rfl) (pe_callTy call_int_str (by rfl) T.b_int (by decide +kernel) (pa_cons (pe_fld (pv 1) rfl) pa_nil)))
      (pss_cons (ps_if (PW.pt (pw_or (pt_cmpR op_lt (pv 2) (pgi m_FEWEST_PIECES) (nomark _)) (pw_or1 (pt_cmpR op_gt (pv 2) (pgi m_MOST_PIECES) (nomark _)))))
        (pss_one (ps_raiseLow rfl T.xMisread hr takesX (pa_cons (pgi m_WRONG_PIECES) (pa_cons (pe_fld (pv 1) rfl) pa_nil))))
        pss_nil)
      (pss_one (ps_ret (pv 2)))))), ?_⟩
    refine ⟨_, rfl, R, dxR, _, rfl, hR, tk_no (by decide +kernel), R, C, bs, t0, e, s, rfl, sz, bz, hT, ?_⟩
    unfold numAtT at k
    by_cases c4 : 4 ≤ kindOf s
    · rw [if_pos c4]
      rw [if_neg (show ¬ kindOf s = 1 by omega)] at k
      exact k
    · rw [if_neg c4]
      intro H1 A dxA c tok r es kp hA rel nx en kd _
      subst es
      refine ⟨_, rfl, A, d.cToken, dxA, _, _, rfl, hA, T.kToken.cl, T.kToken.no.1, look_at _ _ _ 0 rfl (by decide +kernel), ⟨_, rfl⟩, _, rfl, rfl, trivial, _, rfl, ?_⟩
      rw [isdig_rel rel]
      by_cases c1 : tok.kind = 1
      · rw [decide_eq_true c1]
        rw [if_pos (show kindOf (tok :: r) = 1 from c1)] at k
        refine iteF ?_
        have hv : c ≠ [] ∧ c.length ≤ 3 ∧ (∀ x ∈ c, isDigit x = true) ∧ valueOf c = tok.num := by
          rcases rel with ⟨z, _⟩ | ⟨_, z⟩ | ⟨z, _⟩ | ⟨z, _⟩
          · omega
          · exact z
          · omega
          · omega
        obtain ⟨v1, v2, v3, v4⟩ := hv
        refine ⟨_, rfl, A, d.cToken, dxA, _, _, rfl, hA, T.kToken.cl, T.kToken.no.1, look_at _ _ _ 0 rfl (by decide +kernel), _, _, rfl, int_of v1 v2 v3, (by rw [strOf_len]; omega), ?_⟩
        rw [v4]
        refine ⟨_, rfl, _, _, rfl, rfl, _, rfl, ?_⟩
        refine ite2 (fun q => ?_) (fun q => ?_)
        · have q' : tok.num < 2 := by have := of_decide_eq_true q; omega
          rw [if_pos (show numOf (tok :: r) < 2 ∨ 24 < numOf (tok :: r) from .inl q')] at k
          refine iteT ?_
          exact ⟨_, rfl, A, d.cToken, dxA, _, _, rfl, hA, T.kToken.cl, T.kToken.no.2.1, look_at _ _ _ 1 rfl (by decide +kernel), _, _, rfl, fun z hz => k z _ upd_same⟩
        · have q' : ¬ tok.num < 2 := fun z => q (decide_eq_true (by omega))
          refine ⟨_, rfl, _, _, rfl, rfl, _, rfl, ?_⟩
          refine ite2 (fun q2 => ?_) (fun q2 => ?_)
          · have q3 : 24 < tok.num := by have := of_decide_eq_true q2; omega
            rw [if_pos (show numOf (tok :: r) < 2 ∨ 24 < numOf (tok :: r) from .inr q3)] at k
            exact ⟨_, rfl, A, d.cToken, dxA, _, _, rfl, hA, T.kToken.cl, T.kToken.no.2.1, look_at _ _ _ 1 rfl (by decide +kernel), _, _, rfl, fun z hz => k z _ upd_same⟩
          · have q3 : ¬ 24 < tok.num := fun z => q2 (decide_eq_true (by omega))
            rw [if_neg (show ¬ (numOf (tok :: r) < 2 ∨ 24 < numOf (tok :: r)) from fun z => z.elim q' q3)] at k
            exact ⟨_, rfl, k _ H1 kp (nx (by omega)) rfl⟩
      · rw [decide_eq_false c1]
        rw [if_neg (show ¬ kindOf (tok :: r) = 1 from c1), wanted_tok kd] at k
        refine iteT ?_
        exact ⟨_, rfl, A, d.cToken, dxA, _, _, rfl, hA, T.kToken.cl, T.kToken.no.2.1, look_at _ _ _ 1 rfl (by decide +kernel), _, _, rfl, fun z hz => k z _ upd_same⟩
theorem sc_take_line : FnScope ["tokens"] ["tokens"] (defScope s_take_line) := ⟨rfl, rfl, rfl, by decide +kernel, rfl, by decide +kernel, by decide +kernel⟩
theorem ok_take_line (T : Txt K mg d) : OkD P w K mg base (L2.CX P w) 8 d.f_take_line ["tokens"] (spT d (pre0T lineM) RNat) := by
  obtain ⟨fd, F, B⟩ := T.k_take_line.ex
  obtain ⟨fd_take_name, G_take_name, B_take_name, ⟨ds_take_name, V1_take_name, B1_take_name⟩, kp_take_name⟩ := ok_take_name (P := P) (w := w) (base := base) T
  obtain ⟨⟨fd_Tokens_peek, G_Tokens_peek, B_Tokens_peek⟩, kp_Tokens_peek⟩ := ok_Tokens_peek (P := P) (w := w) (base := base) T
  obtain ⟨c_STRAIGHT, m_STRAIGHT⟩ := T.nSTRAIGHT
  obtain ⟨a_LINES, m_LINES, q_LINES⟩ := T.tLINES
  refine ⟨⟨fd, F.okX sc_take_line (fun vs H Q E h => ?_) (fun cdv A outer s H vs Q E hr h => ?_), B⟩, F.kp⟩
  · obtain ⟨R, C, us, bs, t0, e, s, par, rfl, _, _, _, ⟨rfl, _⟩, _⟩ := h
    rfl
  · obtain ⟨R, C, us, bs, t0, e, s, par, rfl, sz, bz, hT, ⟨rfl, rfl⟩, k⟩ := h
    obtain ⟨dxR, av, hR⟩ := hT.hR
    have hr_take_name : Room 7 _ := hr.mono (by decide)
    have hr_Tokens_peek : Room 4 _ := hr.mono (by decide)
    refine ⟨_, pss_cons (ps_if (pt_cmpR op_in_seq (pe_fld (pe_meth0 (pv 0) T.kTokens.cl T.kTokens_peek.me G_Tokens_peek hr_Tokens_peek B_Tokens_peek .nil passX) rfl) (pe_glob (v := .ref a_LINES) rfl m_LINES rfl) (by rfl))
        (pss_one (ps_ret (pe_call G_take_name hr_take_name rfl T.k_take_name.gl kp_take_name B1_take_name V1_take_name passX (pa_cons (pv 0) (pa_cons (pe_callTy call_list_of (by rfl) T.b_list (by decide +kernel) (pa_cons (pe_glob (v := .ref a_LINES) rfl m_LINES rfl) pa_nil)) pa_nil)))))
        pss_nil)
      (pss_one (ps_ret (pgi m_STRAIGHT))), ?_⟩
    refine ⟨_, rfl, R, dxR, _, rfl, hR, tk_no (by decide +kernel), R, C, bs, t0, e, s, rfl, sz, bz, hT, ?_⟩
    unfold lineM at k
    by_cases c4 : 4 ≤ kindOf s
    · rw [if_pos c4] at k ⊢
      exact k
    · rw [if_neg c4] at k ⊢
      intro H1 A tok r es kp hAh
      subst es
      obtain ⟨xR, xC, dxA, c, q, hR1, hC1, lq, hA, rel, alt⟩ := _root_.id hAh
      refine ⟨A, d.cToken, dxA, _, _, rfl, hA, T.kToken.cl, T.kToken.no.1, look_at _ _ _ 0 rfl (by decide +kernel), _, _, rfl, .inr (tup_vS q_LINES wn_line _), rfl, all_flat _, _, rfl, ?_⟩
      rw [if_neg Bool.false_ne_true, inV_vS, mem_tok pz_line rfl nm_all.2.1 rel (hT.word bz)]
      unfold lineAt at k
      cases e1 : look LINEWORDS (tok :: r) with
      | none =>
        rw [e1] at k
        refine iteF ?_
        exact k _ H1 kp hAh.at_ rfl
      | some j =>
        rw [e1] at k
        refine iteT ?_
        refine ⟨_, rfl, _, _, rfl, .inr (q_LINES _), fun l nl => ?_⟩
        refine name_give sz bz hAh.at_ nl wn_line nm_all.2.1 tb_line e_str (by decide) ?_
        rw [sin_plain (by decide)]
        unfold eat
        rw [e1]
        exact fun v H' kp2 hT2 rv => k v H' (kp.trans kp2) hT2 rv
end
end HC


namespace HC
open PySem PySem.Spec PyProof.Rows L2
open ShBlazon (isLetter isDigit isBlank oneToken tokensFrom tokensOf valueOf Token kindOf place wordOf numOf wanted look eat isWord eatWord ascii sinister lineAt twoAt piecesAt partedAt variedAt fieldAt fillAt mannerAt sizeAt groupAt ordAt layerAt layersAt vowel TINCTWORDS LINEWORDS WAYWORDS VARYWORDS ORDWORDS CHARGEWORDS SEVERAL MANNERWORDS)
theorem sin_not {s : Tks} (h : kindOf s ≠ 0) (b k : Nat) : sinister b k s = (k, s) := by
  unfold sinister
  rw [isWord_not h, if_neg fun z => Bool.false_ne_true z.2]
theorem pieces_not {s : Tks} (h : kindOf s ≠ 0) : piecesAt s = .error (wanted s) := by
  rw [pieces_num, eatWord_not h]
theorem varied_not {s : Tks} (h : kindOf s ≠ 0) (n : Nat) : variedAt n s = .error (wanted s) := by
  unfold variedAt
  rw [pieces_not h]
theorem sin_then {β : Type} {S : List (List UInt8)} {b : Nat} {X : Nat × Tks → Except ShBlazon.Fault β} (hX : ∀ (k : Nat) (s' : Tks), kindOf s' ≠ 0 → X (k, s') = .error (wanted s')) (s : Tks) :
    (match eat S s with
      | .error e => Except.error e
      | .ok k => X (sinister b k.1 k.2)) = (match mSin S b s with
      | .error e => .error e
      | .ok y => X y) := by
  unfold mSin
  cases eat S s with
  | error e => rfl
  | ok k =>
    dsimp only
    by_cases c : k.1 = b
    · rw [if_pos c]
      by_cases c4 : 4 ≤ kindOf k.2
      · rw [if_pos c4, sin_not (by omega)]
        exact hX _ _ (by omega)
      · rw [if_neg c4]
    · rw [if_neg c]
      unfold sinister
      rw [if_neg fun z => c z.1]
theorem vari_is (s : Tks) : variM s = match mSin VARYWORDS 2 s with
    | .error e => .error e
    | .ok y => variedAt y.1 y.2 := by
  rw [← sin_then (S := VARYWORDS) (b := 2) (X := fun y => variedAt y.1 y.2) (fun k s' h => varied_not h k) s]
  rfl
section
variable {P : Program} {w : World} {K : PySem.W.Frag} {mg : Str → Option Value} {base : Heap} {d : Ad}
def preNum {α : Type} (g : Nat → Pt α) (_ : Hp) (us : List V) (par : Pt α) : Prop := ∃ n : Nat, us = [vN n] ∧ par = g n
theorem sc_read_parted : FnScope ["tokens", "way", "line", "first"] ["tokens", "way"] (defScope s_read_parted) := ⟨rfl, rfl, rfl, by decide +kernel, rfl, by decide +kernel, by decide +kernel⟩
theorem ok_read_parted (T : Txt K mg d) : OkD P w K mg base (L2.CX P w) 10 d.f_read_parted ["tokens", "way"] (spT d (preNum partedAt) (RField d)) := by
  obtain ⟨fd, F, B⟩ := T.k_read_parted.ex
  obtain ⟨⟨fd_take_line, G_take_line, B_take_line⟩, kp_take_line⟩ := ok_take_line (P := P) (w := w) (base := base) T
  obtain ⟨⟨fd_take_tincture, G_take_tincture, B_take_tincture⟩, kp_take_tincture⟩ := ok_take_tincture (P := P) (w := w) (base := base) T
  obtain ⟨⟨fd_Parted, G_Parted, B_Parted⟩, kp_Parted⟩ := ok_Parted_init (P := P) (w := w) (base := base) T
  obtain ⟨⟨fd_take_second_tincture, G_take_second_tincture, B_take_second_tincture⟩, kp_take_second_tincture⟩ := ok_take_second_tincture (P := P) (w := w) (base := base) T
  refine ⟨⟨fd, F.okX sc_read_parted (fun vs H Q E h => ?_) (fun cdv A outer s H vs Q E hr h => ?_), B⟩, F.kp⟩
  · obtain ⟨R, C, us, bs, t0, e, s, par, rfl, _, _, _, ⟨n, rfl, _⟩, _⟩ := h
    rfl
  · obtain ⟨R, C, us, bs, t0, e, s, par, rfl, sz, bz, hT, ⟨n, rfl, rfl⟩, k⟩ := h
    have hr_take_line : Room 8 _ := hr.mono (by decide)
    have hr_take_tincture : Room 8 _ := hr.mono (by decide)
    have hr_Parted : Room 2 _ := hr.mono (by decide)
    have hr_take_second_tincture : Room 9 _ := hr.mono (by decide)
    refine ⟨_, pss_cons (ps_set (i := 2) sc_read_parted.nd rfl (Or.inl rfl) (pe_call G_take_line hr_take_line rfl T.k_take_line.gl kp_take_line B_take_line .nil passX (pa_cons (pv 0) pa_nil)))
      (pss_cons (ps_set (i := 3) sc_read_parted.nd rfl (Or.inl rfl) (pe_call G_take_tincture hr_take_tincture rfl T.k_take_tincture.gl kp_take_tincture B_take_tincture .nil passX (pa_cons (pv 0) pa_nil)))
      (pss_one (ps_ret (pe_make T.kParted.mak G_Parted hr_Parted rfl T.kParted.gl B_Parted .nil pass0 (pa_cons (pv 1) (pa_cons (pv 2) (pa_cons (pv 3) (pa_cons (pe_call G_take_second_tincture hr_take_second_tincture rfl T.k_take_second_tincture.gl kp_take_second_tincture B_take_second_tincture .nil passX (pa_cons (pv 0) (pa_cons (pv 3) pa_nil))) pa_nil)))))))), ?_⟩
    refine ⟨_, rfl, R, C, _, bs, t0, e, s, _, rfl, sz, bz, hT, ⟨rfl, rfl⟩, ?_⟩
    unfold lineM
    by_cases c4 : 4 ≤ kindOf s
    · rw [if_pos c4]
      rw [parted_not (kind_ne c4)] at k
      exact k
    · rw [if_neg c4]
      unfold partedAt at k
      intro v1 H1 kp1 hT1 rv
      cases rv
      rw [two_second] at k
      refine ⟨_, rfl, R, C, _, bs, t0, e, _, _, rfl, sz, bz, hT1, ⟨rfl, rfl⟩, ?_⟩
      cases e2 : eat TINCTWORDS (lineAt s).2 with
      | error f => rw [e2] at k; exact k
      | ok a =>
      rw [e2] at k
      dsimp only at k
      intro v2 H2 kp2 hT2 rv
      cases rv
      refine ⟨_, rfl, _, rfl, _, rfl, _, rfl, _, rfl, R, C, _, bs, t0, e, _, _, rfl, sz, bz, hT2, ⟨a.1, rfl, rfl⟩, ?_⟩
      cases e3 : secondAt a.1 a.2 with
      | error f => rw [e3] at k; exact k
      | ok b =>
      rw [e3] at k
      dsimp only at k
      intro v3 H3 kp3 hT3 rv
      cases rv
      refine made rfl fun y dy H4 ny s4 hy => ?_
      have kk := (kp1.trans kp2).trans kp3
      exact k _ H4 (kk.trans (Keep2.of s4)) (hT3.same s4) ⟨y, dy, rfl, (hT3.mv (H' := H4) kk).nw y ny, hy⟩
theorem str_of : ("of" : Str) = strOf (ascii "of") := by decide +kernel
theorem of_ok : wOk "of" = true := by decide +kernel
theorem sc_read_varied : FnScope ["tokens", "way", "pieces", "line", "first"] ["tokens"] (defScope s_read_varied) := ⟨rfl, rfl, rfl, by decide +kernel, rfl, by decide +kernel, by decide +kernel⟩
theorem ok_read_varied (T : Txt K mg d) : OkD P w K mg base (L2.CX P w) 10 d.f_read_varied ["tokens"] (spT d (pre0T variM) (RField d)) := by
  obtain ⟨fd, F, B⟩ := T.k_read_varied.ex
  obtain ⟨fd_take_name, G_take_name, B_take_name, ⟨ds_take_name, V1_take_name, B1_take_name⟩, kp_take_name⟩ := ok_take_name (P := P) (w := w) (base := base) T
  obtain ⟨⟨fd_take_word, G_take_word, B_take_word⟩, kp_take_word⟩ := ok_take_word (P := P) (w := w) (base := base) T
  obtain ⟨⟨fd_take_pieces, G_take_pieces, B_take_pieces⟩, kp_take_pieces⟩ := ok_take_pieces (P := P) (w := w) (base := base) T
  obtain ⟨⟨fd_take_tincture, G_take_tincture, B_take_tincture⟩, kp_take_tincture⟩ := ok_take_tincture (P := P) (w := w) (base := base) T
  obtain ⟨⟨fd_Varied, G_Varied, B_Varied⟩, kp_Varied⟩ := ok_Varied_init (P := P) (w := w) (base := base) T
  obtain ⟨⟨fd_take_line, G_take_line, B_take_line⟩, kp_take_line⟩ := ok_take_line (P := P) (w := w) (base := base) T
  obtain ⟨⟨fd_take_second_tincture, G_take_second_tincture, B_take_second_tincture⟩, kp_take_second_tincture⟩ := ok_take_second_tincture (P := P) (w := w) (base := base) T
  obtain ⟨c_STRAIGHT, m_STRAIGHT⟩ := T.nSTRAIGHT
  obtain ⟨a_VARIED_WAYS, m_VARIED_WAYS, q_VARIED_WAYS⟩ := T.tVARIED_WAYS
  obtain ⟨c_FIRST_STRAIGHT_WAY, m_FIRST_STRAIGHT_WAY⟩ := T.nFIRST_STRAIGHT_WAY
  refine ⟨⟨fd, F.okX sc_read_varied (fun vs H Q E h => ?_) (fun cdv A outer s H vs Q E hr h => ?_), B⟩, F.kp⟩
  · obtain ⟨R, C, us, bs, t0, e, s, par, rfl, _, _, _, ⟨rfl, _⟩, _⟩ := h
    rfl
  · obtain ⟨R, C, us, bs, t0, e, s, par, rfl, sz, bz, hT, ⟨rfl, rfl⟩, k⟩ := h
    have hr_take_name : Room 7 _ := hr.mono (by decide)
    have hr_take_word : Room 6 _ := hr.mono (by decide)
    have hr_take_pieces : Room 6 _ := hr.mono (by decide)
    have hr_take_tincture : Room 8 _ := hr.mono (by decide)
    have hr_Varied : Room 2 _ := hr.mono (by decide)
    have hr_take_line : Room 8 _ := hr.mono (by decide)
    have hr_take_second_tincture : Room 9 _ := hr.mono (by decide)
    refine ⟨_, pss_cons (ps_set (i := 1) sc_read_varied.nd rfl (Or.inl rfl) (pe_call G_take_name hr_take_name rfl T.k_take_name.gl kp_take_name B1_take_name V1_take_name passX (pa_cons (pv 0) (pa_cons (pe_callTy call_list_of (by rfl) T.b_list (by decide +kernel) (pa_cons (pe_glob (v := .ref a_VARIED_WAYS) rfl m_VARIED_WAYS rfl) pa_nil)) pa_nil))))
      (pss_cons (ps_expr (pe_call G_take_word hr_take_word rfl T.k_take_word.gl kp_take_word B_take_word .nil passX (pa_cons (pv 0) (pa_cons pe_str pa_nil))))
      (pss_cons (ps_set (i := 2) sc_read_varied.nd rfl (Or.inl rfl) (pe_call G_take_pieces hr_take_pieces rfl T.k_take_pieces.gl kp_take_pieces B_take_pieces .nil passX (pa_cons (pv 0) pa_nil)))
      (C8.pss_cut (ps_set (i := 3) sc_read_varied.nd rfl (Or.inl rfl) (pe_ifExp (pt_cmpR op_lt (pv 1) (pgi m_FIRST_STRAIGHT_WAY) (nomark _)) (pe_call G_take_line hr_take_line rfl T.k_take_line.gl kp_take_line B_take_line .nil passX (pa_cons (pv 0) pa_nil)) (pgi m_STRAIGHT)))
      (pss_cons (ps_set (i := 4) sc_read_varied.nd rfl (Or.inl rfl) (pe_call G_take_tincture hr_take_tincture rfl T.k_take_tincture.gl kp_take_tincture B_take_tincture .nil passX (pa_cons (pv 0) pa_nil)))
      (pss_one (ps_ret (pe_make T.kVaried.mak G_Varied hr_Varied rfl T.kVaried.gl B_Varied .nil pass0 (pa_cons (pv 1) (pa_cons (pv 2) (pa_cons (pv 3) (pa_cons (pv 4) (pa_cons (pe_call G_take_second_tincture hr_take_second_tincture rfl T.k_take_second_tincture.gl kp_take_second_tincture B_take_second_tincture .nil passX (pa_cons (pv 0) (pa_cons (pv 4) pa_nil))) pa_nil)))))))))))), ?_⟩
    rw [vari_is] at k
    refine ⟨_, rfl, _, _, rfl, .inr (q_VARIED_WAYS _), fun l nl => ?_⟩
    dsimp only [tNil]
    refine name_give sz bz hT nl wn_vary nm_all.2.2.2.1 tb_vary e_str (by decide) ?_
    cases e1 : mSin VARYWORDS 2 s with
    | error f => rw [e1] at k; exact k
    | ok v =>
    rw [e1] at k
    dsimp only at k
    intro v1 H1 kp1 hT1 rv
    cases rv
    unfold variedAt at k
    rw [pieces_num] at k
    refine ⟨_, rfl, R, C, _, bs, t0, e, _, _, rfl, sz, bz, hT1, ⟨"of", by rw [str_of]; rfl, of_ok, rfl⟩, ?_⟩
    dsimp only
    cases e2 : eatWord "of" v.2 with
    | error f => rw [e2] at k; exact k
    | ok t =>
    rw [e2] at k
    dsimp only at k
    intro v2 H2 kp2 hT2 _
    replace hT2 : TkAt d bs t0 e R C H2 t := hT2
    refine ⟨_, rfl, R, C, _, bs, t0, e, _, _, rfl, sz, bz, hT2, ⟨rfl, rfl⟩, ?_⟩
    cases e3 : numAtT t with
    | error f => rw [e3] at k; exact k
    | ok n =>
    rw [e3] at k
    dsimp only at k
    intro v3 H3 kp3 hT3 rv
    cases rv
    have k3 := (kp1.trans kp2).trans kp3
    refine ⟨fun σ' H' => ∃ y, σ' = [some (.ref R), some (vN v.1), some (vN n.1), some (vN y.1), none] ∧ y = (if 5 ≤ v.1 then (0, n.2) else lineAt n.2) ∧ Keep2 R C H H' ∧ TkAt d bs t0 e R C H' y.2, ?_, ?_⟩
    · refine ⟨_, rfl, _, _, rfl, rfl, _, rfl, ?_⟩
      refine ite2 (fun q => ?_) (fun q => ?_)
      · have q' : ¬ 5 ≤ v.1 := by have := of_decide_eq_true q; omega
        rw [if_neg q'] at k
        refine ⟨_, rfl, R, C, _, bs, t0, e, _, _, rfl, sz, bz, hT3, ⟨rfl, rfl⟩, ?_⟩
        unfold lineM
        by_cases c4 : 4 ≤ kindOf n.2
        · rw [if_pos c4]
          rw [line_not (kind_ne c4), two_not (kind_ne c4)] at k
          exact k
        · rw [if_neg c4]
          intro v4 H4 kp4 hT4 rv
          cases rv
          exact ⟨lineAt n.2, rfl, by rw [if_neg q'], k3.trans kp4, hT4⟩
      · have q' : 5 ≤ v.1 := by
          have : ¬ (v.1 : Int) < 5 := fun z => q (decide_eq_true z)
          omega
        exact ⟨(0, n.2), rfl, by rw [if_pos q'], k3, hT3⟩
    · rintro σ' H4 ⟨y, rfl, ey, kp4, hT4⟩
      rw [← ey, two_second] at k
      refine ⟨_, rfl, R, C, _, bs, t0, e, _, _, rfl, sz, bz, hT4, ⟨rfl, rfl⟩, ?_⟩
      cases e5 : eat TINCTWORDS y.2 with
      | error f => rw [e5] at k; exact k
      | ok a =>
      rw [e5] at k
      dsimp only at k
      intro v5 H5 kp5 hT5 rv
      cases rv
      refine ⟨_, rfl, _, rfl, _, rfl, _, rfl, _, rfl, _, rfl, R, C, _, bs, t0, e, _, _, rfl, sz, bz, hT5, ⟨a.1, rfl, rfl⟩, ?_⟩
      cases e6 : secondAt a.1 a.2 with
      | error f => rw [e6] at k; exact k
      | ok b =>
      rw [e6] at k
      dsimp only at k
      intro v6 H6 kp6 hT6 rv
      cases rv
      refine made rfl fun z dz H7 nz s7 hz => ?_
      have kk := (kp4.trans kp5).trans kp6
      exact k _ H7 (kk.trans (Keep2.of s7)) (hT6.same s7) ⟨z, dz, rfl, (hT6.mv (H' := H7) kk).nw z nz, hz⟩
/-! ### read_field -/
def QG : List (List UInt8) := [[], [], [], [], [], [], ascii "quarterly", ascii "gyronny"]
theorem tb_qg : tabOk NPART QG [] 99 = true := by decide +kernel
theorem vary_no : ∀ j : Fin 7, VARYWORDS.getD j.val [] ≠ ascii "per" ∧ VARYWORDS.getD j.val [] ≠ ascii "quarterly" ∧ VARYWORDS.getD j.val [] ≠ ascii "gyronny" := by decide +kernel
theorem look_word {L : List (List UInt8)} {s : Tks} {j : Nat} (h : look L s = some j) : kindOf s = 0 ∧ L.getD j [] = wordOf s ∧ j < L.length := by
  unfold look at h
  by_cases c : kindOf s = 0
  · rw [if_pos c] at h
    obtain ⟨i1, i2, _⟩ := idx_some h
    exact ⟨c, by rw [List.getD_eq_getElem?_getD, i1]; rfl, i2⟩
  · rw [if_neg c] at h
    cases h
theorem isWord_of {s : Tks} {wd : String} : isWord s wd = true ↔ (kindOf s = 0 ∧ wordOf s = ascii wd) := by
  unfold isWord
  rw [Bool.and_eq_true, beq_iff_eq, beq_iff_eq]
theorem eat_look {L : List (List UInt8)} {s : Tks} {j : Nat} (h : look L s = some j) : eat L s = .ok (j, s.drop 1) := by
  unfold eat
  rw [h]
theorem eat_none {L : List (List UInt8)} {s : Tks} (h : look L s = none) : eat L s = .error (wanted s) := by
  unfold eat
  rw [h]
theorem isWord_no {s : Tks} {wd : String} (h : wordOf s ≠ ascii wd) : isWord s wd = false := by
  cases z : isWord s wd with
  | false => rfl
  | true => exact absurd (isWord_of.mp z).2 h
/-- a field that a word of the varied begins -/
theorem field_vary {s : Tks} {j : Nat} (h0 : look TINCTWORDS s = none) (h : look VARYWORDS s = some j) : fieldAt s = variM s := by
  obtain ⟨g1, g2, g3⟩ := look_word h
  have hn := vary_no ⟨j, g3⟩
  dsimp only at hn
  rw [g2] at hn
  unfold fieldAt
  rw [h0, isWord_no hn.1, isWord_no hn.2.1, isWord_no hn.2.2]
  rfl
theorem qg_of {s : Tks} {j : Nat} (hs : WordOk s) (h : look QG s = some j) : (j = 6 ∧ wordOf s = ascii "quarterly") ∨ (j = 7 ∧ wordOf s = ascii "gyronny") := by
  obtain ⟨g1, g2, g3⟩ := look_word h
  have hw := (hs g1).1
  rw [← g2] at hw ⊢
  have : ∀ j : Fin 8, QG.getD j.val [] ≠ [] → (j.val = 6 ∧ QG.getD j.val [] = ascii "quarterly") ∨ (j.val = 7 ∧ QG.getD j.val [] = ascii "gyronny") := by decide +kernel
  exact this ⟨j, g3⟩ hw
theorem qg_per : ascii "quarterly" ≠ ascii "per" ∧ ascii "gyronny" ≠ ascii "per" ∧ ascii "gyronny" ≠ ascii "quarterly" := by decide +kernel
theorem field_qg {s : Tks} {j : Nat} (hs : WordOk s) (h0 : look TINCTWORDS s = none) (h : look QG s = some j) : fieldAt s = partedAt j (s.drop 1) := by
  have g1 := (look_word h).1
  rcases qg_of hs h with ⟨rfl, e⟩ | ⟨rfl, e⟩
  · unfold fieldAt
    rw [h0, isWord_no (by rw [e]; exact qg_per.1), isWord_of.mpr ⟨g1, e⟩]
    rfl
  · unfold fieldAt
    rw [h0, isWord_no (by rw [e]; exact qg_per.2.1), isWord_no (by rw [e]; exact qg_per.2.2), isWord_of.mpr ⟨g1, e⟩]
    rfl
theorem qg_idx : QG.findIdx? (fun x => x == ascii "quarterly") = some 6 ∧ QG.findIdx? (fun x => x == ascii "gyronny") = some 7 := by decide +kernel
theorem qg_none {s : Tks} (hv : look VARYWORDS s = none) (h0 : look TINCTWORDS s = none) (h : look QG s = none) : fieldAt s = (if isWord s "per" = true then (match eat WAYWORDS (s.drop 1) with
      | .error e => .error e
      | .ok w => partedAt (sinister 2 w.1 w.2).1 (sinister 2 w.1 w.2).2) else .error (wanted s)) := by
  have nq : isWord s "quarterly" = false := by
    cases z : isWord s "quarterly" with
    | false => rfl
    | true =>
      obtain ⟨z1, z2⟩ := isWord_of.mp z
      unfold look at h
      rw [if_pos z1, z2, qg_idx.1] at h
      cases h
  have ng : isWord s "gyronny" = false := by
    cases z : isWord s "gyronny" with
    | false => rfl
    | true =>
      obtain ⟨z1, z2⟩ := isWord_of.mp z
      unfold look at h
      rw [if_pos z1, z2, qg_idx.2] at h
      cases h
  unfold fieldAt
  rw [h0, nq, ng, eat_none hv]
  rfl
theorem way_eat {t : Tks} (hs : WordOk t) : eat WAYW t = eat WAYWORDS t := by
  have e : WAYW = WAYWORDS ++ [[], []] := by decide +kernel
  unfold eat look
  by_cases c : kindOf t = 0
  · rw [if_pos c, if_pos c, e, List.findIdx?_append]
    have hw := (hs c).1
    have z : ([[], []] : List (List UInt8)).findIdx? (fun x => x == wordOf t) = none := List.findIdx?_eq_none_iff.mpr fun x hx => by
      have hx' : x = [] := by
        rcases List.mem_cons.mp hx with q | q
        · exact q
        · rcases List.mem_cons.mp q with q | q
          · exact q
          · cases q
      rw [hx']
      exact beq_eq_false_iff_ne.mpr fun q => hw q.symm
    rw [z]
    cases WAYWORDS.findIdx? (fun x => x == wordOf t) <;> rfl
  · rw [if_neg c, if_neg c]
theorem way_is {t : Tks} (hs : WordOk t) : (match eat WAYWORDS t with
      | .error e => Except.error e
      | .ok w => partedAt (sinister 2 w.1 w.2).1 (sinister 2 w.1 w.2).2) = (match mSin WAYW 2 t with
      | .error e => .error e
      | .ok y => partedAt y.1 y.2) := by
  rw [← sin_then (S := WAYW) (b := 2) (X := fun y => partedAt y.1 y.2) (fun k s' h => parted_not h k) t, way_eat hs]
theorem str_per : ("per" : Str) = strOf (ascii "per") := by decide +kernel
theorem str_perb : ("per " : Str) = strOf (ascii "per ") := by decide +kernel
theorem per_ok : wOk "per" = true := by decide +kernel
theorem sc_read_field : FnScope ["tokens", "name"] ["tokens"] (defScope s_read_field) := ⟨rfl, rfl, rfl, by decide +kernel, rfl, by decide +kernel, by decide +kernel⟩
theorem ok_read_field (T : Txt K mg d) : OkD P w K mg base (L2.CX P w) 11 d.f_read_field ["tokens"] (spT d (pre0T fieldAt) (RField d)) := by
  obtain ⟨fd, F, B⟩ := T.k_read_field.ex
  obtain ⟨⟨fd_take_word, G_take_word, B_take_word⟩, kp_take_word⟩ := ok_take_word (P := P) (w := w) (base := base) T
  obtain ⟨⟨fd_read_parted, G_read_parted, B_read_parted⟩, kp_read_parted⟩ := ok_read_parted (P := P) (w := w) (base := base) T
  obtain ⟨⟨fd_Tokens_peek, G_Tokens_peek, B_Tokens_peek⟩, kp_Tokens_peek⟩ := ok_Tokens_peek (P := P) (w := w) (base := base) T
  obtain ⟨⟨fd_Plain, G_Plain, B_Plain⟩, kp_Plain⟩ := ok_Plain_init (P := P) (w := w) (base := base) T
  obtain ⟨⟨fd_read_varied, G_read_varied, B_read_varied⟩, kp_read_varied⟩ := ok_read_varied (P := P) (w := w) (base := base) T
  obtain ⟨fd_take_name, G_take_name, B_take_name, ⟨ds_take_name, V1_take_name, B1_take_name⟩, kp_take_name⟩ := ok_take_name (P := P) (w := w) (base := base) T
  obtain ⟨⟨fd_take_tincture, G_take_tincture, B_take_tincture⟩, kp_take_tincture⟩ := ok_take_tincture (P := P) (w := w) (base := base) T
  obtain ⟨a_TINCTURES, m_TINCTURES, q_TINCTURES⟩ := T.tTINCTURES
  obtain ⟨a_VARIED_WAYS, m_VARIED_WAYS, q_VARIED_WAYS⟩ := T.tVARIED_WAYS
  obtain ⟨a_PARTED_WAYS, m_PARTED_WAYS, q_PARTED_WAYS⟩ := T.tPARTED_WAYS
  refine ⟨⟨fd, F.okX sc_read_field (fun vs H Q E h => ?_) (fun cdv A outer s H vs Q E hr h => ?_), B⟩, F.kp⟩
  · obtain ⟨R, C, us, bs, t0, e, s, par, rfl, _, _, _, ⟨rfl, _⟩, _⟩ := h
    rfl
  · obtain ⟨R, C, us, bs, t0, e, s, par, rfl, sz, bz, hT, ⟨rfl, rfl⟩, k⟩ := h
    obtain ⟨dxR, av, hR⟩ := hT.hR
    have hwo := hT.word bz
    have hr_take_word : Room 6 _ := hr.mono (by decide)
    have hr_read_parted : Room 10 _ := hr.mono (by decide)
    have hr_Tokens_peek : Room 4 _ := hr.mono (by decide)
    have hr_Plain : Room 2 _ := hr.mono (by decide)
    have hr_read_varied : Room 10 _ := hr.mono (by decide)
    have hr_take_name : Room 7 _ := hr.mono (by decide)
    have hr_take_tincture : Room 8 _ := hr.mono (by decide)
    refine ⟨_, pss_cons (ps_set (i := 1) sc_read_field.nd rfl (Or.inl rfl) (pe_fld (pe_meth0 (pv 0) T.kTokens.cl T.kTokens_peek.me G_Tokens_peek hr_Tokens_peek B_Tokens_peek .nil passX) rfl))
      (pss_cons (ps_if (pt_cmpR op_in_seq (pv 1) (pe_glob (v := .ref a_TINCTURES) rfl m_TINCTURES rfl) (by rfl))
        (pss_one (ps_ret (pe_make T.kPlain.mak G_Plain hr_Plain rfl T.kPlain.gl B_Plain .nil pass0 (pa_cons (pe_call G_take_tincture hr_take_tincture rfl T.k_take_tincture.gl kp_take_tincture B_take_tincture .nil passX (pa_cons (pv 0) pa_nil)) pa_nil))))
        pss_nil)
      (pss_cons (ps_if (pt_cmpR op_in_seq (pv 1) (pe_glob (v := .ref a_VARIED_WAYS) rfl m_VARIED_WAYS rfl) (by rfl))
        (pss_one (ps_ret (pe_call G_read_varied hr_read_varied rfl T.k_read_varied.gl kp_read_varied B_read_varied .nil passX (pa_cons (pv 0) pa_nil))))
        pss_nil)
      (pss_cons (ps_if (pt_cmpR op_in_seq (pv 1) (pe_glob (v := .ref a_PARTED_WAYS) rfl m_PARTED_WAYS rfl) (by rfl))
        (pss_one (ps_ret (pe_call G_read_parted hr_read_parted rfl T.k_read_parted.gl kp_read_parted B_read_parted .nil passX (pa_cons (pv 0) (pa_cons (pe_call G_take_name hr_take_name rfl T.k_take_name.gl kp_take_name B1_take_name V1_take_name passX (pa_cons (pv 0) (pa_cons (pe_callTy call_list_of (by rfl) T.b_list (by decide +kernel) (pa_cons (pe_glob (v := .ref a_PARTED_WAYS) rfl m_PARTED_WAYS rfl) pa_nil)) pa_nil))) pa_nil)))))
        pss_nil)
      (pss_cons (ps_expr (pe_call G_take_word hr_take_word rfl T.k_take_word.gl kp_take_word B_take_word .nil passX (pa_cons (pv 0) (pa_cons pe_str pa_nil))))
      (pss_one (ps_ret (pe_call G_read_parted hr_read_parted rfl T.k_read_parted.gl kp_read_parted B_read_parted .nil passX (pa_cons (pv 0) (pa_cons (pe_call G_take_name hr_take_name rfl T.k_take_name.gl kp_take_name B_take_name .nil passX (pa_cons (pv 0) (pa_cons (pe_callTy call_list_of (by rfl) T.b_list (by decide +kernel) (pa_cons (pe_glob (v := .ref a_PARTED_WAYS) rfl m_PARTED_WAYS rfl) pa_nil)) (pa_cons pe_str pa_nil)))) pa_nil))))))))), ?_⟩
    refine ⟨_, rfl, R, dxR, _, rfl, hR, tk_no (by decide +kernel), R, C, bs, t0, e, s, rfl, sz, bz, hT, ?_⟩
    by_cases c4 : 4 ≤ kindOf s
    · rw [if_pos c4]
      rw [field_not (kind_ne c4)] at k
      exact k
    · rw [if_neg c4]
      intro H1 A tok r es kp hAh
      obtain ⟨xR, xC, dxA, c, q, hR1, hC1, lq, hA, rel, alt⟩ := _root_.id hAh
      have hT1 : TkAt d bs t0 e R C H1 s := by rw [es]; exact hAh.at_
      refine ⟨A, d.cToken, dxA, _, _, rfl, hA, T.kToken.cl, T.kToken.no.1, look_at _ _ _ 0 rfl (by decide +kernel), ?_⟩
      refine ⟨_, rfl, _, _, rfl, .inr (tup_vS q_TINCTURES wn_tin _), rfl, all_flat _, _, rfl, ?_⟩
      rw [if_neg Bool.false_ne_true, inV_vS, mem_tok (r := r) pz_tin rfl nm_all.1 rel (by rw [← es]; exact hwo), ← es]
      cases e1 : look TINCTWORDS s with
      | some j =>
        refine iteT ?_
        have ef : fieldAt s = .ok (.plain j, s.drop 1) := by
          unfold fieldAt
          rw [e1]
        rw [ef] at k
        refine ⟨_, rfl, R, C, _, bs, t0, e, s, _, rfl, sz, bz, hT1, ⟨rfl, rfl⟩, ?_⟩
        rw [eat_look e1]
        intro v2 H2 kp2 hT2 rv
        cases rv
        refine made rfl fun y dy H3 ny s3 hy => ?_
        have kk := kp.trans kp2
        exact k _ H3 (kk.trans (Keep2.of s3)) (hT2.same s3) ⟨y, dy, rfl, (hT2.mv (H' := H3) kk).nw y ny, hy⟩
      | none =>
        refine iteF ?_
        refine ⟨_, rfl, _, _, rfl, .inr (tup_vS q_VARIED_WAYS wn_vary _), rfl, all_flat _, _, rfl, ?_⟩
        rw [if_neg Bool.false_ne_true, inV_vS, mem_tok (r := r) pz_vary rfl nm_all.2.2.2.1 rel (by rw [← es]; exact hwo), ← es]
        cases e2 : look VARYWORDS s with
        | some j =>
          refine iteT ?_
          rw [field_vary e1 e2] at k
          refine ⟨_, rfl, R, C, _, bs, t0, e, s, _, rfl, sz, bz, hT1, ⟨rfl, rfl⟩, ?_⟩
          exact GiveT.up kp (fun _ _ _ _ ht z => RField.mv z (ht.mv' kp hT1)) k
        | none =>
          refine iteF ?_
          refine ⟨_, rfl, _, _, rfl, .inr (tup_vS q_PARTED_WAYS wn_part _), rfl, all_flat _, _, rfl, ?_⟩
          rw [if_neg Bool.false_ne_true, inV_vS, mem_tok (S := QG) (r := r) pz_part rfl nm_all.2.2.1 rel (by rw [← es]; exact hwo), ← es]
          cases e3 : look QG s with
          | some j =>
            refine iteT ?_
            rw [field_qg hwo e1 e3] at k
            refine ⟨_, rfl, _, rfl, _, _, rfl, .inr (q_PARTED_WAYS _), fun l nl => ?_⟩
            dsimp only [tNil]
            refine name_give sz bz hT1 nl wn_part nm_all.2.2.1 tb_qg e_str (by decide) ?_
            rw [sin_plain (by decide), eat_look e3]
            intro v2 H2 kp2 hT2 rv
            cases rv
            refine ⟨R, C, _, bs, t0, e, _, _, rfl, sz, bz, hT2, ⟨j, rfl, rfl⟩, ?_⟩
            exact GiveT.up (kp.trans kp2) (fun _ _ _ _ ht z => RField.mv z (ht.mv' (kp.trans kp2) hT2)) k
          | none =>
            refine iteF ?_
            rw [qg_none e2 e1 e3] at k
            refine ⟨_, rfl, R, C, _, bs, t0, e, s, _, rfl, sz, bz, hT1, ⟨"per", by rw [str_per]; rfl, per_ok, rfl⟩, ?_⟩
            dsimp only
            unfold eatWord
            by_cases c5 : isWord s "per" = true
            · rw [if_pos c5] at k ⊢
              intro v2 H2 kp2 hT2 _
              replace hT2 : TkAt d bs t0 e R C H2 (s.drop 1) := hT2
              rw [way_is (hT2.word bz)] at k
              refine ⟨_, rfl, _, rfl, _, _, rfl, .inr (q_PARTED_WAYS _), fun l nl => ?_⟩
              dsimp only [tNil]
              refine name_give (a := ascii "per ") sz bz hT2 nl wn_part nm_all.2.2.1 tb_way (by rw [str_perb]) (by decide +kernel) ?_
              cases e6 : mSin WAYW 2 (s.drop 1) with
              | error f => rw [e6] at k; exact k
              | ok y =>
              rw [e6] at k
              dsimp only at k
              intro v3 H3 kp3 hT3 rv
              cases rv
              refine ⟨R, C, _, bs, t0, e, _, _, rfl, sz, bz, hT3, ⟨y.1, rfl, rfl⟩, ?_⟩
              have kk := (kp.trans kp2).trans kp3
              exact GiveT.up kk (fun _ _ _ _ ht z => RField.mv z (ht.mv' kk hT3)) k
            · rw [if_neg c5] at k ⊢
              exact k
end
end HC


namespace HC
open PySem PySem.Spec PyProof.Rows L2
open ShBlazon (isLetter isDigit isBlank oneToken tokensFrom tokensOf valueOf Token kindOf place wordOf numOf wanted look eat isWord eatWord ascii sinister lineAt twoAt piecesAt partedAt variedAt fieldAt fillAt mannerAt sizeAt groupAt ordAt layerAt layersAt vowel TINCTWORDS LINEWORDS WAYWORDS VARYWORDS ORDWORDS CHARGEWORDS SEVERAL MANNERWORDS)
theorem size_look {s : Tks} (hs : WordOk s) : look ShBlazon.SIZES s = (look NSIZ s).map (· + 1) := by
  have e : ShBlazon.SIZES = [] :: NSIZ := by decide +kernel
  unfold look
  by_cases c : kindOf s = 0
  · have hw := (hs c).1
    have z : (([] : List UInt8) == wordOf s) = false := beq_eq_false_iff_ne.mpr fun q => hw q.symm
    rw [if_pos c, if_pos c, e, List.findIdx?_cons, z]
    rfl
  · rw [if_neg c, if_neg c]
    rfl
theorem man_then {β : Type} {X : Nat × Tks → Except ShBlazon.Fault β} (hX : ∀ (k : Nat) (s' : Tks), kindOf s' ≠ 0 → X (k, s') = .error (wanted s')) (s : Tks) :
    (match mannerAt s with
      | .error e => Except.error e
      | .ok m => X m) = (match manM s with
      | .error e => Except.error e
      | .ok m => X m) := by
  unfold mannerAt manM
  by_cases c4 : 4 ≤ kindOf s
  · rw [if_pos c4, isWord_not (kind_ne c4)]
    exact hX 0 s (kind_ne c4)
  · rw [if_neg c4]
    by_cases c1 : isWord s "in" = true
    · rw [if_pos c1, if_pos c1]
      refine Eq.trans ?_ (sin_then (S := MANNERWORDS) (b := 3) (X := X) hX (s.drop 1))
      cases eat MANNERWORDS (s.drop 1) <;> rfl
    · rw [if_neg c1, if_neg c1]
def ordX (f : Sh.Field) (y : Nat × Tks) : Except ShBlazon.Fault (Sh.Layer × Tks) := match fillAt f (lineAt y.2).2 with
  | .error e => .error e
  | .ok g => .ok (.ord y.1 (lineAt y.2).1 g.1, g.2)
theorem ordX_not (f : Sh.Field) (k : Nat) (s' : Tks) (h : kindOf s' ≠ 0) : ordX f (k, s') = .error (wanted s') := by
  unfold ordX
  rw [line_not h, fill_not h]
theorem ord_is (f : Sh.Field) (s : Tks) : ordM f s = match mSin ORDWORDS 4 s with
    | .error e => Except.error e
    | .ok y => ordX f y := by
  refine Eq.trans ?_ (sin_then (S := ORDWORDS) (b := 4) (X := ordX f) (ordX_not f) s)
  unfold ordM ordAt ordX
  cases eat ORDWORDS s with
  | error e => rfl
  | ok o => rfl
/-- a group behind its size and its charge -/
def grpX (f : Sh.Field) (c n z : Nat) (m : Nat × Tks) : Except ShBlazon.Fault (Sh.Layer × Tks) := match fillAt f m.2 with
  | .error e => .error e
  | .ok g => .ok (.group c n m.1 z g.1, g.2)
theorem group_is (f : Sh.Field) (n : Nat) (L : List (List UInt8)) (s : Tks) : groupAt f n L s = match eat L (sizeAt s).2 with
    | .error e => Except.error e
    | .ok c => match manM c.2 with
      | .error e => Except.error e
      | .ok m => grpX f c.1 n (sizeAt s).1 m := by
  unfold groupAt
  cases eat L (sizeAt s).2 with
  | error e => rfl
  | ok c =>
    dsimp only
    rw [← man_then (X := grpX f c.1 n (sizeAt s).1) (fun k s' h => by unfold grpX; rw [fill_not h]) c.2]
    cases mannerAt c.2 with
    | error e => rfl
    | ok m => rfl
section
variable {P : Program} {w : World} {K : PySem.W.Frag} {mg : Str → Option Value} {base : Heap} {d : Ad}
theorem n_fld : ("tincture" : Str) ≠ "cursor" ∧ ("tincture" : Str) ≠ "text" ∧ ("way" : Str) ≠ "cursor" ∧ ("way" : Str) ≠ "text" := by decide +kernel
theorem RField.keep2 {bs : List UInt8} {t0 e : Nat} {R C : Addr} {H0 H H' : Hp} {v : V} {f : Sh.Field} {s : Tks} (h : RField d H0 H v f) (hT : TkAt d bs t0 e R C H s) (k : Keep2 R C H H') : RField d H0 H' v f := by
  obtain ⟨_, _, hR⟩ := hT.hR
  obtain ⟨_, _, hC⟩ := hT.hC
  cases f with
  | plain t =>
    obtain ⟨b, dx, e, n, o⟩ := h
    exact ⟨b, dx, e, n, k b _ (ne_of o hR (ins_ne n_fld.1)) (ne_of o hC (ins_ne n_fld.2.1)) o⟩
  | parted w l a' c =>
    obtain ⟨b, dx, e, n, o⟩ := h
    exact ⟨b, dx, e, n, k b _ (ne_of o hR (ins_ne n_fld.2.2.1)) (ne_of o hC (ins_ne n_fld.2.2.2)) o⟩
  | varied w n' l a' c =>
    obtain ⟨b, dx, e, n, o⟩ := h
    exact ⟨b, dx, e, n, k b _ (ne_of o hR (ins_ne n_fld.2.2.1)) (ne_of o hC (ins_ne n_fld.2.2.2)) o⟩
/-- isinstance(field, Plain) -/
theorem isPlain (T : Txt K mg d) {H0 H : Hp} {v : V} {f : Sh.Field} (h : RField d H0 H v f) : ∃ t, TyX K H v t ∧ PySem.W.kitOne K t (.ref d.cPlain) = some (!f.two.isSome) := by
  cases f with
  | plain t =>
    obtain ⟨b, dx, rfl, _, o⟩ := h
    exact ⟨_, .base (.ins o T.kPlain.cl T.kPlain.cla T.gs T.tk T.kPlain.mro), T.iPlain_Plain⟩
  | parted w l a c =>
    obtain ⟨b, dx, rfl, _, o⟩ := h
    exact ⟨_, .base (.ins o T.kParted.cl T.kParted.cla T.gs T.tk T.kParted.mro), T.iParted_Plain⟩
  | varied w n l a c =>
    obtain ⟨b, dx, rfl, _, o⟩ := h
    exact ⟨_, .base (.ins o T.kVaried.cl T.kVaried.cla T.gs T.tk T.kVaried.mro), T.iVaried_Plain⟩
def preFl {α : Type} (d : Ad) (g : Sh.Field → Pt α) (H : Hp) (us : List V) (par : Pt α) : Prop := ∃ (v : V) (f : Sh.Field) (H0 : Hp), us = [v] ∧ RField d H0 H v f ∧ par = g f
theorem str_cc : ("counterchanged" : Str) = strOf (ascii "counterchanged") := by decide +kernel
theorem cc_ok : wOk "counterchanged" = true := by decide +kernel
theorem sc_read_fill : FnScope ["tokens", "field", "token"] ["tokens", "field"] (defScope s_read_fill) := ⟨rfl, rfl, rfl, by decide +kernel, rfl, by decide +kernel, by decide +kernel⟩
theorem ok_read_fill (T : Txt K mg d) : OkD P w K mg base (L2.CX P w) 12 d.f_read_fill ["tokens", "field"] (spT d (preFl d fillAt) (RFill d)) := by
  obtain ⟨fd, F, B⟩ := T.k_read_fill.ex
  obtain ⟨⟨fd_Tokens_peek, G_Tokens_peek, B_Tokens_peek⟩, kp_Tokens_peek⟩ := ok_Tokens_peek (P := P) (w := w) (base := base) T
  obtain ⟨⟨fd_Tokens_take, G_Tokens_take, B_Tokens_take⟩, kp_Tokens_take⟩ := ok_Tokens_take (P := P) (w := w) (base := base) T
  obtain ⟨⟨fd_read_field, G_read_field, B_read_field⟩, kp_read_field⟩ := ok_read_field (P := P) (w := w) (base := base) T
  obtain ⟨c_CHANGED_OVER_PLAIN, m_CHANGED_OVER_PLAIN⟩ := T.nCHANGED_OVER_PLAIN
  refine ⟨⟨fd, F.okX sc_read_fill (fun vs H Q E h => ?_) (fun cdv A outer s H vs Q E hr h => ?_), B⟩, F.kp⟩
  · obtain ⟨R, C, us, bs, t0, e, s, par, rfl, _, _, _, ⟨fv, f, H0, rfl, _⟩, _⟩ := h
    rfl
  · obtain ⟨R, C, us, bs, t0, e, s, par, rfl, sz, bz, hT, ⟨fv, f, H0, rfl, hf, rfl⟩, k⟩ := h
    obtain ⟨dxR, av, hR⟩ := hT.hR
    have hr_Tokens_peek : Room 4 _ := hr.mono (by decide)
    have hr_Tokens_take : Room 5 _ := hr.mono (by decide)
    have hr_read_field : Room 11 _ := hr.mono (by decide)
    refine ⟨_, pss_cons (ps_set (i := 2) sc_read_fill.nd rfl (Or.inl rfl) (pe_meth0 (pv 0) T.kTokens.cl T.kTokens_peek.me G_Tokens_peek hr_Tokens_peek B_Tokens_peek .nil passX))
      (pss_cons (ps_if (pt_cmpR op_ne (pe_fld (pv 2) rfl) pe_str (nomark _))
        (pss_one (ps_ret (pe_call G_read_field hr_read_field rfl T.k_read_field.gl kp_read_field B_read_field .nil passX (pa_cons (pv 0) pa_nil))))
        pss_nil)
      (pss_cons (ps_if (pt_val (pe_callB call_isi (by rfl) T.b_isinstance (by decide +kernel) (pa_cons (pv 1) (pa_cons (pe_glob (v := .ref d.cPlain) rfl T.kPlain.gl rfl) pa_nil))))
        (pss_one (ps_raiseLow rfl T.xMisread hr takesX (pa_cons (pgi m_CHANGED_OVER_PLAIN) (pa_cons (pe_fld (pv 2) rfl) pa_nil))))
        pss_nil)
      (pss_cons (ps_expr (pe_meth0 (pv 0) T.kTokens.cl T.kTokens_take.me G_Tokens_take hr_Tokens_take B_Tokens_take .nil passX))
      (pss_one (ps_ret pe_non))))), ?_⟩
    refine ⟨_, rfl, R, dxR, _, rfl, hR, tk_no (by decide +kernel), R, C, bs, t0, e, s, rfl, sz, bz, hT, ?_⟩
    by_cases c4 : 4 ≤ kindOf s
    · rw [if_pos c4]
      rw [fill_not (kind_ne c4)] at k
      exact k
    · rw [if_neg c4]
      intro H1 A tok r es kp hAh
      subst es
      obtain ⟨xR, xC, dxA, c, q, hR1, hC1, lq, hA, rel, alt⟩ := _root_.id hAh
      have hT1 := hAh.at_
      have hf1 := hf.keep2 hT kp
      refine ⟨_, rfl, A, d.cToken, dxA, _, _, rfl, hA, T.kToken.cl, T.kToken.no.1, look_at _ _ _ 0 rfl (by decide +kernel), rfl, _, rfl, ?_⟩
      rw [str_cc, dec_vS]
      have ew := rel_word (r := r) rel (wOk.ne cc_ok) (wOk.all cc_ok)
      unfold fillAt at k
      by_cases c1 : c = ascii "counterchanged"
      · rw [decide_eq_true c1] at ew ⊢
        rw [if_pos ew] at k
        refine iteF ?_
        obtain ⟨ty, g1, g2⟩ := isPlain T hf1
        refine ⟨_, rfl, _, _, ty, _, _, rfl, ClsV.own _, g1, g2, _, rfl, ?_⟩
        cases ht : f.two.isSome with
        | true =>
          rw [if_pos ht] at k
          refine iteF ?_
          refine ⟨_, rfl, R, xR, _, rfl, hR1, tk_no (by decide +kernel), R, C, bs, t0, e, tok :: r, rfl, sz, bz, hT1, ?_⟩
          rw [if_neg c4]
          intro H2 A2 dxA2 c2 tok2 r2 es2 kp2 hA2 rel2 nx2 en2 kd2 _
          injection es2 with es2 es3
          subst es2 es3
          have k0 : tok.kind = 0 := (isWord_of.mp ew).1
          exact k .non H2 (kp.trans kp2) (nx2 (by omega)) rfl
        | false =>
          rw [if_neg (by rw [ht]; exact Bool.false_ne_true)] at k
          refine iteT ?_
          exact ⟨_, rfl, A, d.cToken, dxA, _, _, rfl, hA, T.kToken.cl, T.kToken.no.2.1, look_at _ _ _ 1 rfl (by decide +kernel), _, _, rfl, fun z hz => k z _ upd_same⟩
      · rw [decide_eq_false c1] at ew ⊢
        rw [if_neg (by rw [ew]; exact Bool.false_ne_true)] at k
        refine iteT ?_
        refine ⟨_, rfl, R, C, _, bs, t0, e, _, _, rfl, sz, bz, hT1, ⟨rfl, rfl⟩, ?_⟩
        cases e2 : fieldAt (tok :: r) with
        | error f2 => rw [e2] at k; exact k
        | ok x =>
        rw [e2] at k
        intro v2 H2 kp2 hT2 rv
        exact k _ H2 (kp.trans kp2) hT2 (RField.mv rv (hT1.mv kp))
theorem sc_take_size : FnScope ["tokens"] ["tokens"] (defScope s_take_size) := ⟨rfl, rfl, rfl, by decide +kernel, rfl, by decide +kernel, by decide +kernel⟩
theorem ok_take_size (T : Txt K mg d) : OkD P w K mg base (L2.CX P w) 8 d.f_take_size ["tokens"] (spT d (pre0T sizeM) RNat) := by
  obtain ⟨fd, F, B⟩ := T.k_take_size.ex
  obtain ⟨⟨fd_Tokens_peek, G_Tokens_peek, B_Tokens_peek⟩, kp_Tokens_peek⟩ := ok_Tokens_peek (P := P) (w := w) (base := base) T
  obtain ⟨fd_take_name, G_take_name, B_take_name, ⟨ds_take_name, V1_take_name, B1_take_name⟩, kp_take_name⟩ := ok_take_name (P := P) (w := w) (base := base) T
  obtain ⟨c_USUAL_SIZE, m_USUAL_SIZE⟩ := T.nUSUAL_SIZE
  obtain ⟨a_SIZES, m_SIZES, q_SIZES⟩ := T.tSIZES
  obtain ⟨c_FIRST_SIZE, m_FIRST_SIZE⟩ := T.nFIRST_SIZE
  refine ⟨⟨fd, F.okX sc_take_size (fun vs H Q E h => ?_) (fun cdv A outer s H vs Q E hr h => ?_), B⟩, F.kp⟩
  · obtain ⟨R, C, us, bs, t0, e, s, par, rfl, _, _, _, ⟨rfl, _⟩, _⟩ := h
    rfl
  · obtain ⟨R, C, us, bs, t0, e, s, par, rfl, sz, bz, hT, ⟨rfl, rfl⟩, k⟩ := h
    obtain ⟨dxR, av, hR⟩ := hT.hR
    have hr_Tokens_peek : Room 4 _ := hr.mono (by decide)
    have hr_take_name : Room 7 _ := hr.mono (by decide)
    refine ⟨_, pss_cons (ps_if (pt_cmpR op_in_seq (pe_fld (pe_meth0 (pv 0) T.kTokens.cl T.kTokens_peek.me G_Tokens_peek hr_Tokens_peek B_Tokens_peek .nil passX) rfl) (pe_glob (v := .ref a_SIZES) rfl m_SIZES rfl) (by rfl))
        (pss_one (ps_ret (pe_op op_add (pe_call G_take_name hr_take_name rfl T.k_take_name.gl kp_take_name B1_take_name V1_take_name passX (pa_cons (pv 0) (pa_cons (pe_callTy call_list_of (by rfl) T.b_list (by decide +kernel) (pa_cons (pe_glob (v := .ref a_SIZES) rfl m_SIZES rfl) pa_nil)) pa_nil))) (pgi m_FIRST_SIZE))))
        pss_nil)
      (pss_one (ps_ret (pgi m_USUAL_SIZE))), ?_⟩
    refine ⟨_, rfl, R, dxR, _, rfl, hR, tk_no (by decide +kernel), R, C, bs, t0, e, s, rfl, sz, bz, hT, ?_⟩
    unfold sizeM at k
    by_cases c4 : 4 ≤ kindOf s
    · rw [if_pos c4] at k ⊢
      exact k
    · rw [if_neg c4] at k ⊢
      intro H1 A tok r es kp hAh
      subst es
      obtain ⟨xR, xC, dxA, c, q, hR1, hC1, lq, hA, rel, alt⟩ := _root_.id hAh
      refine ⟨A, d.cToken, dxA, _, _, rfl, hA, T.kToken.cl, T.kToken.no.1, look_at _ _ _ 0 rfl (by decide +kernel), _, _, rfl, .inr (tup_vS q_SIZES wn_siz _), rfl, all_flat _, _, rfl, ?_⟩
      rw [if_neg Bool.false_ne_true, inV_vS, mem_tok pz_siz rfl nm_all.2.2.2.2.2.2.2.2.1 rel (hT.word bz)]
      unfold sizeAt at k
      rw [size_look (hT.word bz)] at k
      cases e1 : look NSIZ (tok :: r) with
      | none =>
        rw [e1] at k
        refine iteF ?_
        exact k _ H1 kp hAh.at_ rfl
      | some j =>
        rw [e1] at k
        refine iteT ?_
        refine ⟨_, rfl, _, _, rfl, .inr (q_SIZES _), fun l nl => ?_⟩
        dsimp only [tNil]
        refine name_give sz bz hAh.at_ nl wn_siz nm_all.2.2.2.2.2.2.2.2.1 tb_siz e_str (by decide) ?_
        rw [sin_plain (by decide), eat_look e1]
        intro v H' kp2 hT2 rv
        cases rv
        exact ⟨_, _, rfl, rfl, k (vN (j + 1)) H' (kp.trans kp2) hT2 rfl⟩
theorem str_in : ("in" : Str) = strOf (ascii "in") := by decide +kernel
theorem str_inb : ("in " : Str) = strOf (ascii "in ") := by decide +kernel
theorem in_ok : wOk "in" = true := by decide +kernel
theorem sc_take_manner : FnScope ["tokens"] ["tokens"] (defScope s_take_manner) := ⟨rfl, rfl, rfl, by decide +kernel, rfl, by decide +kernel, by decide +kernel⟩
theorem ok_take_manner (T : Txt K mg d) : OkD P w K mg base (L2.CX P w) 8 d.f_take_manner ["tokens"] (spT d (pre0T manM) RNat) := by
  obtain ⟨fd, F, B⟩ := T.k_take_manner.ex
  obtain ⟨⟨fd_pass_word_blazons, G_pass_word_blazons, B_pass_word_blazons⟩, kp_pass_word_blazons⟩ := ok_pass_word_blazons (P := P) (w := w) (base := base) T
  obtain ⟨fd_take_name, G_take_name, B_take_name, ⟨ds_take_name, V1_take_name, B1_take_name⟩, kp_take_name⟩ := ok_take_name (P := P) (w := w) (base := base) T
  obtain ⟨c_BY_ROWS, m_BY_ROWS⟩ := T.nBY_ROWS
  obtain ⟨a_MANNERS, m_MANNERS, q_MANNERS⟩ := T.tMANNERS
  refine ⟨⟨fd, F.okX sc_take_manner (fun vs H Q E h => ?_) (fun cdv A outer s H vs Q E hr h => ?_), B⟩, F.kp⟩
  · obtain ⟨R, C, us, bs, t0, e, s, par, rfl, _, _, _, ⟨rfl, _⟩, _⟩ := h
    rfl
  · obtain ⟨R, C, us, bs, t0, e, s, par, rfl, sz, bz, hT, ⟨rfl, rfl⟩, k⟩ := h
    have hr_pass_word_blazons : Room 6 _ := hr.mono (by decide)
    have hr_take_name : Room 7 _ := hr.mono (by decide)
    refine ⟨_, pss_cons (ps_if (pt_val (pe_call G_pass_word_blazons hr_pass_word_blazons rfl T.k_pass_word_blazons.gl kp_pass_word_blazons B_pass_word_blazons .nil passX (pa_cons (pv 0) (pa_cons pe_str pa_nil))))
        (pss_one (ps_ret (pe_call G_take_name hr_take_name rfl T.k_take_name.gl kp_take_name B_take_name .nil passX (pa_cons (pv 0) (pa_cons (pe_callTy call_list_of (by rfl) T.b_list (by decide +kernel) (pa_cons (pe_glob (v := .ref a_MANNERS) rfl m_MANNERS rfl) pa_nil)) (pa_cons pe_str pa_nil))))))
        pss_nil)
      (pss_one (ps_ret (pgi m_BY_ROWS))), ?_⟩
    refine ⟨_, rfl, R, C, _, bs, t0, e, s, _, rfl, sz, bz, hT, ⟨"in", by rw [str_in]; rfl, in_ok, rfl⟩, ?_⟩
    unfold passM
    unfold manM at k
    by_cases c4 : 4 ≤ kindOf s
    · rw [if_pos c4] at k ⊢
      exact k
    · rw [if_neg c4] at k ⊢
      by_cases c1 : isWord s "in" = true
      · rw [if_pos c1] at k ⊢
        intro v1 H1 kp1 hT1 rv
        cases rv
        refine ⟨_, rfl, ?_⟩
        refine iteT ?_
        refine ⟨_, rfl, _, _, rfl, .inr (q_MANNERS _), fun l nl => ?_⟩
        refine name_give (a := ascii "in ") sz bz hT1 nl wn_man nm_all.2.2.2.2.2.2.2.1 tb_man (by rw [str_inb]) (by decide +kernel) ?_
        exact GiveT.up kp1 (fun _ _ _ _ _ z => z) k
      · rw [if_neg c1] at k ⊢
        intro v1 H1 kp1 hT1 rv
        cases rv
        refine ⟨_, rfl, ?_⟩
        refine iteF ?_
        exact k _ H1 kp1 hT1 rfl
theorem sc_read_ordinary : FnScope ["tokens", "field", "figure", "line"] ["tokens", "field"] (defScope s_read_ordinary) := ⟨rfl, rfl, rfl, by decide +kernel, rfl, by decide +kernel, by decide +kernel⟩
theorem ok_read_ordinary (T : Txt K mg d) : OkD P w K mg base (L2.CX P w) 13 d.f_read_ordinary ["tokens", "field"] (spT d (preFl d ordM) (RLayer d)) := by
  obtain ⟨fd, F, B⟩ := T.k_read_ordinary.ex
  obtain ⟨fd_take_name, G_take_name, B_take_name, ⟨ds_take_name, V1_take_name, B1_take_name⟩, kp_take_name⟩ := ok_take_name (P := P) (w := w) (base := base) T
  obtain ⟨⟨fd_take_line, G_take_line, B_take_line⟩, kp_take_line⟩ := ok_take_line (P := P) (w := w) (base := base) T
  obtain ⟨⟨fd_Ordinary, G_Ordinary, B_Ordinary⟩, kp_Ordinary⟩ := ok_Ordinary_init (P := P) (w := w) (base := base) T
  obtain ⟨⟨fd_read_fill, G_read_fill, B_read_fill⟩, kp_read_fill⟩ := ok_read_fill (P := P) (w := w) (base := base) T
  obtain ⟨a_ORDINARIES, m_ORDINARIES, q_ORDINARIES⟩ := T.tORDINARIES
  refine ⟨⟨fd, F.okX sc_read_ordinary (fun vs H Q E h => ?_) (fun cdv A outer s H vs Q E hr h => ?_), B⟩, F.kp⟩
  · obtain ⟨R, C, us, bs, t0, e, s, par, rfl, _, _, _, ⟨fv, f, H0, rfl, _⟩, _⟩ := h
    rfl
  · obtain ⟨R, C, us, bs, t0, e, s, par, rfl, sz, bz, hT, ⟨fv, f, H0, rfl, hf, rfl⟩, k⟩ := h
    have hr_take_name : Room 7 _ := hr.mono (by decide)
    have hr_take_line : Room 8 _ := hr.mono (by decide)
    have hr_Ordinary : Room 2 _ := hr.mono (by decide)
    have hr_read_fill : Room 12 _ := hr.mono (by decide)
    refine ⟨_, pss_cons (ps_set (i := 2) sc_read_ordinary.nd rfl (Or.inl rfl) (pe_call G_take_name hr_take_name rfl T.k_take_name.gl kp_take_name B1_take_name V1_take_name passX (pa_cons (pv 0) (pa_cons (pe_callTy call_list_of (by rfl) T.b_list (by decide +kernel) (pa_cons (pe_glob (v := .ref a_ORDINARIES) rfl m_ORDINARIES rfl) pa_nil)) pa_nil))))
      (pss_cons (ps_set (i := 3) sc_read_ordinary.nd rfl (Or.inl rfl) (pe_call G_take_line hr_take_line rfl T.k_take_line.gl kp_take_line B_take_line .nil passX (pa_cons (pv 0) pa_nil)))
      (pss_one (ps_ret (pe_make T.kOrdinary.mak G_Ordinary hr_Ordinary rfl T.kOrdinary.gl B_Ordinary .nil pass0 (pa_cons (pv 2) (pa_cons (pv 3) (pa_cons (pe_call G_read_fill hr_read_fill rfl T.k_read_fill.gl kp_read_fill B_read_fill .nil passX (pa_cons (pv 0) (pa_cons (pv 1) pa_nil))) pa_nil))))))), ?_⟩
    rw [ord_is] at k
    refine ⟨_, rfl, _, _, rfl, .inr (q_ORDINARIES _), fun l nl => ?_⟩
    dsimp only [tNil]
    refine name_give sz bz hT nl wn_ord nm_all.2.2.2.2.1 tb_ord e_str (by decide) ?_
    cases e1 : mSin ORDWORDS 4 s with
    | error g => rw [e1] at k; exact k
    | ok y =>
    rw [e1] at k
    dsimp only at k
    unfold ordX at k
    intro v1 H1 kp1 hT1 rv
    cases rv
    refine ⟨_, rfl, R, C, _, bs, t0, e, _, _, rfl, sz, bz, hT1, ⟨rfl, rfl⟩, ?_⟩
    unfold lineM
    by_cases c4 : 4 ≤ kindOf y.2
    · rw [if_pos c4]
      rw [line_not (kind_ne c4), fill_not (kind_ne c4)] at k
      exact k
    · rw [if_neg c4]
      intro v2 H2 kp2 hT2 rv
      cases rv
      have k2 := kp1.trans kp2
      refine ⟨_, rfl, _, rfl, _, rfl, _, rfl, R, C, _, bs, t0, e, _, _, rfl, sz, bz, hT2, ⟨fv, f, H0, rfl, hf.keep2 hT k2, rfl⟩, ?_⟩
      cases e3 : fillAt f (lineAt y.2).2 with
      | error g => rw [e3] at k; exact k
      | ok g =>
      rw [e3] at k
      dsimp only at k
      intro v3 H3 kp3 hT3 rv
      refine made rfl fun z dz H4 nz s4 hz => ?_
      have kk := k2.trans kp3
      exact k _ H4 (kk.trans (Keep2.of s4)) (hT3.same s4) ⟨v3, ⟨z, dz, rfl, (hT3.mv (H' := H4) kk).nw z nz, hz⟩, RFill.mv rv ((hT2.mv k2).same s4)⟩
def preGrp (K : PySem.W.Frag) (d : Ad) (H : Hp) (us : List V) (par : Pt Sh.Layer) : Prop := ∃ (n : Nat) (p : Addr) (L : List (List UInt8)) (v : V) (f : Sh.Field) (H0 : Hp), us = [vN n, .ref p, v] ∧ SqL K H p (L.map vS) ∧ nmOk L = true ∧ tabOk L L [] 99 = true ∧ L.length ≤ 99 ∧ RField d H0 H v f ∧ par = groupAt f n L
theorem sc_read_group : FnScope ["tokens", "many", "names", "field", "size", "charge", "manner"] ["tokens", "many", "names", "field"] (defScope s_read_group) := ⟨rfl, rfl, rfl, by decide +kernel, rfl, by decide +kernel, by decide +kernel⟩
theorem ok_read_group (T : Txt K mg d) : OkD P w K mg base (L2.CX P w) 13 d.f_read_group ["tokens", "many", "names", "field"] (spT d (preGrp K d) (RLayer d)) := by
  obtain ⟨fd, F, B⟩ := T.k_read_group.ex
  obtain ⟨⟨fd_take_size, G_take_size, B_take_size⟩, kp_take_size⟩ := ok_take_size (P := P) (w := w) (base := base) T
  obtain ⟨fd_take_name, G_take_name, B_take_name, ⟨ds_take_name, V1_take_name, B1_take_name⟩, kp_take_name⟩ := ok_take_name (P := P) (w := w) (base := base) T
  obtain ⟨⟨fd_take_manner, G_take_manner, B_take_manner⟩, kp_take_manner⟩ := ok_take_manner (P := P) (w := w) (base := base) T
  obtain ⟨⟨fd_Group, G_Group, B_Group⟩, kp_Group⟩ := ok_Group_init (P := P) (w := w) (base := base) T
  obtain ⟨⟨fd_read_fill, G_read_fill, B_read_fill⟩, kp_read_fill⟩ := ok_read_fill (P := P) (w := w) (base := base) T
  refine ⟨⟨fd, F.okX sc_read_group (fun vs H Q E h => ?_) (fun cdv A outer s H vs Q E hr h => ?_), B⟩, F.kp⟩
  · obtain ⟨R, C, us, bs, t0, e, s, par, rfl, _, _, _, ⟨n, p, L, fv, f, H0, rfl, _⟩, _⟩ := h
    rfl
  · obtain ⟨R, C, us, bs, t0, e, s, par, rfl, sz, bz, hT, ⟨n, p, L, fv, f, H0, rfl, hS, hN, tb, hL, hf, rfl⟩, k⟩ := h
    have hr_take_size : Room 8 _ := hr.mono (by decide)
    have hr_take_name : Room 7 _ := hr.mono (by decide)
    have hr_take_manner : Room 8 _ := hr.mono (by decide)
    have hr_Group : Room 2 _ := hr.mono (by decide)
    have hr_read_fill : Room 12 _ := hr.mono (by decide)
    refine ⟨_, pss_cons (ps_set (i := 4) sc_read_group.nd rfl (Or.inl rfl) (pe_call G_take_size hr_take_size rfl T.k_take_size.gl kp_take_size B_take_size .nil passX (pa_cons (pv 0) pa_nil)))
      (pss_cons (ps_set (i := 5) sc_read_group.nd rfl (Or.inl rfl) (pe_call G_take_name hr_take_name rfl T.k_take_name.gl kp_take_name B1_take_name V1_take_name passX (pa_cons (pv 0) (pa_cons (pv 2) pa_nil))))
      (pss_cons (ps_set (i := 6) sc_read_group.nd rfl (Or.inl rfl) (pe_call G_take_manner hr_take_manner rfl T.k_take_manner.gl kp_take_manner B_take_manner .nil passX (pa_cons (pv 0) pa_nil)))
      (pss_one (ps_ret (pe_make T.kGroup.mak G_Group hr_Group rfl T.kGroup.gl B_Group .nil pass0 (pa_cons (pv 5) (pa_cons (pv 1) (pa_cons (pv 6) (pa_cons (pv 4) (pa_cons (pe_call G_read_fill hr_read_fill rfl T.k_read_fill.gl kp_read_fill B_read_fill .nil passX (pa_cons (pv 0) (pa_cons (pv 3) pa_nil))) pa_nil)))))))))), ?_⟩
    rw [group_is] at k
    refine ⟨_, rfl, R, C, _, bs, t0, e, s, _, rfl, sz, bz, hT, ⟨rfl, rfl⟩, ?_⟩
    unfold sizeM
    by_cases c4 : 4 ≤ kindOf s
    · rw [if_pos c4]
      rw [size_not (kind_ne c4), eat_not (kind_ne c4)] at k
      exact k
    · rw [if_neg c4]
      intro v1 H1 kp1 hT1 rv
      cases rv
      have hS1 := hT.seq hS kp1
      refine ⟨_, rfl, _, rfl, R, C, _, bs, t0, e, _, _, rfl, sz, bz, hT1, ⟨p, L, [], by rw [e_str]; rfl, hS1, hN, by decide, rfl⟩, ?_⟩
      rw [name_tab tb (hT1.word bz), sin_plain hL]
      cases e2 : eat L (sizeAt s).2 with
      | error g => rw [e2] at k; exact k
      | ok c =>
      rw [e2] at k
      dsimp only at k
      intro v2 H2 kp2 hT2 rv
      cases rv
      refine ⟨_, rfl, R, C, _, bs, t0, e, _, _, rfl, sz, bz, hT2, ⟨rfl, rfl⟩, ?_⟩
      cases e3 : manM c.2 with
      | error g => rw [e3] at k; exact k
      | ok m =>
      rw [e3] at k
      dsimp only at k
      unfold grpX at k
      intro v3 H3 kp3 hT3 rv
      cases rv
      have k3 := (kp1.trans kp2).trans kp3
      refine ⟨_, rfl, _, rfl, _, rfl, _, rfl, _, rfl, _, rfl, R, C, _, bs, t0, e, _, _, rfl, sz, bz, hT3, ⟨fv, f, H0, rfl, hf.keep2 hT k3, rfl⟩, ?_⟩
      cases e4 : fillAt f m.2 with
      | error g => rw [e4] at k; exact k
      | ok g =>
      rw [e4] at k
      dsimp only at k
      intro v4 H4 kp4 hT4 rv
      refine made rfl fun z dz H5 nz s5 hz => ?_
      have kk := k3.trans kp4
      exact k _ H5 (kk.trans (Keep2.of s5)) (hT4.same s5) ⟨v4, ⟨z, dz, rfl, (hT4.mv (H' := H5) kk).nw z nz, hz⟩, RFill.mv rv ((hT3.mv k3).same s5)⟩
end
end HC


namespace HC
open PySem PySem.Spec PyProof.Rows L2
open ShBlazon (isLetter isDigit isBlank oneToken tokensFrom tokensOf valueOf Token kindOf place wordOf numOf wanted look eat isWord eatWord ascii sinister lineAt twoAt piecesAt partedAt variedAt fieldAt fillAt mannerAt sizeAt groupAt ordAt layerAt layersAt vowel TINCTWORDS LINEWORDS WAYWORDS VARYWORDS ORDWORDS CHARGEWORDS SEVERAL MANNERWORDS)
section
variable {P : Program} {w : World} {K : PySem.W.Frag} {mg : Str → Option Value} {base : Heap} {d : Ad}
def spArticle : Sp := fun vs H Q _ => ∃ (b : List UInt8), vs = [vS b] ∧ b ≠ [] ∧ b.length ≤ 5000 ∧ Q (vS (if vowel b = true then ascii "an" else ascii "a")) H
theorem vow_tb : ∀ n : Fin 256, decide (n.val ∈ ("aeiou" : Str).cps.toList) = (ascii "aeiou").contains (UInt8.ofNat n.val) := by decide +kernel
theorem vow_is (c : UInt8) (r : List UInt8) : decide (c.toNat ∈ ("aeiou" : Str).cps.toList) = vowel (c :: r) := by
  have := vow_tb ⟨c.toNat, c.toNat_lt⟩
  rw [this]
  show (ascii "aeiou").contains (UInt8.ofNat c.toNat) = _
  rw [UInt8.ofNat_toNat]
  rfl
theorem sc_article_before : FnScope ["word"] ["word"] (defScope s_article_before) := ⟨rfl, rfl, rfl, by decide +kernel, rfl, by decide +kernel, by decide +kernel⟩
theorem ok_article_before (T : Txt K mg d) : OkD P w K mg base CX0 1 d.f_article_before ["word"] (spArticle) := by
  obtain ⟨fd, F, B⟩ := T.k_article_before.ex
  refine ⟨⟨fd, F.ok sc_article_before (fun vs H Q E h => ?_) (fun cdv A outer s H vs Q E hr h => ?_), B⟩, F.kp⟩
  · obtain ⟨b, rfl, _⟩ := h
    rfl
  · obtain ⟨b, rfl, hb, hl, k⟩ := h
    refine ⟨_, pss_one (ps_ret (pe_ifExp (pt_cmpR op_in_sign (pe_ix ix_str (pv 0) pe_int (fun _ _ => rfl)) pe_str (by rfl)) pe_str pe_str)), ?_⟩
    cases b with
    | nil => exact absurd rfl hb
    | cons c r =>
    refine ⟨_, rfl, _, _, c.toNat, rfl, rfl, (by rw [strOf_len]; exact Nat.le_trans hl (by decide)), atI_nat (j := 0) rfl, c.toNat, _, rfl, rfl, _, rfl, ?_⟩
    dsimp only
    rw [vow_is c r]
    by_cases v : vowel (c :: r) = true
    · rw [if_pos v] at k ⊢
      exact k
    · rw [if_neg v] at k ⊢
      exact k
def spSeveral : Sp := fun vs H Q _ => ∃ (b : List UInt8), vs = [vS b] ∧ b.length ≤ 1000 ∧ Q (vS (b ++ [115])) H
theorem sc_several : FnScope ["charge"] ["charge"] (defScope s_several) := ⟨rfl, rfl, rfl, by decide +kernel, rfl, by decide +kernel, by decide +kernel⟩
theorem ok_several (T : Txt K mg d) : OkD P w K mg base CX0 1 d.f_several ["charge"] (spSeveral) := by
  obtain ⟨fd, F, B⟩ := T.k_several.ex
  refine ⟨⟨fd, F.ok sc_several (fun vs H Q E h => ?_) (fun cdv A outer s H vs Q E hr h => ?_), B⟩, F.kp⟩
  · obtain ⟨b, rfl, _⟩ := h
    rfl
  · obtain ⟨b, rfl, hl, k⟩ := h
    refine ⟨_, pss_one (ps_ret (pe_op op_add_str (pv 0) pe_str)), ?_⟩
    refine ⟨_, rfl, _, _, rfl, rfl, ?_, ?_⟩
    · rw [strOf_len]
      have h2 : ("s" : Str).length = 1 := by decide +kernel
      have h3 : (16777216 : Nat) = sizeLine := rfl
      rw [h2]
      omega
    · have e : ("s" : Str) = strOf [115] := by decide +kernel
      rw [e, strOf_app]
      exact k
/-! ### check_article -/
def spCheck (d : Ad) : Sp := fun vs H Q E => ∃ (A B xA xB : Addr) (c1 c2 : List UInt8) (p1 p2 : Nat), vs = [.ref A, .ref B] ∧ H A = some (tokO d xA c1 p1) ∧ H B = some (tokO d xB c2 p2) ∧ c2 ≠ [] ∧ c2.length ≤ 4096 ∧
  if c2 ∉ NSIZ ∧ c2 ∉ CHARGEWORDS then ErrM d E 3 p2 else if c1 ≠ (if vowel c2 = true then ascii "an" else ascii "a") then ErrM d E 7 p1 else Q .non H
theorem sc_check_article : FnScope ["article", "token"] ["article", "token"] (defScope s_check_article) := ⟨rfl, rfl, rfl, by decide +kernel, rfl, by decide +kernel, by decide +kernel⟩
theorem ok_check_article (T : Txt K mg d) : OkD P w K mg base (L2.CX P w) 3 d.f_check_article ["article", "token"] (spCheck d) := by
  obtain ⟨fd, F, B⟩ := T.k_check_article.ex
  obtain ⟨⟨fd_article_before, G_article_before, B_article_before⟩, kp_article_before⟩ := ok_article_before (P := P) (w := w) (base := base) T
  obtain ⟨a_SIZES, m_SIZES, q_SIZES⟩ := T.tSIZES
  obtain ⟨a_CHARGES, m_CHARGES, q_CHARGES⟩ := T.tCHARGES
  obtain ⟨c_OTHER_TOKEN, m_OTHER_TOKEN⟩ := T.nOTHER_TOKEN
  obtain ⟨c_WRONG_ARTICLE, m_WRONG_ARTICLE⟩ := T.nWRONG_ARTICLE
  refine ⟨⟨fd, F.okX sc_check_article (fun vs H Q E h => ?_) (fun cdv A outer s H vs Q E hr h => ?_), B⟩, F.kp⟩
  · obtain ⟨A, B', xA, xB, c1, c2, p1, p2, rfl, _⟩ := h
    rfl
  · obtain ⟨A, B1, dxA, dxB1, c1, c2, p1, p2, rfl, hA, hB1, hn, hl, k⟩ := h
    have hr_article_before : Room 1 _ := hr.mono (by decide)
    refine ⟨_, C8.pss_cut (ps_if (PW.pt (pw_and (pt_cmpR op_notIn_seq (pe_fld (pv 1) rfl) (pe_glob (v := .ref a_SIZES) rfl m_SIZES rfl) (by rfl)) (pw_and1 (pt_cmpR op_notIn_seq (pe_fld (pv 1) rfl) (pe_glob (v := .ref a_CHARGES) rfl m_CHARGES rfl) (by rfl)))))
        (pss_one (ps_raiseLow rfl T.xMisread hr takesX (pa_cons (pgi m_OTHER_TOKEN) (pa_cons (pe_fld (pv 1) rfl) pa_nil))))
        pss_nil)
      (pss_one (ps_if (pt_cmpR op_ne (pe_fld (pv 0) rfl) (pe_call G_article_before hr_article_before rfl T.k_article_before.gl kp_article_before B_article_before .nil pass0 (pa_cons (pe_fld (pv 1) rfl) pa_nil)) (nomark _))
        (pss_one (ps_raiseLow rfl T.xMisread hr takesX (pa_cons (pgi m_WRONG_ARTICLE) (pa_cons (pe_fld (pv 0) rfl) pa_nil))))
        pss_nil)), ?_⟩
    by_cases m1 : c2 ∈ NSIZ
    · refine ⟨fun σ' H' => σ' = [some (.ref A), some (.ref B1)] ∧ H' = H, ?_, ?_⟩
      · refine ⟨_, rfl, B1, d.cToken, dxB1, _, _, rfl, hB1, T.kToken.cl, T.kToken.no.1, look_at _ _ _ 0 rfl (by decide +kernel), _, _, rfl, .inr (tup_vS q_SIZES wn_siz _), rfl, all_flat _, _, rfl, ?_⟩
        rw [if_pos rfl, inV_vS, decide_eq_true m1]
        exact iteF (iteF ⟨rfl, rfl⟩)
      · rintro σ' H' ⟨rfl, rfl⟩
        rw [if_neg (fun z => z.1 m1)] at k
        refine ⟨_, rfl, A, d.cToken, dxA, _, _, rfl, hA, T.kToken.cl, T.kToken.no.1, look_at _ _ _ 0 rfl (by decide +kernel), _, rfl, B1, d.cToken, dxB1, _, _, rfl, hB1, T.kToken.cl, T.kToken.no.1, look_at _ _ _ 0 rfl (by decide +kernel), _, rfl, hn, by omega, rfl, _, rfl, ?_⟩
        rw [dec_vS]
        by_cases c : c1 = (if vowel c2 = true then ascii "an" else ascii "a")
        · rw [decide_eq_true c]
          rw [if_neg (fun z => z c)] at k
          exact iteF k
        · rw [decide_eq_false c]
          rw [if_pos c] at k
          refine iteT ?_
          exact ⟨_, rfl, A, d.cToken, dxA, _, _, rfl, hA, T.kToken.cl, T.kToken.no.2.1, look_at _ _ _ 1 rfl (by decide +kernel), _, _, rfl, fun z hz => k z _ upd_same⟩
    · by_cases m2 : c2 ∈ CHARGEWORDS
      · refine ⟨fun σ' H' => σ' = [some (.ref A), some (.ref B1)] ∧ H' = H, ?_, ?_⟩
        · refine ⟨_, rfl, B1, d.cToken, dxB1, _, _, rfl, hB1, T.kToken.cl, T.kToken.no.1, look_at _ _ _ 0 rfl (by decide +kernel), _, _, rfl, .inr (tup_vS q_SIZES wn_siz _), rfl, all_flat _, _, rfl, ?_⟩
          rw [if_pos rfl, inV_vS, decide_eq_false m1]
          refine iteT ?_
          refine ⟨_, rfl, B1, d.cToken, dxB1, _, _, rfl, hB1, T.kToken.cl, T.kToken.no.1, look_at _ _ _ 0 rfl (by decide +kernel), _, _, rfl, .inr (tup_vS q_CHARGES wn_ch _), rfl, all_flat _, _, rfl, ?_⟩
          rw [if_pos rfl, inV_vS, decide_eq_true m2]
          exact iteF ⟨rfl, rfl⟩
        · rintro σ' H' ⟨rfl, rfl⟩
          rw [if_neg (fun z => z.2 m2)] at k
          refine ⟨_, rfl, A, d.cToken, dxA, _, _, rfl, hA, T.kToken.cl, T.kToken.no.1, look_at _ _ _ 0 rfl (by decide +kernel), _, rfl, B1, d.cToken, dxB1, _, _, rfl, hB1, T.kToken.cl, T.kToken.no.1, look_at _ _ _ 0 rfl (by decide +kernel), _, rfl, hn, by omega, rfl, _, rfl, ?_⟩
          rw [dec_vS]
          by_cases c : c1 = (if vowel c2 = true then ascii "an" else ascii "a")
          · rw [decide_eq_true c]
            rw [if_neg (fun z => z c)] at k
            exact iteF k
          · rw [decide_eq_false c]
            rw [if_pos c] at k
            refine iteT ?_
            exact ⟨_, rfl, A, d.cToken, dxA, _, _, rfl, hA, T.kToken.cl, T.kToken.no.2.1, look_at _ _ _ 1 rfl (by decide +kernel), _, _, rfl, fun z hz => k z _ upd_same⟩
      · rw [if_pos ⟨m1, m2⟩] at k
        refine ⟨fun _ _ => False, ?_, fun _ _ z => z.elim⟩
        refine ⟨_, rfl, B1, d.cToken, dxB1, _, _, rfl, hB1, T.kToken.cl, T.kToken.no.1, look_at _ _ _ 0 rfl (by decide +kernel), _, _, rfl, .inr (tup_vS q_SIZES wn_siz _), rfl, all_flat _, _, rfl, ?_⟩
        rw [if_pos rfl, inV_vS, decide_eq_false m1]
        refine iteT ?_
        refine ⟨_, rfl, B1, d.cToken, dxB1, _, _, rfl, hB1, T.kToken.cl, T.kToken.no.1, look_at _ _ _ 0 rfl (by decide +kernel), _, _, rfl, .inr (tup_vS q_CHARGES wn_ch _), rfl, all_flat _, _, rfl, ?_⟩
        rw [if_pos rfl, inV_vS, decide_eq_false m2]
        refine iteT ?_
        exact ⟨_, rfl, B1, d.cToken, dxB1, _, _, rfl, hB1, T.kToken.cl, T.kToken.no.2.1, look_at _ _ _ 1 rfl (by decide +kernel), _, _, rfl, fun z hz => k z _ upd_same⟩
/-! ### layers -/
theorem ord_vow : ∀ j : Fin 13, vowel (ORDWORDS.getD j.val []) = false := by decide +kernel
theorem siz_ord : ∀ j : Fin 4, NSIZ.getD j.val [] ≠ [] → ORDWORDS.findIdx? (fun x => x == NSIZ.getD j.val []) = none := by decide +kernel
theorem ch_ord : ∀ j : Fin 16, ORDWORDS.findIdx? (fun x => x == CHARGEWORDS.getD j.val []) = none := by decide +kernel
theorem a_ok : wOk "a" = true := by decide +kernel
theorem an_ok : wOk "an" = true := by decide +kernel
theorem a_an : ascii "a" ≠ ascii "an" := by decide +kernel
theorem str_a : ("a" : Str) = strOf (ascii "a") := by decide +kernel
theorem str_an : ("an" : Str) = strOf (ascii "an") := by decide +kernel
theorem size_some {s : Tks} (hs : WordOk s) : (look ShBlazon.SIZES s).isSome = (look NSIZ s).isSome := by
  rw [size_look hs]
  cases look NSIZ s <;> rfl
def spArt (d : Ad) : Sp := fun vs H Q E => ∃ (R C : Addr) (bs : List UInt8) (t0 e : Nat) (s : Tks) (v : V) (f : Sh.Field) (H0 : Hp), vs = [.ref R, v] ∧ bs.length ≤ 4096 ∧ Bz bs t0 e ∧ TkAt d bs t0 e R C H s ∧ RField d H0 H v f ∧ (isWord s "a" || isWord s "an") = true ∧ GiveT d bs t0 e R C (RLayer d) H Q E (layerAt f s)
theorem single_not {t : Tks} (h : kindOf t ≠ 0) (an : Bool) : ShBlazon.single an t = false := by
  unfold ShBlazon.single
  rw [look_not h, look_not h, look_not h]
  cases an <;> rfl
theorem n_cct : ("content" : Str) ≠ "cursor" ∧ ("content" : Str) ≠ "text" := by decide +kernel
theorem tok_keep {bs : List UInt8} {t0 e : Nat} {R C A xA : Addr} {H H' : Hp} {c : List UInt8} {p : Nat} {s : Tks} (hA : H A = some (tokO d xA c p)) (hT : TkAt d bs t0 e R C H s) (k : Keep2 R C H H') : H' A = some (tokO d xA c p) := by
  obtain ⟨_, _, hR⟩ := hT.hR
  obtain ⟨_, _, hC⟩ := hT.hC
  exact k A _ (ne_of hA hR (ins_ne n_cct.1)) (ne_of hA hC (ins_ne n_cct.2)) hA
/-- what stands behind a or an -/
theorem layer_art {f : Sh.Field} {s t : Tks} {an : Bool} (hs : (isWord s "a" || isWord s "an") = true) (han : isWord s "an" = an) (ht : s.drop 1 = t) : layerAt f s = (if ShBlazon.single an t = false then .error (wanted t) else if vowel (wordOf t) ≠ an then .error (7, place s) else match look ORDWORDS t with
    | some o => ordAt f o (t.drop 1)
    | none => groupAt f 1 CHARGEWORDS t) := by
  subst han ht
  unfold layerAt
  rw [if_pos hs]
  rfl
theorem sc_read_behind_article : FnScope ["tokens", "field", "article", "token"] ["tokens", "field"] (defScope s_read_behind_article) := ⟨rfl, rfl, rfl, by decide +kernel, rfl, by decide +kernel, by decide +kernel⟩
theorem ok_read_behind_article (T : Txt K mg d) : OkD P w K mg base (L2.CX P w) 14 d.f_read_behind_article ["tokens", "field"] (spArt d) := by
  obtain ⟨fd, F, B⟩ := T.k_read_behind_article.ex
  obtain ⟨⟨fd_Tokens_take, G_Tokens_take, B_Tokens_take⟩, kp_Tokens_take⟩ := ok_Tokens_take (P := P) (w := w) (base := base) T
  obtain ⟨⟨fd_Tokens_peek, G_Tokens_peek, B_Tokens_peek⟩, kp_Tokens_peek⟩ := ok_Tokens_peek (P := P) (w := w) (base := base) T
  obtain ⟨⟨fd_check_article, G_check_article, B_check_article⟩, kp_check_article⟩ := ok_check_article (P := P) (w := w) (base := base) T
  obtain ⟨⟨fd_read_group, G_read_group, B_read_group⟩, kp_read_group⟩ := ok_read_group (P := P) (w := w) (base := base) T
  obtain ⟨⟨fd_read_ordinary, G_read_ordinary, B_read_ordinary⟩, kp_read_ordinary⟩ := ok_read_ordinary (P := P) (w := w) (base := base) T
  obtain ⟨a_ORDINARIES, m_ORDINARIES, q_ORDINARIES⟩ := T.tORDINARIES
  obtain ⟨a_CHARGES, m_CHARGES, q_CHARGES⟩ := T.tCHARGES
  refine ⟨⟨fd, F.okX sc_read_behind_article (fun vs H Q E h => ?_) (fun cdv A outer s H vs Q E hr h => ?_), B⟩, F.kp⟩
  · obtain ⟨R, C, bs, t0, e, s, fv, f, H0, rfl, _⟩ := h
    rfl
  · obtain ⟨R, C, bs, t0, e, s, fv, f, H0, rfl, sz, bz, hT, hf, hs, k⟩ := h
    obtain ⟨dxR, av, hR⟩ := hT.hR
    have hr_Tokens_take : Room 5 _ := hr.mono (by decide)
    have hr_Tokens_peek : Room 4 _ := hr.mono (by decide)
    have hr_check_article : Room 3 _ := hr.mono (by decide)
    have hr_read_group : Room 13 _ := hr.mono (by decide)
    have hr_read_ordinary : Room 13 _ := hr.mono (by decide)
    refine ⟨_, pss_cons (ps_set (i := 2) sc_read_behind_article.nd rfl (Or.inl rfl) (pe_meth0 (pv 0) T.kTokens.cl T.kTokens_take.me G_Tokens_take hr_Tokens_take B_Tokens_take .nil passX))
      (pss_cons (ps_set (i := 3) sc_read_behind_article.nd rfl (Or.inl rfl) (pe_meth0 (pv 0) T.kTokens.cl T.kTokens_peek.me G_Tokens_peek hr_Tokens_peek B_Tokens_peek .nil passX))
      (C8.pss_cut (ps_if (PW.pt (pw_and (pt_cmpR op_eq (pe_fld (pv 2) rfl) pe_str (nomark _)) (pw_and1 (pt_cmpR op_in_seq (pe_fld (pv 3) rfl) (pe_glob (v := .ref a_ORDINARIES) rfl m_ORDINARIES rfl) (by rfl)))))
        (pss_one (ps_ret (pe_call G_read_ordinary hr_read_ordinary rfl T.k_read_ordinary.gl kp_read_ordinary B_read_ordinary .nil passX (pa_cons (pv 0) (pa_cons (pv 1) pa_nil)))))
        pss_nil)
      (pss_cons (ps_expr (pe_call G_check_article hr_check_article rfl T.k_check_article.gl kp_check_article B_check_article .nil passX (pa_cons (pv 2) (pa_cons (pv 3) pa_nil))))
      (pss_one (ps_ret (pe_call G_read_group hr_read_group rfl T.k_read_group.gl kp_read_group B_read_group .nil passX (pa_cons (pv 0) (pa_cons pe_int (pa_cons (pe_callTy call_list_of (by rfl) T.b_list (by decide +kernel) (pa_cons (pe_glob (v := .ref a_CHARGES) rfl m_CHARGES rfl) pa_nil)) (pa_cons (pv 1) pa_nil)))))))))), ?_⟩
    refine ⟨_, rfl, R, dxR, _, rfl, hR, tk_no (by decide +kernel), R, C, bs, t0, e, s, rfl, sz, bz, hT, ?_⟩
    have hk0 : kindOf s = 0 := by
      rcases Bool.or_eq_true_iff.mp hs with z | z
      · exact (isWord_of.mp z).1
      · exact (isWord_of.mp z).1
    rw [if_neg (show ¬ 4 ≤ kindOf s by omega)]
    intro H1 A1 dxA1 c1 tok r es kp1 hA1 rel1 nx1 en1 kd1 _
    subst es
    have kt0 : tok.kind = 0 := hk0
    have hT1 := nx1 (by omega)
    have ea : isWord (tok :: r) "a" = decide (c1 = ascii "a") := rel_word rel1 (wOk.ne a_ok) (wOk.all a_ok)
    have ean : isWord (tok :: r) "an" = decide (c1 = ascii "an") := rel_word rel1 (wOk.ne an_ok) (wOk.all an_ok)
    rw [layer_art (t := r) hs ean rfl] at k
    obtain ⟨xR1, av1, hR1⟩ := hT1.hR
    refine ⟨_, rfl, R, xR1, _, rfl, hR1, tk_no (by decide +kernel), R, C, bs, t0, e, r, rfl, sz, bz, hT1, ?_⟩
    by_cases c4 : 4 ≤ kindOf r
    · rw [if_pos c4]
      rw [if_pos (single_not (kind_ne c4) _)] at k
      exact k
    · rw [if_neg c4]
      intro H2 A2 tok2 r2 es2 kp2 hAh2
      have hwo := hT1.word bz
      have hA1' := tok_keep hA1 hT1 kp2
      obtain ⟨xR2, xC2, dxA2, c2, q2, hR2, hC2, lq2, hA2, rel2, alt2⟩ := _root_.id hAh2
      have hT2 : TkAt d bs t0 e R C H2 r := by rw [es2]; exact hAh2.at_
      have k12 := kp1.trans kp2
      have hf2 := hf.keep2 hT k12
      have kd2 : tok2.kind ≤ 3 := by rcases alt2 with ⟨z, _⟩ | ⟨z, _⟩ <;> omega
      have wr : wanted r = (3, tok2.at_) := by rw [es2]; exact wanted_tok kd2
      have mo : decide (c2 ∈ NORD) = (look ORDWORDS r).isSome := by rw [es2]; exact mem_tok pz_ord rfl nm_all.2.2.2.2.1 rel2 (by rw [← es2]; exact hwo)
      have ms : decide (c2 ∈ NSIZ) = (look NSIZ r).isSome := by rw [es2]; exact mem_tok pz_siz rfl nm_all.2.2.2.2.2.2.2.2.1 rel2 (by rw [← es2]; exact hwo)
      have mc : decide (c2 ∈ CHARGEWORDS) = (look CHARGEWORDS r).isSome := by rw [es2]; exact mem_tok pz_ch rfl nm_all.2.2.2.2.2.1 rel2 (by rw [← es2]; exact hwo)
      have hc12 : c1 = ascii "a" ∨ c1 = ascii "an" := by
        rw [ea, ean] at hs
        rcases Bool.or_eq_true_iff.mp hs with z | z
        · exact .inl (of_decide_eq_true z)
        · exact .inr (of_decide_eq_true z)
      have hw2 : ∀ {L : List (List UInt8)} {j : Nat}, look L r = some j → wordOf r = c2 := fun {L j} z => by
        have z1 := (look_word z).1
        rw [es2] at z1 ⊢
        exact (rel_zero rel2 z1).symm
      refine ⟨fun σ' H' => σ' = [some (.ref R), some fv, some (.ref A1), some (.ref A2)] ∧ H' = H2 ∧ ¬ (c1 = ascii "a" ∧ (look ORDWORDS r).isSome = true), ?_, ?_⟩
      · refine ⟨_, rfl, A1, d.cToken, dxA1, _, _, rfl, hA1', T.kToken.cl, T.kToken.no.1, look_at _ _ _ 0 rfl (by decide +kernel), rfl, _, rfl, ?_⟩
        rw [str_a, dec_vS]
        by_cases b1 : c1 = ascii "a"
        · rw [decide_eq_true b1]
          refine iteT ?_
          refine ⟨_, rfl, A2, d.cToken, dxA2, _, _, rfl, hA2, T.kToken.cl, T.kToken.no.1, look_at _ _ _ 0 rfl (by decide +kernel), _, _, rfl, .inr (tup_vS q_ORDINARIES wn_ord _), rfl, all_flat _, _, rfl, ?_⟩
          rw [if_neg Bool.false_ne_true, inV_vS, mo]
          cases e1 : look ORDWORDS r with
          | some o =>
            refine iteT ?_
            have nan : decide (c1 = ascii "an") = false := decide_eq_false (by rw [b1]; exact a_an)
            have vf : vowel (wordOf r) = false := by
              obtain ⟨_, g2, g3⟩ := look_word e1
              rw [← g2]
              exact ord_vow ⟨o, g3⟩
            have sg1 : ShBlazon.single (decide (c1 = ascii "an")) r = true := by
              unfold ShBlazon.single
              rw [nan, e1]
              rfl
            rw [if_neg (by rw [sg1]; exact fun z => Bool.noConfusion z), if_neg (by rw [vf, nan]; exact fun z => z rfl), e1] at k
            dsimp only at k
            refine ⟨_, rfl, _, rfl, R, C, _, bs, t0, e, _, _, rfl, sz, bz, hT2, ⟨fv, f, H0, rfl, hf2, rfl⟩, ?_⟩
            unfold ordM
            rw [eat_look e1]
            exact GiveT.up k12 (fun _ _ _ _ ht z => RLayer.mv z (ht.mv' k12 hT2)) k
          | none =>
            refine iteF ?_
            exact ⟨rfl, rfl, fun z => by have := z.2; cases this⟩
        · rw [decide_eq_false b1]
          exact iteF (iteF ⟨rfl, rfl, fun z => b1 z.1⟩)
      · rintro σ' H' ⟨rfl, rfl, hno⟩
        refine ⟨_, rfl, _, rfl, A1, A2, dxA1, dxA2, c1, c2, _, _, rfl, hA1', hA2, ?_, rel2.len, ?_⟩
        · rcases rel2 with ⟨_, _, z, _⟩ | ⟨_, z, _⟩ | ⟨_, z⟩ | ⟨_, z⟩
          · exact z
          · exact z
          · rw [z]; intro y; cases y
          · rw [z]; intro y; cases y
        by_cases b2 : c2 ∉ NSIZ ∧ c2 ∉ CHARGEWORDS
        · rw [if_pos b2]
          rw [decide_eq_false b2.1] at ms
          rw [decide_eq_false b2.2] at mc
          have sg0 : ShBlazon.single (decide (c1 = ascii "an")) r = false := by
            unfold ShBlazon.single
            rw [size_some hwo, ← ms, ← mc]
            rcases hc12 with z | z
            · have : (look ORDWORDS r).isSome = false := by
                cases y : (look ORDWORDS r).isSome with
                | false => rfl
                | true => exact absurd ⟨z, y⟩ hno
              rw [this, Bool.and_false]
              rfl
            · rw [decide_eq_true z]
              rfl
          rw [if_pos sg0, wr] at k
          exact k
        · rw [if_neg b2]
          have sc : (look NSIZ r).isSome = true ∨ (look CHARGEWORDS r).isSome = true := by
            by_cases y1 : c2 ∈ NSIZ
            · rw [decide_eq_true y1] at ms
              exact .inl ms.symm
            · by_cases y2 : c2 ∈ CHARGEWORDS
              · rw [decide_eq_true y2] at mc
                exact .inr mc.symm
              · exact absurd ⟨y1, y2⟩ b2
          have sg1 : ShBlazon.single (decide (c1 = ascii "an")) r = true := by
            unfold ShBlazon.single
            rw [size_some hwo]
            rcases sc with z | z
            · rw [z, Bool.true_or, Bool.or_true]
            · rw [z, Bool.or_true, Bool.or_true]
          have wc : wordOf r = c2 := by
            rcases sc with z | z
            · obtain ⟨j, hj⟩ := Option.isSome_iff_exists.mp z
              exact hw2 hj
            · obtain ⟨j, hj⟩ := Option.isSome_iff_exists.mp z
              exact hw2 hj
          have nord : look ORDWORDS r = none := by
            rcases sc with z | z
            · obtain ⟨j, hj⟩ := Option.isSome_iff_exists.mp z
              obtain ⟨g1, g2, g3⟩ := look_word hj
              unfold look
              rw [if_pos g1, ← g2]
              exact siz_ord ⟨j, g3⟩ (by rw [g2]; exact (hwo g1).1)
            · obtain ⟨j, hj⟩ := Option.isSome_iff_exists.mp z
              obtain ⟨g1, g2, g3⟩ := look_word hj
              unfold look
              rw [if_pos g1, ← g2]
              exact ch_ord ⟨j, g3⟩
          rw [if_neg (by rw [sg1]; exact fun z => Bool.noConfusion z), wc, nord] at k
          dsimp only at k
          have iff : (c1 ≠ (if vowel c2 = true then ascii "an" else ascii "a")) ↔ (vowel c2 ≠ decide (c1 = ascii "an")) := by
            cases vv : vowel c2 with
            | true =>
              rw [if_pos rfl]
              constructor
              · intro z y
                exact z (of_decide_eq_true y.symm)
              · intro z y
                exact z (decide_eq_true y).symm
            | false =>
              rw [if_neg Bool.false_ne_true]
              rcases hc12 with z | z
              · rw [z, decide_eq_false a_an]
                exact ⟨fun y => absurd rfl y, fun y => absurd rfl y⟩
              · rw [z, decide_eq_true rfl]
                exact ⟨fun _ y => Bool.noConfusion y, fun _ y => a_an y.symm⟩
          by_cases b3 : c1 ≠ (if vowel c2 = true then ascii "an" else ascii "a")
          · rw [if_pos b3]
            rw [if_pos (iff.mp b3)] at k
            exact k
          · rw [if_neg b3]
            rw [if_neg (fun z => b3 (iff.mpr z))] at k
            refine ⟨_, rfl, _, _, rfl, .inr (q_CHARGES _), fun l nl => ?_⟩
            refine ⟨_, rfl, R, C, _, bs, t0, e, r, _, rfl, sz, bz, hT2.same (new_same nl), ⟨1, l, CHARGEWORDS, fv, f, H0, rfl, ?_, nm_all.2.2.2.2.2.1, tb_ch, by decide, RField.mv hf2 (Mv.here (new_same nl)), rfl⟩, ?_⟩
            · rw [wn_ch, map_vS]
              exact SqL.of upd_same
            · have kk := k12.trans (Keep2.of (new_same (o := .lst (wCHARGES.map V.str)) nl))
              exact GiveT.up kk (fun _ _ _ _ ht z => RLayer.mv z (ht.mv' kk (hT2.same (new_same nl)))) k
end
end HC


namespace HC
open PySem PySem.Spec PyProof.Rows L2
open ShBlazon (isLetter isDigit isBlank oneToken tokensFrom tokensOf valueOf Token kindOf place wordOf numOf wanted look eat isWord eatWord ascii sinister lineAt twoAt piecesAt partedAt variedAt fieldAt fillAt mannerAt sizeAt groupAt ordAt layerAt layersAt vowel TINCTWORDS LINEWORDS WAYWORDS VARYWORDS ORDWORDS CHARGEWORDS SEVERAL MANNERWORDS)
section
variable {P : Program} {w : World} {K : PySem.W.Frag} {mg : Str → Option Value} {base : Heap} {d : Ad}
theorem layer_not {f : Sh.Field} {s : Tks} (h : kindOf s ≠ 0) : layerAt f s = .error (wanted s) := by
  unfold layerAt
  rw [isWord_not h, isWord_not h, eat_not h]
  rfl
theorem ch_len : ∀ w ∈ CHARGEWORDS, w.length ≤ 1000 := by decide +kernel
theorem sc_read_layer : FnScope ["tokens", "field", "many", "charge"] ["tokens", "field"] (defScope s_read_layer) := ⟨rfl, rfl, rfl, by decide +kernel, rfl, by decide +kernel, by decide +kernel⟩
theorem ok_read_layer (T : Txt K mg d) : OkD P w K mg base (L2.CX P w) 15 d.f_read_layer ["tokens", "field"] (spT d (preFl d layerAt) (RLayer d)) := by
  obtain ⟨fd, F, B⟩ := T.k_read_layer.ex
  obtain ⟨⟨fd_read_group, G_read_group, B_read_group⟩, kp_read_group⟩ := ok_read_group (P := P) (w := w) (base := base) T
  obtain ⟨⟨fd_read_behind_article, G_read_behind_article, B_read_behind_article⟩, kp_read_behind_article⟩ := ok_read_behind_article (P := P) (w := w) (base := base) T
  obtain ⟨fd_take_name, G_take_name, B_take_name, ⟨ds_take_name, V1_take_name, B1_take_name⟩, kp_take_name⟩ := ok_take_name (P := P) (w := w) (base := base) T
  obtain ⟨⟨fd_Tokens_peek, G_Tokens_peek, B_Tokens_peek⟩, kp_Tokens_peek⟩ := ok_Tokens_peek (P := P) (w := w) (base := base) T
  obtain ⟨⟨fd_several, G_several, B_several⟩, kp_several⟩ := ok_several (P := P) (w := w) (base := base) T
  obtain ⟨c_FIRST_COUNT, m_FIRST_COUNT⟩ := T.nFIRST_COUNT
  obtain ⟨a_COUNTS, m_COUNTS, q_COUNTS⟩ := T.tCOUNTS
  obtain ⟨a_CHARGES, m_CHARGES, q_CHARGES⟩ := T.tCHARGES
  refine ⟨⟨fd, F.okX sc_read_layer (fun vs H Q E h => ?_) (fun cdv A outer s H vs Q E hr h => ?_), B⟩, F.kp⟩
  · obtain ⟨R, C, us, bs, t0, e, s, par, rfl, _, _, _, ⟨fv, f, H0, rfl, _⟩, _⟩ := h
    rfl
  · obtain ⟨R, C, us, bs, t0, e, s, par, rfl, sz, bz, hT, ⟨fv, f, H0, rfl, hf, rfl⟩, k⟩ := h
    obtain ⟨dxR, av, hR⟩ := hT.hR
    have hr_read_group : Room 13 _ := hr.mono (by decide)
    have hr_read_behind_article : Room 14 _ := hr.mono (by decide)
    have hr_take_name : Room 7 _ := hr.mono (by decide)
    have hr_Tokens_peek : Room 4 _ := hr.mono (by decide)
    have hr_several : Room 1 _ := hr.mono (by decide)
    refine ⟨_, pss_cons (ps_if (pt_cmpR op_in_seq (pe_fld (pe_meth0 (pv 0) T.kTokens.cl T.kTokens_peek.me G_Tokens_peek hr_Tokens_peek B_Tokens_peek .nil passX) rfl) (pe_tup (pa_cons pe_str (pa_cons pe_str pa_nil))) (by rfl))
        (pss_one (ps_ret (pe_call G_read_behind_article hr_read_behind_article rfl T.k_read_behind_article.gl kp_read_behind_article B_read_behind_article .nil passX (pa_cons (pv 0) (pa_cons (pv 1) pa_nil)))))
        pss_nil)
      (pss_cons (ps_set (i := 2) sc_read_layer.nd rfl (Or.inl rfl) (pe_op op_add (pe_call G_take_name hr_take_name rfl T.k_take_name.gl kp_take_name B1_take_name V1_take_name passX (pa_cons (pv 0) (pa_cons (pe_callTy call_list_of (by rfl) T.b_list (by decide +kernel) (pa_cons (pe_glob (v := .ref a_COUNTS) rfl m_COUNTS rfl) pa_nil)) pa_nil))) (pgi m_FIRST_COUNT)))
      (pss_one (ps_ret (pe_call G_read_group hr_read_group rfl T.k_read_group.gl kp_read_group B_read_group .nil passX (pa_cons (pv 0) (pa_cons (pv 2) (pa_cons (pe_lc (own := [("charge", 3)]) (g := gName 3) (tt := tYes) rfl sc_read_layer.nd (pi_tup (pe_glob (v := .ref a_CHARGES) rfl m_CHARGES rfl)) (blkOk_by (N := ["tokens", "field", "many", "charge"]) (sc := defScope s_read_layer) (by decide +kernel)) (fun _ _ _ _ _ => pg_name (i := 3) sc_read_layer.nd rfl (Or.inl rfl)) (fun _ _ _ _ _ => pts_nil) (fun _ _ _ _ _ => (pe_call G_several hr_several rfl T.k_several.gl kp_several B_several .nil pass0 (pa_cons (pv 3) pa_nil)))) (pa_cons (pv 1) pa_nil)))))))), ?_⟩
    refine ⟨_, rfl, R, dxR, _, rfl, hR, tk_no (by decide +kernel), R, C, bs, t0, e, s, rfl, sz, bz, hT, ?_⟩
    by_cases c4 : 4 ≤ kindOf s
    · rw [if_pos c4]
      rw [layer_not (kind_ne c4)] at k
      exact k
    · rw [if_neg c4]
      intro H1 A tok r es kp hAh
      obtain ⟨xR, xC, dxA, c, q, hR1, hC1, lq, hA, rel, alt⟩ := _root_.id hAh
      refine ⟨A, d.cToken, dxA, _, _, rfl, hA, T.kToken.cl, T.kToken.no.1, look_at _ _ _ 0 rfl (by decide +kernel), (by show 2 ≤ sizeLine; decide), fun tt nt => ?_⟩
      have s1 : Same H1 (upd H1 tt (.tup [V.str ("a" : Str), V.str ("an" : Str)])) := new_same nt
      have hT1 : TkAt d bs t0 e R C (upd H1 tt (.tup [V.str ("a" : Str), V.str ("an" : Str)])) s := by rw [es]; exact hAh.at_.same s1
      have k1 := kp.trans (Keep2.of s1)
      have hf1 := hf.keep2 hT k1
      refine ⟨tt, _, rfl, .inr (SqT.of upd_same), rfl, rfl, _, rfl, ?_⟩
      have ea : isWord s "a" = decide (c = ascii "a") := by rw [es]; exact rel_word rel (wOk.ne a_ok) (wOk.all a_ok)
      have ean : isWord s "an" = decide (c = ascii "an") := by rw [es]; exact rel_word rel (wOk.ne an_ok) (wOk.all an_ok)
      have ein : inV (vS c) [V.str ("a" : Str), V.str ("an" : Str)] = (isWord s "a" || isWord s "an") := by
        rw [str_a, str_an]
        show (eqV (vS (ascii "a")) (vS c) || (eqV (vS (ascii "an")) (vS c) || false)) = _
        rw [vtup, vtup, ea, ean, Bool.or_false]
        congr 1
        · rw [Bool.eq_iff_iff, decide_eq_true_eq, decide_eq_true_eq]
          exact ⟨fun z => z.symm, fun z => z.symm⟩
        · rw [Bool.eq_iff_iff, decide_eq_true_eq, decide_eq_true_eq]
          exact ⟨fun z => z.symm, fun z => z.symm⟩
      rw [if_neg Bool.false_ne_true, ein]
      cases hb : (isWord s "a" || isWord s "an") with
      | true =>
        refine iteT ?_
        refine ⟨_, rfl, _, rfl, R, C, bs, t0, e, s, fv, f, H0, rfl, sz, bz, hT1, hf1, hb, ?_⟩
        exact GiveT.up k1 (fun _ _ _ _ ht z => RLayer.mv z (ht.mv' k1 hT1)) k
      | false =>
        refine iteF ?_
        unfold layerAt at k
        rw [hb, if_neg Bool.false_ne_true] at k
        refine ⟨_, rfl, _, _, rfl, .inr (q_COUNTS _), fun l nl => ?_⟩
        dsimp only [tNil]
        refine name_give sz bz hT1 nl wn_cnt nm_all.2.2.2.2.2.2.2.2.2 tb_cnt e_str (by decide) ?_
        rw [sin_plain (by decide)]
        cases e2 : eat ShBlazon.COUNTS s with
        | error g => rw [e2] at k; exact k
        | ok n =>
        rw [e2] at k
        dsimp only at k
        intro v2 H2 kp2 hT2 rv
        cases rv
        have k2 := k1.trans kp2
        have hf2 := hf.keep2 hT k2
        refine ⟨_, _, rfl, rfl, ?_⟩
        refine ⟨_, rfl, _, rfl, _, rfl, ⟨_, tup_vS q_CHARGES wn_ch _⟩, fun D hD => ?_⟩
        refine lc_tup (xs := CHARGEWORDS.map vS) (fun i H' => Cm H2 D ((SEVERAL.take i).map vS) H') (Cm.start hD) (fun i H' _ cm => tup_vS q_CHARGES wn_ch _) (fun i x H' hx cm => ?_) (fun H' cm => ?_)
        · obtain ⟨y, hy, rfl⟩ := get_map hx
          have hi := get_lt hy
          refine ⟨rfl, ?_⟩
          unfold tYes
          dsimp only
          rw [if_pos rfl]
          refine ⟨_, rfl, y, rfl, ch_len y (List.mem_of_getElem? hy), ?_⟩
          obtain ⟨t1, t2⟩ := cm.turn hD (Same.refl _) (vS (y ++ [115]))
          have hs : SEVERAL[i]? = some (y ++ [115]) := by
            show (CHARGEWORDS.map fun (w : List UInt8) => w ++ [115])[i]? = _
            rw [List.getElem?_map, hy]
            rfl
          rw [List.take_add_one, hs, Option.toList_some, List.map_append]
          refine ⟨_, t1, ?_, t2⟩
          rw [List.length_map, List.length_take]
          have h16 : CHARGEWORDS.length = 16 := by decide +kernel
          exact Nat.lt_of_le_of_lt (Nat.min_le_left _ _) (Nat.lt_trans hi (by rw [h16]; decide))
        · have h16 : (CHARGEWORDS.map vS).length = 16 := by rw [List.length_map]; decide +kernel
          have h17 : SEVERAL.take 16 = SEVERAL := by decide +kernel
          rw [h16, h17] at cm
          have hT3 := hT2.same cm.sm
          have k3 := k2.trans (Keep2.of cm.sm)
          refine ⟨_, rfl, R, C, _, bs, t0, e, n.2, _, rfl, sz, bz, hT3, ⟨n.1 + 2, D, SEVERAL, fv, f, H0, rfl, SqL.of cm.ac, nm_all.2.2.2.2.2.2.1, tb_sev, by decide +kernel, RField.mv hf2 (Mv.here cm.sm), rfl⟩, ?_⟩
          exact GiveT.up k3 (fun _ _ _ _ ht z => RLayer.mv z (ht.mv' k3 hT3)) k
theorem TkAt.lst {bs : List UInt8} {t0 e : Nat} {R C l : Addr} {H : Hp} {s : Tks} {us vs : List V} (h : TkAt d bs t0 e R C H s) (hl : H l = some (.lst us)) : TkAt d bs t0 e R C (upd H l (.lst vs)) s := by
  have up : ∀ {b Cc dx : Addr} {fs : List (Str × V)}, H b = some (.ins Cc dx fs) → (upd H l (.lst vs)) b = some (.ins Cc dx fs) := fun {b Cc dx fs} z => by
    rw [upd_ne (ne_of z hl (by intro q; cases q))]
    exact z
  rcases h with ⟨a, b, q, h1, h2, h3⟩ | ⟨A, tok, r, rfl, xR, xC, xA, c, q, h1, h2, h3, h4, h5⟩
  · exact .inl ⟨a, b, q, up h1, up h2, h3⟩
  · exact .inr ⟨A, tok, r, rfl, xR, xC, xA, c, q, up h1, up h2, h3, up h4, h5⟩
/-! ### read_arms -/
def armsT (s : Tks) : Except ShBlazon.Fault Sh.Arms := match fieldAt s with
  | .error e => .error e
  | .ok f => match layersAt f.1 8 f.2 with
    | .error e => .error e
    | .ok l => .ok ⟨f.1, l⟩
theorem arms_read (b : List UInt8) : ShBlazon.read b = armsT (tokensOf b) := rfl
def pref (xs : List Sh.Layer) : Except ShBlazon.Fault (List Sh.Layer) → Except ShBlazon.Fault (List Sh.Layer)
  | .error e => .error e
  | .ok l => .ok (xs ++ l)
theorem layers_not (f : Sh.Field) {s : Tks} (h2 : kindOf s ≠ 2) (h3 : kindOf s ≠ 3) : ∀ j, layersAt f j s = .error (wanted s)
  | 0 => by
    unfold layersAt
    rw [if_neg h2, if_neg h3]
  | j + 1 => by
    unfold layersAt
    rw [if_neg h2, if_neg h3]
theorem layers_end (f : Sh.Field) {s : Tks} (h3 : kindOf s = 3) : ∀ j, layersAt f j s = .ok []
  | 0 => by
    unfold layersAt
    rw [if_neg (by omega), if_pos h3]
  | j + 1 => by
    unfold layersAt
    rw [if_neg (by omega), if_pos h3]
theorem layers_more (f : Sh.Field) {s : Tks} (h2 : kindOf s = 2) (j : Nat) : layersAt f (j + 1) s = match layerAt f (s.drop 1) with
    | .error e => .error e
    | .ok x => match layersAt f j x.2 with
      | .error e => .error e
      | .ok l => .ok (x.1 :: l) := by
  show (if kindOf s = 2 then _ else _) = _
  rw [if_pos h2]
  rfl
theorem rel_comma {c : List UInt8} {tok : Token} (rel : TokRel c tok) : c = [44] ↔ tok.kind = 2 := by
  rcases rel with ⟨k, _, n, l, _⟩ | ⟨k, n, _, dg, _⟩ | ⟨k, e⟩ | ⟨k, e⟩
  · constructor
    · intro z
      rw [z] at l
      exact absurd (l 44 List.mem_cons_self) (by decide)
    · intro z; omega
  · constructor
    · intro z
      rw [z] at dg
      exact absurd (dg 44 List.mem_cons_self) (by decide)
    · intro z; omega
  · exact ⟨fun _ => k, fun _ => e⟩
  · constructor
    · intro z
      rw [e] at z
      exact absurd z (by decide)
    · intro z; omega
theorem rel_end {c : List UInt8} {tok : Token} (rel : TokRel c tok) : c = [41] ↔ tok.kind = 3 := by
  rcases rel with ⟨k, _, n, l, _⟩ | ⟨k, n, _, dg, _⟩ | ⟨k, e⟩ | ⟨k, e⟩
  · constructor
    · intro z
      rw [z] at l
      exact absurd (l 41 List.mem_cons_self) (by decide)
    · intro z; omega
  · constructor
    · intro z
      rw [z] at dg
      exact absurd (dg 41 List.mem_cons_self) (by decide)
    · intro z; omega
  · constructor
    · intro z
      rw [e] at z
      exact absurd z (by decide)
    · intro z; omega
  · exact ⟨fun _ => k, fun _ => e⟩
def spArmsT (d : Ad) : Sp := fun vs H Q E => ∃ (R C : Addr) (bs : List UInt8) (t0 e : Nat) (s : Tks), vs = [.ref R] ∧ bs.length ≤ 4096 ∧ Bz bs t0 e ∧ TkAt d bs t0 e R C H s ∧
  match armsT s with
  | .error f => ErrM d E f.1 (t0 + f.2)
  | .ok a => ∀ v H' xC, Keep2 R C H H' → H' C = some (cur d xC bs (e + 1)) → RArms d H H' v a → Q v H'
/-- the loop: layers so far, a token in hand -/
structure Ly (d : Ad) (bs : List UInt8) (t0 e : Nat) (R C l : Addr) (f : Sh.Field) (Hb : Hp) (s0 : Tks) (Hc : Hp) (A xA : Addr) (c : List UInt8) (tok : Token) (r : Tks) (us : List V) (xs : List Sh.Layer) : Prop where
  kp : ∀ b o, b ≠ R → b ≠ C → b ≠ l → Hb b = some o → Hc b = some o
  hl : Hc l = some (.lst us)
  hA : Hc A = some (tokO d xA c (t0 + tok.at_))
  rel : TokRel c tok
  kd : tok.kind ≤ 3
  hR : ∃ x av, Hc R = some (tksO d x C av)
  nx : tok.kind < 3 → TkAt d bs t0 e R C Hc r
  en : tok.kind = 3 → ∃ xC, Hc C = some (cur d xC bs (e + 1))
  al : All2 (RLayer d Hb Hc) us xs
  ln : xs.length ≤ 8
  eq : layersAt f 8 s0 = pref xs (layersAt f (8 - xs.length) (tok :: r))
theorem sc_read_arms : FnScope ["tokens", "field", "layers", "token"] ["tokens"] (defScope s_read_arms) := ⟨rfl, rfl, rfl, by decide +kernel, rfl, by decide +kernel, by decide +kernel⟩
theorem ok_read_arms (T : Txt K mg d) : OkD P w K mg base (L2.CX P w) 16 d.f_read_arms ["tokens"] (spArmsT d) := by
  obtain ⟨fd, F, B⟩ := T.k_read_arms.ex
  obtain ⟨⟨fd_read_field, G_read_field, B_read_field⟩, kp_read_field⟩ := ok_read_field (P := P) (w := w) (base := base) T
  obtain ⟨⟨fd_Tokens_take, G_Tokens_take, B_Tokens_take⟩, kp_Tokens_take⟩ := ok_Tokens_take (P := P) (w := w) (base := base) T
  obtain ⟨⟨fd_Arms, G_Arms, B_Arms⟩, kp_Arms⟩ := ok_Arms_init (P := P) (w := w) (base := base) T
  obtain ⟨⟨fd_read_layer, G_read_layer, B_read_layer⟩, kp_read_layer⟩ := ok_read_layer (P := P) (w := w) (base := base) T
  obtain ⟨c_COMMA, m_COMMA⟩ := T.sCOMMA
  obtain ⟨c_END, m_END⟩ := T.sEND
  obtain ⟨c_MOST_LAYERS, m_MOST_LAYERS⟩ := T.nMOST_LAYERS
  obtain ⟨c_OTHER_TOKEN, m_OTHER_TOKEN⟩ := T.nOTHER_TOKEN
  obtain ⟨c_NINTH_LAYER, m_NINTH_LAYER⟩ := T.nNINTH_LAYER
  refine ⟨⟨fd, F.okX sc_read_arms (fun vs H Q E h => ?_) (fun cdv A outer s H vs Q E hr h => ?_), B⟩, F.kp⟩
  · obtain ⟨R, C, bs, t0, e, s, rfl, _⟩ := h
    rfl
  · obtain ⟨R, C, bs, t0, e, s, rfl, sz, bz, hT, k⟩ := h
    have hr_read_field : Room 11 _ := hr.mono (by decide)
    have hr_Tokens_take : Room 5 _ := hr.mono (by decide)
    have hr_Arms : Room 2 _ := hr.mono (by decide)
    have hr_read_layer : Room 15 _ := hr.mono (by decide)
    refine ⟨_, pss_cons (ps_set (i := 1) sc_read_arms.nd rfl (Or.inl rfl) (pe_call G_read_field hr_read_field rfl T.k_read_field.gl kp_read_field B_read_field .nil passX (pa_cons (pv 0) pa_nil)))
      (pss_cons (ps_set (i := 2) sc_read_arms.nd rfl (Or.inl rfl) (pe_lst pa_nil))
      (pss_cons (ps_set (i := 3) sc_read_arms.nd rfl (Or.inl rfl) (pe_meth0 (pv 0) T.kTokens.cl T.kTokens_take.me G_Tokens_take hr_Tokens_take B_Tokens_take .nil passX))
      (pss_cons (ps_while ownX (pt_cmpR op_eq (pe_fld (pv 3) rfl) (pgs m_COMMA) (nomark _))
        (pss_cons (ps_if (pt_cmpR op_eq (pe_callB call_len_seq (by rfl) T.b_len PySem.boot_len (pa_cons (pv 2) pa_nil)) (pgi m_MOST_LAYERS) (nomark _))
        (pss_one (ps_raiseLow rfl T.xMisread hr takesX (pa_cons (pgi m_NINTH_LAYER) (pa_cons (pe_fld (pv 3) rfl) pa_nil))))
        pss_nil)
      (pss_cons (ps_expr (pe_bm PySem.F.plainAttrs_list PySem.F.slot_list_append PySem.F.type_list_append mt_append (pv 2) (pa_cons (pe_call G_read_layer hr_read_layer rfl T.k_read_layer.gl kp_read_layer B_read_layer .nil passX (pa_cons (pv 0) (pa_cons (pv 1) pa_nil))) pa_nil)))
      (pss_one (ps_set (i := 3) sc_read_arms.nd rfl (Or.inl rfl) (pe_meth0 (pv 0) T.kTokens.cl T.kTokens_take.me G_Tokens_take hr_Tokens_take B_Tokens_take .nil passX))))))
      (pss_cons (ps_if (pt_cmpR op_ne (pe_fld (pv 3) rfl) (pgs m_END) (nomark _))
        (pss_one (ps_raiseLow rfl T.xMisread hr takesX (pa_cons (pgi m_OTHER_TOKEN) (pa_cons (pe_fld (pv 3) rfl) pa_nil))))
        pss_nil)
      (pss_one (ps_ret (pe_make T.kArms.mak G_Arms hr_Arms rfl T.kArms.gl B_Arms .nil pass0 (pa_cons (pv 1) (pa_cons (pv 2) pa_nil))))))))), ?_⟩
    unfold armsT at k
    refine ⟨_, rfl, R, C, _, bs, t0, e, s, _, rfl, sz, bz, hT, ⟨rfl, rfl⟩, ?_⟩
    cases e1 : fieldAt s with
    | error g => rw [e1] at k; exact k
    | ok y =>
    obtain ⟨f, s1⟩ := y
    rw [e1] at k
    dsimp only at k
    intro fv H1 kp1 hT1 rf
    replace hT1 : TkAt d bs t0 e R C H1 s1 := hT1
    replace rf : RField d H H1 fv f := rf
    refine ⟨Nat.zero_le _, fun l nl => ?_⟩
    have s2 : Same H1 (upd H1 l (.lst [])) := new_same nl
    have hT2 := hT1.same s2
    have nlH : H l = none := (hT1.mv (H' := H1) kp1).nw l nl
    obtain ⟨xR2, av2, hR2⟩ := hT2.hR
    refine ⟨_, rfl, R, xR2, _, rfl, hR2, tk_no (by decide +kernel), R, C, bs, t0, e, s1, rfl, sz, bz, hT2, ?_⟩
    by_cases c4 : 4 ≤ kindOf s1
    · rw [if_pos c4]
      rw [layers_not f (by omega) (by omega)] at k
      exact k
    · rw [if_neg c4]
      intro H3 A3 dxA3 c3 tok3 r3 es3 kp3 hA3 rel3 nx3 en3 kd3 hR3
      obtain ⟨xC2, qC2, hC2⟩ := hT2.hC
      have nlR : l ≠ R := ne_of (upd_same (H := H1) (a := l) (o := .lst [])) hR2 (by intro z; cases z)
      have nlC : l ≠ C := ne_of (upd_same (H := H1) (a := l) (o := .lst [])) hC2 (by intro z; cases z)
      have hl3 : H3 l = some (.lst []) := kp3 l _ nlR nlC upd_same
      have hT0R := hT.hR
      have hT0C := hT.hC
      have nw2 : ∀ b, (upd H1 l (.lst [])) b = none → H b = none := fun b hb => by
        have : b ≠ l := fun z => by rw [z, upd_same] at hb; cases hb
        rw [upd_ne this] at hb
        exact (hT1.mv (H' := H1) kp1).nw b hb
      have fin : ∀ {Hc : Hp}, (∀ b o, b ≠ R → b ≠ C → b ≠ l → (upd H1 l (.lst [])) b = some o → Hc b = some o) → RField d H Hc fv f := fun {Hc} kc => by
        refine RField.ins rf fun b Cc dx fs nb hb => kc b _ ?_ ?_ ?_ (s2 _ _ hb)
        · obtain ⟨_, _, z⟩ := hT0R
          exact fun y => by rw [y, z] at nb; cases nb
        · obtain ⟨_, _, z⟩ := hT0C
          exact fun y => by rw [y, z] at nb; cases nb
        · exact fun y => by rw [y, nl] at hb; cases hb
      refine ⟨fun m σ' Hc => ∃ A xA c tok r us xs, m = 8 - xs.length ∧ σ' = [some (.ref R), some fv, some (.ref l), some (.ref A)] ∧ Ly d bs t0 e R C l f (upd H1 l (.lst [])) s1 Hc A xA c tok r us xs,
        ⟨_, A3, dxA3, c3, tok3, r3, [], [], rfl, rfl, fun b o h1 h2 h3 hb => kp3 b o h1 h2 hb, hl3, hA3, rel3, kd3, hR3, nx3, en3, .nil, Nat.zero_le _, by
          rw [es3]
          show _ = pref [] (layersAt f 8 (tok3 :: r3))
          cases layersAt f 8 (tok3 :: r3) <;> rfl⟩, ?_⟩
      rintro m σ' Hc ⟨A, dxA, c, tok, r, us, xs, rfl, rfl, L⟩
      have hA := L.hA
      have hlen := L.al.length
      refine ⟨_, rfl, A, d.cToken, dxA, _, _, rfl, hA, T.kToken.cl, T.kToken.no.1, look_at _ _ _ 0 rfl (by decide +kernel), rfl, _, rfl, ?_⟩
      rw [txt_comma, dec_vS]
      by_cases cm : c = [44]
      · rw [decide_eq_true cm]
        refine iteT ?_
        have k2 : tok.kind = 2 := (rel_comma L.rel).mp cm
        have hTc := L.nx (by omega)
        refine ⟨fun σ' Hd => ∃ A xA c tok r us' xs', xs'.length = xs.length + 1 ∧ σ' = [some (.ref R), some fv, some (.ref l), some (.ref A)] ∧ Ly d bs t0 e R C l f (upd H1 l (.lst [])) s1 Hd A xA c tok r us' xs', fun σ' Hd ⟨A', xA', c', tok', r', us', xs', g1, g2, g3⟩ => ⟨8 - xs'.length, ?_, A', xA', c', tok', r', us', xs', rfl, g2, g3⟩, ?_⟩
        · have := g3.ln
          omega
        refine ⟨_, rfl, l, us, rfl, .inl (SqL.of L.hl), rfl, _, rfl, ?_⟩
        by_cases c8 : xs.length = 8
        · rw [hlen, c8, decide_eq_true (show V.int ((8 : Nat) : Int) = V.int 8 from rfl)]
          refine iteT ?_
          rw [L.eq, c8] at k
          have e0 : layersAt f (8 - 8) (tok :: r) = .error (8, tok.at_) := by
            show (if kindOf (tok :: r) = 2 then _ else _) = _
            rw [if_pos (show kindOf (tok :: r) = 2 from k2)]
            rfl
          rw [e0] at k
          exact ⟨_, rfl, A, d.cToken, dxA, _, _, rfl, hA, T.kToken.cl, T.kToken.no.2.1, look_at _ _ _ 1 rfl (by decide +kernel), _, _, rfl, fun z hz => k z _ upd_same⟩
        · rw [hlen, decide_eq_false (show ¬ V.int ((xs.length : Nat) : Int) = V.int 8 from fun z => c8 (by injection z with z; omega))]
          refine iteF ?_
          have l8 := L.ln
          have ej : 8 - xs.length = (8 - (xs.length + 1)) + 1 := by omega
          have e0 := layers_more f (s := tok :: r) k2 (8 - (xs.length + 1))
          rw [← ej] at e0
          replace e0 : layersAt f (8 - xs.length) (tok :: r) = match layerAt f r with
              | .error e => .error e
              | .ok x => match layersAt f (8 - (xs.length + 1)) x.2 with
                | .error e => .error e
                | .ok l => .ok (x.1 :: l) := e0
          refine ⟨_, rfl, .inl ⟨rfl, _, SqL.of L.hl⟩, _, rfl, _, rfl, R, C, _, bs, t0, e, r, _, rfl, sz, bz, hTc, ⟨fv, f, H, rfl, fin L.kp, rfl⟩, ?_⟩
          cases e5 : layerAt f r with
          | error g =>
            rw [L.eq, e0, e5] at k
            exact k
          | ok x =>
          rw [e5] at e0
          dsimp only at e0
          intro v5 H5 kp5 hT5 rv5
          have hl5 := kp5 l _ nlR nlC L.hl
          refine ⟨l, us, v5, rfl, rfl, hl5, (by rw [hlen]; exact Nat.lt_of_le_of_lt L.ln (by decide)), ?_⟩
          have hT6 := hT5.lst (vs := us ++ [v5]) hl5
          obtain ⟨xR6, av6, hR6⟩ := hT6.hR
          refine ⟨_, rfl, R, xR6, _, rfl, hR6, tk_no (by decide +kernel), R, C, bs, t0, e, x.2, rfl, sz, bz, hT6, ?_⟩
          by_cases c6 : 4 ≤ kindOf x.2
          · rw [if_pos c6]
            rw [L.eq, e0, layers_not f (by omega) (by omega)] at k
            exact k
          · rw [if_neg c6]
            intro H7 A7 dxA7 c7 tok7 r7 es7 kp7 hA7 rel7 nx7 en7 kd7 hR7
            refine ⟨A7, dxA7, c7, tok7, r7, us ++ [v5], xs ++ [x.1], by rw [List.length_append]; rfl, rfl, ?_, ?_, hA7, rel7, kd7, hR7, nx7, en7, ?_, ?_, ?_⟩
            · intro b o b1 b2 b3 hb
              refine kp7 b o b1 b2 ?_
              rw [upd_ne b3]
              exact kp5 b o b1 b2 (L.kp b o b1 b2 b3 hb)
            · exact kp7 l _ nlR nlC upd_same
            · have nn : ∀ b, (upd H1 l (.lst [])) b = none → b ≠ R ∧ b ≠ C ∧ b ≠ l := fun b hb => ⟨(fun z => by rw [z, hR2] at hb; cases hb), (fun z => by rw [z, hC2] at hb; cases hb), (fun z => by rw [z, upd_same] at hb; cases hb)⟩
              refine (L.al.mono fun v' y' z => RLayer.mv z ⟨fun _ h => h, fun b o nb hb => ?_⟩).snoc (RLayer.mv rv5 ⟨fun b hb => ?_, fun b o nb hb => ?_⟩)
              · obtain ⟨b1, b2, b3⟩ := nn b nb
                refine kp7 b o b1 b2 ?_
                rw [upd_ne b3]
                exact kp5 b o b1 b2 hb
              · cases q : (upd H1 l (.lst [])) b with
                | none => rfl
                | some o =>
                  obtain ⟨_, _, zR⟩ := hTc.hR
                  obtain ⟨_, _, zC⟩ := hTc.hC
                  have b1 : b ≠ R := fun z => by rw [z, zR] at hb; cases hb
                  have b2 : b ≠ C := fun z => by rw [z, zC] at hb; cases hb
                  have b3 : b ≠ l := fun z => by rw [z, L.hl] at hb; cases hb
                  rw [L.kp b o b1 b2 b3 q] at hb
                  cases hb
              · obtain ⟨_, _, zR⟩ := hTc.hR
                obtain ⟨_, _, zC⟩ := hTc.hC
                have b1 : b ≠ R := fun z => by rw [z, zR] at nb; cases nb
                have b2 : b ≠ C := fun z => by rw [z, zC] at nb; cases nb
                have b3 : b ≠ l := fun z => by rw [z, L.hl] at nb; cases nb
                refine kp7 b o b1 b2 ?_
                rw [upd_ne b3]
                exact hb
            · rw [List.length_append]
              show xs.length + 1 ≤ 8
              omega
            · rw [L.eq, e0, List.length_append, ← es7]
              show pref xs _ = pref (xs ++ [x.1]) (layersAt f (8 - (xs.length + 1)) x.2)
              cases layersAt f (8 - (xs.length + 1)) x.2 with
              | error g => rfl
              | ok ll =>
                show Except.ok (xs ++ (x.1 :: ll)) = Except.ok ((xs ++ [x.1]) ++ ll)
                rw [List.append_assoc]
                rfl
      · rw [decide_eq_false cm]
        refine iteF ?_
        have n2 : tok.kind ≠ 2 := fun z => cm ((rel_comma L.rel).mpr z)
        refine ⟨_, rfl, A, d.cToken, dxA, _, _, rfl, hA, T.kToken.cl, T.kToken.no.1, look_at _ _ _ 0 rfl (by decide +kernel), rfl, _, rfl, ?_⟩
        rw [txt_end, dec_vS]
        by_cases ce : c = [41]
        · rw [decide_eq_true ce]
          refine iteF ?_
          have k3 := (rel_end L.rel).mp ce
          rw [L.eq, layers_end f (s := tok :: r) k3] at k
          obtain ⟨xC, hCe⟩ := L.en k3
          refine ⟨_, rfl, _, rfl, ?_⟩
          refine made rfl fun z dz H8 nz s8 hz => ?_
          have kk : Keep2 R C H Hc := fun b o b1 b2 hb => L.kp b o b1 b2 (ne_of_none hb nlH) (s2 _ _ (kp1 b o b1 b2 hb))
          have zn : H z = none := by
            cases q : H z with
            | none => rfl
            | some o =>
              obtain ⟨_, _, zR⟩ := hT0R
              by_cases b2 : z = C
              · rw [b2, hCe] at nz; cases nz
              · by_cases b1 : z = R
                · exfalso
                  obtain ⟨_, _, qR⟩ := L.hR
                  rw [b1, qR] at nz
                  cases nz
                · rw [kk z o b1 b2 q] at nz
                  cases nz
          refine k _ H8 xC (kk.trans (Keep2.of s8)) (s8 _ _ hCe) ⟨fv, l, us, ⟨z, dz, rfl, zn, hz⟩, RField.mv (fin L.kp) (Mv.here s8), ⟨nlH, s8 _ _ L.hl⟩, ?_⟩
          show All2 (RLayer d H H8) us (xs ++ [])
          rw [List.append_nil]
          exact L.al.mono fun _ _ y => RLayer.mv y ⟨nw2, fun b o _ hb => s8 b o hb⟩
        · rw [decide_eq_false ce]
          refine iteT ?_
          have n3 : tok.kind ≠ 3 := fun z => ce ((rel_end L.rel).mpr z)
          rw [L.eq, layers_not f (s := tok :: r) n2 n3, wanted_tok L.kd] at k
          exact ⟨_, rfl, A, d.cToken, dxA, _, _, rfl, hA, T.kToken.cl, T.kToken.no.2.1, look_at _ _ _ 1 rfl (by decide +kernel), _, _, rfl, fun z hz => k z _ upd_same⟩
end
end HC


namespace HC
open PySem PySem.Spec PyProof.Rows L2
open ShBlazon (isLetter isDigit isBlank valueOf ascii)
open ShMarsh (skip sign needSign word number armsIn markIn digitNext marksIn markedIn oneIn coatIn moreIn twoIn)
/-! ### what is left of a text, from a place on -/
abbrev Lf (bs : List UInt8) (p : Nat) : ShMarsh.Left := (p, bs.drop p)
abbrev sk (bs : List UInt8) (p : Nat) : Nat := upTo isBlank bs p
theorem skip_lf (bs : List UInt8) (p : Nat) : skip (Lf bs p) = Lf bs (sk bs p) := by
  show (p + ((bs.drop p).takeWhile isBlank).length, (bs.drop p).dropWhile isBlank) = (sk bs p, bs.drop (sk bs p))
  unfold sk upTo
  rw [← List.drop_drop, ← drop_tw]
theorem sign_lf (bs : List UInt8) (p : Nat) (c : UInt8) : sign c (Lf bs p) = if bs[sk bs p]? = some c then some (Lf bs (sk bs p + 1)) else none := by
  unfold sign
  rw [skip_lf]
  cases h : bs[sk bs p]? with
  | none =>
    have e : (Lf bs (sk bs p)).2 = [] := drop_none h
    rw [e, if_neg (fun z => by cases z)]
  | some x =>
    have e : (Lf bs (sk bs p)).2 = x :: bs.drop (sk bs p + 1) := drop_cons h
    rw [e]
    dsimp only
    by_cases q : x = c
    · rw [if_pos q, if_pos (by rw [q])]
    · rw [if_neg q, if_neg (fun z => q (by injection z))]
theorem need_lf (bs : List UInt8) (p : Nat) (c : UInt8) : needSign c (Lf bs p) = if bs[sk bs p]? = some c then .ok (Lf bs (sk bs p + 1)) else .error (10, sk bs p) := by
  unfold needSign
  rw [sign_lf, skip_lf]
  by_cases h : bs[sk bs p]? = some c
  · rw [if_pos h, if_pos h]
  · rw [if_neg h, if_neg h]
theorem word_lf (bs : List UInt8) (p : Nat) (wd : String) : word wd (Lf bs p) = if (bs.drop (sk bs p)).takeWhile isLetter = ascii wd then some (Lf bs (upTo isLetter bs (sk bs p))) else none := by
  unfold word
  rw [skip_lf]
  dsimp only
  by_cases h : (bs.drop (sk bs p)).takeWhile isLetter = ascii wd
  · rw [if_pos h, if_pos h]
    show some (sk bs p + _, (bs.drop (sk bs p)).drop _) = some (upTo isLetter bs (sk bs p), bs.drop (upTo isLetter bs (sk bs p)))
    unfold upTo
    rw [List.drop_drop]
  · rw [if_neg h, if_neg h]
theorem sk_sk (bs : List UInt8) (p : Nat) : sk bs (sk bs p) = sk bs p := upTo_idem
theorem sk_le {bs : List UInt8} {p : Nat} (h : p ≤ bs.length) : sk bs p ≤ bs.length := upTo_le h
theorem sk_ge (bs : List UInt8) (p : Nat) : p ≤ sk bs p := upTo_ge
theorem digit_lf (bs : List UInt8) (p : Nat) : digitNext (Lf bs p) = hereP isDigit bs (sk bs p) := by
  unfold digitNext
  rw [skip_lf]
  unfold hereP
  cases h : bs[sk bs p]? with
  | none =>
    have e : (Lf bs (sk bs p)).2 = [] := drop_none h
    rw [e]
  | some x =>
    have e : (Lf bs (sk bs p)).2 = x :: bs.drop (sk bs p + 1) := drop_cons h
    rw [e]
/-! ### numbers, marks -/
/-- a number at p -/
def numP (bs : List UInt8) (p : Nat) : Except ShBlazon.Fault (Nat × Nat) :=
  if (bs.drop p).takeWhile isDigit = [] then .error (10, p)
  else if (bs.drop p).takeWhile isDigit ≠ [48] ∧ isNum ((bs.drop p).takeWhile isDigit) = false then .error (2, p)
  else .ok (valueOf ((bs.drop p).takeWhile isDigit), upTo isDigit bs p)
theorem num_lf (bs : List UInt8) (p : Nat) : number (Lf bs p) = (numP bs p).map fun y => (y.1, Lf bs y.2) := by
  unfold number numP
  dsimp only
  by_cases h : (bs.drop p).takeWhile isDigit = []
  · rw [if_pos h, if_pos h]
    rfl
  · rw [if_neg h, if_neg h]
    have all := tw_all (P := isDigit) (bs.drop p)
    have iff : (((bs.drop p).takeWhile isDigit).head? = some 48 ∨ 1000 ≤ valueOf ((bs.drop p).takeWhile isDigit)) ↔ isNum ((bs.drop p).takeWhile isDigit) = false := by
      cases e : (bs.drop p).takeWhile isDigit with
      | nil => exact absurd e h
      | cons c r =>
        rw [e] at all
        have hn := num_iff all
        constructor
        · intro z
          cases q : isNum (c :: r) with
          | false => rfl
          | true =>
            have := hn.mp q
            rcases z with z | z
            · exact absurd (by injection z) this.1
            · omega
        · intro z
          by_cases g1 : c = 48
          · exact .inl (by rw [g1]; rfl)
          · right
            rcases Nat.lt_or_ge (valueOf (c :: r)) 1000 with g2 | g2
            · have := hn.mpr ⟨g1, g2⟩
              rw [z] at this
              cases this
            · exact g2
    by_cases q : (bs.drop p).takeWhile isDigit ≠ [48] ∧ isNum ((bs.drop p).takeWhile isDigit) = false
    · rw [if_pos q, if_pos ⟨q.1, iff.mpr q.2⟩]
      rfl
    · rw [if_neg q, if_neg fun z => q ⟨z.1, iff.mp z.2⟩]
      show Except.ok (_, (p + _, (bs.drop p).drop _)) = Except.ok (_, (upTo isDigit bs p, bs.drop (upTo isDigit bs p)))
      unfold upTo
      rw [List.drop_drop]
/-- a mark at p -/
def markP (bs : List UInt8) (p : Nat) : Except ShBlazon.Fault ((Nat × Nat) × Nat) := match numP bs p with
  | .error e => .error e
  | .ok g => if bs[g.2]? = some 46 then (match numP bs (g.2 + 1) with
      | .error e => .error e
      | .ok k => if ShMarsh.markFine (g.1, k.1) = true then .ok ((g.1, k.1), k.2) else .error (11, p)) else .error (10, g.2)
theorem mark_lf (bs : List UInt8) (p : Nat) : markIn (Lf bs p) = (markP bs p).map fun y => (y.1, Lf bs y.2) := by
  unfold markIn markP
  rw [num_lf]
  cases numP bs p with
  | error e => rfl
  | ok g =>
    show (match bs.drop g.2 with
      | 46 :: r => _
      | _ => _) = _
    dsimp only
    by_cases h : bs[g.2]? = some 46
    · rw [if_pos h, drop_cons h]
      show (match number (Lf bs (g.2 + 1)) with
        | .error e => Except.error e
        | .ok k => if ShMarsh.markFine (g.1, k.1) = true then Except.ok ((g.1, k.1), k.2) else Except.error (11, p)) = _
      rw [num_lf]
      cases numP bs (g.2 + 1) with
      | error e => rfl
      | ok k =>
        show (if ShMarsh.markFine (g.1, k.1) = true then _ else _) = _
        dsimp only
        by_cases q : ShMarsh.markFine (g.1, k.1) = true
        · rw [if_pos q, if_pos q]
          rfl
        · rw [if_neg q, if_neg q]
          rfl
    · rw [if_neg h]
      cases e : bs[g.2]? with
      | none =>
        rw [drop_none e]
        rfl
      | some x =>
        rw [drop_cons e]
        have hx : x ≠ 46 := fun z => h (by rw [e, z])
        split
        · rename_i r heq
          injection heq with q _
          exact absurd q hx
        · rfl
theorem numP_le {bs : List UInt8} {p : Nat} {y : Nat × Nat} (hp : p ≤ bs.length) (h : numP bs p = .ok y) : y.2 ≤ bs.length ∧ p ≤ y.2 := by
  unfold numP at h
  by_cases c : (bs.drop p).takeWhile isDigit = []
  · rw [if_pos c] at h; cases h
  · rw [if_neg c] at h
    by_cases q : (bs.drop p).takeWhile isDigit ≠ [48] ∧ isNum ((bs.drop p).takeWhile isDigit) = false
    · rw [if_pos q] at h; cases h
    · rw [if_neg q] at h
      cases h
      exact ⟨upTo_le hp, upTo_ge⟩
theorem markP_le {bs : List UInt8} {p : Nat} {y : (Nat × Nat) × Nat} (hp : p ≤ bs.length) (h : markP bs p = .ok y) : y.2 ≤ bs.length ∧ p ≤ y.2 := by
  unfold markP at h
  cases e1 : numP bs p with
  | error g => rw [e1] at h; cases h
  | ok g =>
    rw [e1] at h
    obtain ⟨a1, a2⟩ := numP_le hp e1
    dsimp only at h
    by_cases c : bs[g.2]? = some 46
    · rw [if_pos c] at h
      have hl := (List.getElem?_eq_some_iff.mp c).1
      cases e2 : numP bs (g.2 + 1) with
      | error k => rw [e2] at h; cases h
      | ok k =>
        rw [e2] at h
        obtain ⟨b1, b2⟩ := numP_le (by omega) e2
        dsimp only at h
        by_cases q : ShMarsh.markFine (g.1, k.1) = true
        · rw [if_pos q] at h
          cases h
          exact ⟨b1, by omega⟩
        · rw [if_neg q] at h; cases h
    · rw [if_neg c] at h; cases h
/-! ### arms in parentheses -/
theorem tw41 : ∀ l : List UInt8, (l.takeWhile fun c => c != 41).length = l.length ∨ ∃ r, l = (l.takeWhile fun c => c != 41) ++ 41 :: r
  | [] => .inl rfl
  | c :: r => by
    by_cases h : (c != 41) = true
    · rw [List.takeWhile_cons_of_pos (p := fun c => c != 41) h]
      rcases tw41 r with e | ⟨z, e⟩
      · exact .inl (by rw [List.length_cons, List.length_cons, e])
      · exact .inr ⟨z, by rw [List.cons_append, ← e]⟩
    · rw [List.takeWhile_cons_of_neg (p := fun c => c != 41) h]
      have hc : c = 41 := by simpa using h
      exact .inr ⟨r, by rw [hc]; rfl⟩
/-- the next ) -/
def endP (bs : List UInt8) (q : Nat) : Nat := upTo (fun c => c != 41) bs q
theorem end_none {bs : List UInt8} {q : Nat} (hq : q ≤ bs.length) : (((bs.drop q).takeWhile fun c => c != 41).length = (bs.drop q).length) ↔ ∀ i, q ≤ i → bs[i]? ≠ some 41 := by
  constructor
  · intro h i hi e
    have h1 := take_tw (P := fun c : UInt8 => c != 41) (bs.drop q)
    rw [h, List.take_length] at h1
    have hm : (41 : UInt8) ∈ bs.drop q := by
      refine List.mem_of_getElem? (i := i - q) ?_
      rw [List.getElem?_drop, show q + (i - q) = i by omega]
      exact e
    rw [h1] at hm
    exact absurd (tw_all _ _ hm) (by decide)
  · intro h
    rcases tw41 (bs.drop q) with e | ⟨r, e⟩
    · exact e
    · exfalso
      have hi : bs[q + ((bs.drop q).takeWhile fun c => c != 41).length]? = some 41 := by
        rw [← List.getElem?_drop, e, List.getElem?_append_right (by rw [← e]; exact Nat.le_refl _)]
        rw [← e, Nat.sub_self]
        rfl
      exact h _ (Nat.le_add_right _ _) hi
theorem end_bz {bs : List UInt8} {q : Nat} (h : ((bs.drop q).takeWhile fun c => c != 41).length ≠ (bs.drop q).length) : Bz bs q (endP bs q) ∧ seg bs q (endP bs q) = (bs.drop q).takeWhile fun c => c != 41 := by
  rcases tw41 (bs.drop q) with e | ⟨r, e⟩
  · exact absurd e h
  · have hs : seg bs q (endP bs q) = (bs.drop q).takeWhile fun c => c != 41 := by
      unfold seg endP upTo
      rw [show q + ((bs.drop q).takeWhile fun c => c != 41).length - q = ((bs.drop q).takeWhile fun c => c != 41).length by omega, take_tw]
    refine ⟨⟨upTo_ge, ?_, fun i h1 h2 z => ?_⟩, hs⟩
    · unfold endP upTo
      rw [← List.getElem?_drop, e, List.getElem?_append_right (by rw [← e]; exact Nat.le_refl _)]
      rw [← e, Nat.sub_self]
      rfl
    · have hm : (41 : UInt8) ∈ (bs.drop q).takeWhile fun c => c != 41 := by
        rw [← hs]
        unfold seg
        refine List.mem_of_getElem? (i := i - q) ?_
        rw [List.getElem?_take, if_pos (by omega), List.getElem?_drop, show q + (i - q) = i by omega]
        exact z
      exact absurd (tw_all _ _ hm) (by decide)
end HC
namespace HC
open PySem PySem.Spec PyProof.Rows L2
open ShBlazon (isLetter isDigit isBlank valueOf ascii)
section
variable {P : Program} {w : World} {K : PySem.W.Frag} {mg : Str → Option Value} {base : Heap} {d : Ad}
theorem dec_sg {bs : List UInt8} {p : Nat} {k : UInt8} (hk : okSign k = true) : decide (sg bs p = [k]) = decide (bs[p]? = some k) := by
  rw [Bool.eq_iff_iff, decide_eq_true_eq, decide_eq_true_eq]
  exact sg_is hk
/-! ### signs -/
def spWant (d : Ad) : Sp := fun vs H Q E => ∃ (C : Addr) (bs : List UInt8) (x : Addr) (p : Nat) (c : UInt8), vs = [.ref C, vS [c]] ∧ okSign c = true ∧ CAt d bs C x H p ∧
  if bs[p]? = some c then ∀ H', Keep C H H' → H' C = some (cur d x bs (p + 1)) → p + 1 ≤ bs.length → Q .non H' else ErrM d E 10 p
theorem sc_want_sign : FnScope ["cursor", "sign"] ["cursor", "sign"] (defScope s_want_sign) := ⟨rfl, rfl, rfl, by decide +kernel, rfl, by decide +kernel, by decide +kernel⟩
theorem ok_want_sign (T : Txt K mg d) : OkD P w K mg base (L2.CX P w) 3 d.f_want_sign ["cursor", "sign"] (spWant d) := by
  obtain ⟨fd, F, B⟩ := T.k_want_sign.ex
  obtain ⟨⟨fd_Cursor_take_sign, G_Cursor_take_sign, B_Cursor_take_sign⟩, kp_Cursor_take_sign⟩ := ok_Cursor_take_sign (P := P) (w := w) (base := base) T
  obtain ⟨⟨fd_Cursor_sign, G_Cursor_sign, B_Cursor_sign⟩, kp_Cursor_sign⟩ := ok_Cursor_sign (P := P) (w := w) (base := base) T
  obtain ⟨c_OTHER_SIGN, m_OTHER_SIGN⟩ := T.nOTHER_SIGN
  refine ⟨⟨fd, F.okX sc_want_sign (fun vs H Q E h => ?_) (fun cdv A outer s H vs Q E hr h => ?_), B⟩, F.kp⟩
  · obtain ⟨C, bs, x, p, c, rfl, _⟩ := h
    rfl
  · obtain ⟨C, bs, dxC, p, c, rfl, hk, A1, k⟩ := h
    have hC := A1.hC
    have hr_Cursor_take_sign : Room 2 _ := hr.mono (by decide)
    have hr_Cursor_sign : Room 1 _ := hr.mono (by decide)
    refine ⟨_, pss_cons (ps_if (pt_cmpR op_ne (pe_meth0 (pv 0) T.kCursor.cl T.kCursor_sign.me G_Cursor_sign hr_Cursor_sign B_Cursor_sign .nil pass0) (pv 1) (nomark _))
        (pss_one (ps_raiseLow rfl T.xMisread hr takesX (pa_cons (pgi m_OTHER_SIGN) (pa_cons (pe_fld (pv 0) rfl) pa_nil))))
        pss_nil)
      (pss_one (ps_expr (pe_meth0 (pv 0) T.kCursor.cl T.kCursor_take_sign.me G_Cursor_take_sign hr_Cursor_take_sign B_Cursor_take_sign .nil pass0))), ?_⟩
    refine ⟨_, rfl, C, dxC, _, rfl, hC, cu_no (by decide +kernel), C, bs, dxC, p, rfl, A1, _, rfl, rfl, _, rfl, ?_⟩
    rw [dec_vS, dec_sg hk]
    by_cases c1 : bs[p]? = some c
    · rw [if_pos c1] at k
      rw [decide_eq_true c1]
      refine iteF ?_
      have hl := (List.getElem?_eq_some_iff.mp c1).1
      exact ⟨_, rfl, C, dxC, _, rfl, hC, cu_no (by decide +kernel), C, bs, dxC, p, rfl, A1, hl, fun H' kp h' => k H' kp h' hl⟩
    · rw [if_neg c1] at k
      rw [decide_eq_false c1]
      refine iteT ?_
      exact ⟨_, rfl, C, d.cCursor, dxC, _, _, rfl, hC, T.kCursor.cl, T.kCursor.no.2.1, look_at _ _ _ 1 rfl (by decide +kernel), _, _, rfl, fun z hz => k z _ upd_same⟩
def spWantB (d : Ad) : Sp := fun vs H Q E => ∃ (C : Addr) (bs : List UInt8) (x : Addr) (p : Nat) (c : UInt8), vs = [.ref C, vS [c]] ∧ okSign c = true ∧ CAt d bs C x H p ∧
  if bs[sk bs p]? = some c then ∀ H', Keep C H H' → H' C = some (cur d x bs (sk bs p + 1)) → sk bs p + 1 ≤ bs.length → Q .non H' else ErrM d E 10 (sk bs p)
theorem sc_want_sign_behind_blanks : FnScope ["cursor", "sign"] ["cursor", "sign"] (defScope s_want_sign_behind_blanks) := ⟨rfl, rfl, rfl, by decide +kernel, rfl, by decide +kernel, by decide +kernel⟩
theorem ok_want_sign_behind_blanks (T : Txt K mg d) : OkD P w K mg base (L2.CX P w) 4 d.f_want_sign_behind_blanks ["cursor", "sign"] (spWantB d) := by
  obtain ⟨fd, F, B⟩ := T.k_want_sign_behind_blanks.ex
  obtain ⟨⟨fd_Cursor_skip_blanks, G_Cursor_skip_blanks, B_Cursor_skip_blanks⟩, kp_Cursor_skip_blanks⟩ := ok_Cursor_skip_blanks (P := P) (w := w) (base := base) T
  obtain ⟨⟨fd_want_sign, G_want_sign, B_want_sign⟩, kp_want_sign⟩ := ok_want_sign (P := P) (w := w) (base := base) T
  refine ⟨⟨fd, F.okX sc_want_sign_behind_blanks (fun vs H Q E h => ?_) (fun cdv A outer s H vs Q E hr h => ?_), B⟩, F.kp⟩
  · obtain ⟨C, bs, x, p, c, rfl, _⟩ := h
    rfl
  · obtain ⟨C, bs, dxC, p, c, rfl, hk, A1, k⟩ := h
    have hC := A1.hC
    have hr_Cursor_skip_blanks : Room 2 _ := hr.mono (by decide)
    have hr_want_sign : Room 3 _ := hr.mono (by decide)
    refine ⟨_, pss_cons (ps_expr (pe_meth0 (pv 0) T.kCursor.cl T.kCursor_skip_blanks.me G_Cursor_skip_blanks hr_Cursor_skip_blanks B_Cursor_skip_blanks .nil pass0))
      (pss_one (ps_expr (pe_call G_want_sign hr_want_sign rfl T.k_want_sign.gl kp_want_sign B_want_sign .nil passX (pa_cons (pv 0) (pa_cons (pv 1) pa_nil))))), ?_⟩
    refine ⟨_, rfl, C, dxC, _, rfl, hC, cu_no (by decide +kernel), C, bs, dxC, p, rfl, A1, fun H1 k1 h1 l1 => ?_⟩
    refine ⟨_, rfl, _, rfl, C, bs, dxC, sk bs p, c, rfl, hk, A1.to h1 l1, ?_⟩
    by_cases c1 : bs[sk bs p]? = some c
    · rw [if_pos c1] at k ⊢
      exact fun H' kp h' l' => k H' (k1.trans kp) h' l'
    · rw [if_neg c1] at k ⊢
      exact k
def spPassS (d : Ad) : Sp := fun vs H Q E => ∃ (C : Addr) (bs : List UInt8) (x : Addr) (p : Nat) (c : UInt8), vs = [.ref C, vS [c]] ∧ okSign c = true ∧ CAt d bs C x H p ∧
  if bs[sk bs p]? = some c then ∀ H', Keep C H H' → H' C = some (cur d x bs (sk bs p + 1)) → sk bs p + 1 ≤ bs.length → Q (.bl true) H' else ∀ H', Keep C H H' → H' C = some (cur d x bs (sk bs p)) → sk bs p ≤ bs.length → Q (.bl false) H'
theorem sc_pass_sign : FnScope ["cursor", "sign"] ["cursor", "sign"] (defScope s_pass_sign) := ⟨rfl, rfl, rfl, by decide +kernel, rfl, by decide +kernel, by decide +kernel⟩
theorem ok_pass_sign (T : Txt K mg d) : OkD P w K mg base CX0 3 d.f_pass_sign ["cursor", "sign"] (spPassS d) := by
  obtain ⟨fd, F, B⟩ := T.k_pass_sign.ex
  obtain ⟨⟨fd_Cursor_skip_blanks, G_Cursor_skip_blanks, B_Cursor_skip_blanks⟩, kp_Cursor_skip_blanks⟩ := ok_Cursor_skip_blanks (P := P) (w := w) (base := base) T
  obtain ⟨⟨fd_Cursor_take_sign, G_Cursor_take_sign, B_Cursor_take_sign⟩, kp_Cursor_take_sign⟩ := ok_Cursor_take_sign (P := P) (w := w) (base := base) T
  obtain ⟨⟨fd_Cursor_sign, G_Cursor_sign, B_Cursor_sign⟩, kp_Cursor_sign⟩ := ok_Cursor_sign (P := P) (w := w) (base := base) T
  refine ⟨⟨fd, F.ok sc_pass_sign (fun vs H Q E h => ?_) (fun cdv A outer s H vs Q E hr h => ?_), B⟩, F.kp⟩
  · obtain ⟨C, bs, x, p, c, rfl, _⟩ := h
    rfl
  · obtain ⟨C, bs, dxC, p, c, rfl, hk, A1, k⟩ := h
    have hC0 := A1.hC
    have hr_Cursor_skip_blanks : Room 2 _ := hr.mono (by decide)
    have hr_Cursor_take_sign : Room 2 _ := hr.mono (by decide)
    have hr_Cursor_sign : Room 1 _ := hr.mono (by decide)
    refine ⟨_, pss_cons (ps_expr (pe_meth0 (pv 0) T.kCursor.cl T.kCursor_skip_blanks.me G_Cursor_skip_blanks hr_Cursor_skip_blanks B_Cursor_skip_blanks .nil pass0))
      (pss_cons (ps_if (pt_cmpR op_ne (pe_meth0 (pv 0) T.kCursor.cl T.kCursor_sign.me G_Cursor_sign hr_Cursor_sign B_Cursor_sign .nil pass0) (pv 1) (nomark _))
        (pss_one (ps_ret pe_bl))
        pss_nil)
      (pss_cons (ps_expr (pe_meth0 (pv 0) T.kCursor.cl T.kCursor_take_sign.me G_Cursor_take_sign hr_Cursor_take_sign B_Cursor_take_sign .nil pass0))
      (pss_one (ps_ret pe_bl)))), ?_⟩
    refine ⟨_, rfl, C, dxC, _, rfl, hC0, cu_no (by decide +kernel), C, bs, dxC, p, rfl, A1, fun H1 k1 hC l1 => ?_⟩
    have A2 := A1.to hC l1
    refine ⟨_, rfl, C, dxC, _, rfl, hC, cu_no (by decide +kernel), C, bs, dxC, sk bs p, rfl, A2, _, rfl, rfl, _, rfl, ?_⟩
    rw [dec_vS, dec_sg hk]
    by_cases c1 : bs[sk bs p]? = some c
    · rw [if_pos c1] at k
      rw [decide_eq_true c1]
      refine iteF ?_
      have hl := (List.getElem?_eq_some_iff.mp c1).1
      exact ⟨_, rfl, C, dxC, _, rfl, hC, cu_no (by decide +kernel), C, bs, dxC, sk bs p, rfl, A2, hl, fun H' kp h' => k H' (k1.trans kp) h' hl⟩
    · rw [if_neg c1] at k
      rw [decide_eq_false c1]
      refine iteT ?_
      exact k H1 k1 hC l1
def spPassW (d : Ad) : Sp := fun vs H Q E => ∃ (C : Addr) (bs : List UInt8) (x : Addr) (p : Nat) (wd : List UInt8), vs = [.ref C, vS wd] ∧ CAt d bs C x H p ∧
  if (bs.drop (sk bs p)).takeWhile isLetter = wd then ∀ H', Keep C H H' → H' C = some (cur d x bs (upTo isLetter bs (sk bs p))) → upTo isLetter bs (sk bs p) ≤ bs.length → Q (.bl true) H' else ∀ H', Keep C H H' → H' C = some (cur d x bs (sk bs p)) → sk bs p ≤ bs.length → Q (.bl false) H'
theorem sc_pass_word_reading : FnScope ["cursor", "word", "start"] ["cursor", "word"] (defScope s_pass_word_reading) := ⟨rfl, rfl, rfl, by decide +kernel, rfl, by decide +kernel, by decide +kernel⟩
theorem ok_pass_word_reading (T : Txt K mg d) : OkD P w K mg base CX0 3 d.f_pass_word_reading ["cursor", "word"] (spPassW d) := by
  obtain ⟨fd, F, B⟩ := T.k_pass_word_reading.ex
  obtain ⟨⟨fd_Cursor_skip_blanks, G_Cursor_skip_blanks, B_Cursor_skip_blanks⟩, kp_Cursor_skip_blanks⟩ := ok_Cursor_skip_blanks (P := P) (w := w) (base := base) T
  obtain ⟨⟨fd_Cursor_take_letters, G_Cursor_take_letters, B_Cursor_take_letters⟩, kp_Cursor_take_letters⟩ := ok_Cursor_take_letters (P := P) (w := w) (base := base) T
  refine ⟨⟨fd, F.ok sc_pass_word_reading (fun vs H Q E h => ?_) (fun cdv A outer s H vs Q E hr h => ?_), B⟩, F.kp⟩
  · obtain ⟨C, bs, x, p, wd, rfl, _⟩ := h
    rfl
  · obtain ⟨C, bs, dxC, p, wd, rfl, A1, k⟩ := h
    have hC0 := A1.hC
    have hr_Cursor_skip_blanks : Room 2 _ := hr.mono (by decide)
    have hr_Cursor_take_letters : Room 2 _ := hr.mono (by decide)
    refine ⟨_, pss_cons (ps_expr (pe_meth0 (pv 0) T.kCursor.cl T.kCursor_skip_blanks.me G_Cursor_skip_blanks hr_Cursor_skip_blanks B_Cursor_skip_blanks .nil pass0))
      (pss_cons (ps_set (i := 2) sc_pass_word_reading.nd rfl (Or.inl rfl) (pe_fld (pv 0) rfl))
      (pss_cons (ps_if (pt_cmpR op_eq (pe_meth0 (pv 0) T.kCursor.cl T.kCursor_take_letters.me G_Cursor_take_letters hr_Cursor_take_letters B_Cursor_take_letters .nil pass0) (pv 1) (nomark _))
        (pss_one (ps_ret pe_bl))
        pss_nil)
      (pss_cons (ps_fld (pv 0) (pv 2) rfl)
      (pss_one (ps_ret pe_bl))))), ?_⟩
    refine ⟨_, rfl, C, dxC, _, rfl, hC0, cu_no (by decide +kernel), C, bs, dxC, p, rfl, A1, fun H1 k1 hC l1 => ?_⟩
    have A2 := A1.to hC l1
    refine ⟨_, rfl, C, d.cCursor, dxC, _, _, rfl, hC, T.kCursor.cl, T.kCursor.no.2.1, look_at _ _ _ 1 rfl (by decide +kernel), ?_⟩
    refine ⟨_, rfl, C, dxC, _, rfl, hC, cu_no (by decide +kernel), C, bs, dxC, sk bs p, rfl, A2, fun H2 k2 h2 l2 => ?_⟩
    refine ⟨_, rfl, rfl, _, rfl, ?_⟩
    rw [dec_vS]
    by_cases c1 : (bs.drop (sk bs p)).takeWhile isLetter = wd
    · rw [if_pos c1] at k
      rw [decide_eq_true c1]
      refine iteT ?_
      exact k H2 (k1.trans k2) h2 l2
    · rw [if_neg c1] at k
      rw [decide_eq_false c1]
      refine iteF ?_
      refine ⟨_, rfl, _, rfl, C, d.cCursor, dxC, _, rfl, h2, T.kCursor.cl, T.kCursor.no.2.1, (by show 2 < 1000; decide), ?_⟩
      exact k _ (fun b o hb ho => by rw [upd_ne hb]; exact k2 b o hb (k1 b o hb ho)) (by rw [upd_same, put_pl (q := sk bs p) rfl]) l1
/-! ### what a def that reads words gives back -/
def GiveC {α : Type} (d : Ad) (bs : List UInt8) (C : Addr) (p0 : Nat) (Rep : Hp → Hp → V → α → Prop) (H : Hp) (Q : VK) (E : XK) : Except ShBlazon.Fault (α × ShMarsh.Left) → Prop
  | .error f => ErrM d E f.1 f.2
  | .ok y => ∀ v H' x q p', Keep C H H' → H' C = some (cur d x bs q) → q ≤ bs.length → p' ≤ bs.length → p0 ≤ p' → y.2 = Lf bs p' → sk bs q = sk bs p' → Rep H H' v y.1 → Q v H'
abbrev Pc (α : Type) := ShMarsh.Left → Except ShBlazon.Fault (α × ShMarsh.Left)
def spC {α : Type} (d : Ad) (pre : Hp → List V → Nat → List UInt8 → Pc α → Prop) (Rep : Hp → Hp → V → α → Prop) : Sp := fun vs H Q E => ∃ (C : Addr) (us : List V) (bs : List UInt8) (x : Addr) (p p0 : Nat) (par : Pc α),
  vs = .ref C :: us ∧ CAt d bs C x H p ∧ p0 ≤ bs.length ∧ sk bs p = sk bs p0 ∧ pre H us p0 bs par ∧ GiveC d bs C p0 Rep H Q E (par (Lf bs p0))
def pre0C {α : Type} (g : Pc α) (_ : Hp) (us : List V) (_ : Nat) (_ : List UInt8) (par : Pc α) : Prop := us = [] ∧ par = g
theorem str_op : ("(" : Str) = strOf [40] := by decide +kernel
theorem txt_41 : (")" : Str) = (⟨#[(41 : UInt8).toNat]⟩ : Str) := by decide +kernel
theorem nb_get {bs : List UInt8} {i : Nat} {k : UInt8} (hk : okSign k = true) : (nb bs)[i]? = some k ↔ bs[i]? = some k := by
  rw [List.getElem?_map]
  cases bs[i]? with
  | none => exact ⟨fun z => (by cases z), fun z => (by cases z)⟩
  | some c =>
    constructor
    · intro z
      have z' : some (norm c) = some k := z
      injection z' with z'
      rw [(norm_eq hk).mp z']
    · intro z
      injection z with z
      show some (norm c) = some k
      rw [(norm_eq hk).mpr z]
theorem mv_keep {C : Addr} {H H1 H' : Hp} {o : HO} (k : Keep C H H1) (hC : H1 C = some o) : Mv H1 H' H H' := k.mv hC
theorem sc_read_blazon : FnScope ["cursor"] ["cursor"] (defScope s_read_blazon) := ⟨rfl, rfl, rfl, by decide +kernel, rfl, by decide +kernel, by decide +kernel⟩
theorem ok_read_blazon (T : Txt K mg d) : OkD P w K mg base (L2.CX P w) 17 d.f_read_blazon ["cursor"] (spC d (pre0C ShMarsh.armsIn) (RArms d)) := by
  obtain ⟨fd, F, B⟩ := T.k_read_blazon.ex
  obtain ⟨⟨fd_want_sign_behind_blanks, G_want_sign_behind_blanks, B_want_sign_behind_blanks⟩, kp_want_sign_behind_blanks⟩ := ok_want_sign_behind_blanks (P := P) (w := w) (base := base) T
  obtain ⟨⟨fd_read_arms, G_read_arms, B_read_arms⟩, kp_read_arms⟩ := ok_read_arms (P := P) (w := w) (base := base) T
  obtain ⟨⟨fd_Tokens, G_Tokens, B_Tokens⟩, kp_Tokens⟩ := ok_Tokens_init (P := P) (w := w) (base := base) T
  obtain ⟨c_END, m_END⟩ := T.sEND
  obtain ⟨c_OTHER_SIGN, m_OTHER_SIGN⟩ := T.nOTHER_SIGN
  refine ⟨⟨fd, F.okX sc_read_blazon (fun vs H Q E h => ?_) (fun cdv A outer s H vs Q E hr h => ?_), B⟩, F.kp⟩
  · obtain ⟨C, us, bs, x, p, p0, par, rfl, _, _, _, ⟨rfl, _⟩, _⟩ := h
    rfl
  · obtain ⟨C, us, bs, dxC, p, p0, par, rfl, A1, hp0, hsk, ⟨rfl, rfl⟩, k⟩ := h
    have hr_want_sign_behind_blanks : Room 4 _ := hr.mono (by decide)
    have hr_read_arms : Room 16 _ := hr.mono (by decide)
    have hr_Tokens : Room 2 _ := hr.mono (by decide)
    refine ⟨_, pss_cons (ps_expr (pe_call G_want_sign_behind_blanks hr_want_sign_behind_blanks rfl T.k_want_sign_behind_blanks.gl kp_want_sign_behind_blanks B_want_sign_behind_blanks .nil passX (pa_cons (pv 0) (pa_cons pe_str pa_nil))))
      (pss_cons (ps_if (pt_cmpR op_lt (pe_bm PySem.F.plainAttrs_str PySem.F.slot_str_find PySem.F.type_str_find mt_find3 (pe_fld (pv 0) rfl) (pa_cons (pgs m_END) (pa_cons (pe_fld (pv 0) rfl) pa_nil))) pe_int (nomark _))
        (pss_one (ps_raiseLow rfl T.xMisread hr takesX (pa_cons (pgi m_OTHER_SIGN) (pa_cons (pe_callB call_len_str (by rfl) T.b_len PySem.boot_len (pa_cons (pe_fld (pv 0) rfl) pa_nil)) pa_nil))))
        pss_nil)
      (pss_one (ps_ret (pe_call G_read_arms hr_read_arms rfl T.k_read_arms.gl kp_read_arms B_read_arms .nil passX (pa_cons (pe_make T.kTokens.mak G_Tokens hr_Tokens rfl T.kTokens.gl B_Tokens .nil pass0 (pa_cons (pv 0) pa_nil)) pa_nil))))), ?_⟩
    unfold ShMarsh.armsIn at k
    rw [need_lf, ← hsk] at k
    refine ⟨_, rfl, C, bs, dxC, p, 40, by rw [str_op]; rfl, by decide +kernel, A1, ?_⟩
    by_cases c1 : bs[sk bs p]? = some 40
    · rw [if_pos c1] at k ⊢
      intro H1 k1 hC l1
      dsimp only at k
      refine ⟨_, rfl, C, d.cCursor, dxC, _, _, rfl, hC, T.kCursor.cl, T.kCursor.no.1, look_at _ _ _ 0 rfl (by decide +kernel), rfl, _, rfl, C, d.cCursor, dxC, _, _, rfl, hC, T.kCursor.cl, T.kCursor.no.2.1, look_at _ _ _ 1 rfl (by decide +kernel), _, _, _, rfl, rfl, _, _, rfl, rfl, _, rfl, ?_⟩
      have fi : Txt.find3 (strOf (nb bs)) (")" : Str) ((sk bs p + 1 : Nat) : Int) < 0 ↔ ((bs.drop (sk bs p + 1)).takeWhile fun c => c != 41).length = (bs.drop (sk bs p + 1)).length := by
        rw [find_iff (nb bs) txt_41, end_none l1]
        constructor
        · intro z i hi e
          exact z i hi ((nb_get (by decide +kernel)).mpr e)
        · intro z i hi e
          exact z i hi ((nb_get (by decide +kernel)).mp e)
      by_cases c2 : ((bs.drop (sk bs p + 1)).takeWhile fun c => c != 41).length = (bs.drop (sk bs p + 1)).length
      · rw [if_pos c2] at k
        rw [decide_eq_true (fi.mpr c2)]
        refine iteT ?_
        refine ⟨_, rfl, C, d.cCursor, dxC, _, _, rfl, hC, T.kCursor.cl, T.kCursor.no.1, look_at _ _ _ 0 rfl (by decide +kernel), _, rfl, nb_fit A1.sz, _, _, rfl, fun z hz => k z _ ?_⟩
        rw [upd_same, strOf_len, List.length_map, c2, List.length_drop]
        have : sk bs p + 1 + (bs.length - (sk bs p + 1)) = bs.length := by omega
        rw [this]
        rfl
      · rw [if_neg c2] at k
        rw [decide_eq_false fun z => c2 (fi.mp z)]
        refine iteF ?_
        obtain ⟨bz, hseg⟩ := end_bz c2
        have hlt := bz.lt
        refine ⟨_, rfl, ?_⟩
        intro R x nR nx ne
        refine ⟨R, x, C, rfl, upd_same, fun H2 hb hR => ⟨rfl, ?_⟩⟩
        have s2 : Same H1 H2 := fun b o z => by
          rw [hb b (ne_of_none z nR), upd_ne (ne_of_none z nR), upd_ne (ne_of_none z nx)]
          exact z
        refine ⟨R, C, bs, sk bs p + 1, endP bs (sk bs p + 1), _, rfl, A1.sz, bz, .inl ⟨x, dxC, sk bs p + 1, hR, s2 _ _ hC, Nat.le_refl _, bz.le, rfl⟩, ?_⟩
        rw [tks_of, ← arms_read, hseg]
        cases e3 : ShBlazon.read ((bs.drop (sk bs p + 1)).takeWhile fun c => c != 41) with
        | error f => rw [e3] at k; exact k
        | ok a =>
        rw [e3] at k
        dsimp only at k
        intro v H' xC kp hC' ra
        have nRH : H R = none := k1.free hC nR
        refine k v H' xC (endP bs (sk bs p + 1) + 1) (endP bs (sk bs p + 1) + 1) (fun b o hbC ho => ?_) hC' hlt hlt ?_ ?_ rfl (RArms.mv ra ⟨fun b hb' => k1.free hC (s2.free hb'), fun _ _ _ z => z⟩)
        · have h1 := k1 b o hbC ho
          exact kp b o (ne_of_none h1 nR) hbC (s2 _ _ h1)
        · have g1 := sk_ge bs p0
          have g2 := bz.le
          omega
        · show (_, (bs.drop (sk bs p + 1)).drop _) = (_, bs.drop (endP bs (sk bs p + 1) + 1))
          unfold endP upTo
          rw [List.drop_drop, Nat.add_assoc (sk bs p + 1)]
    · rw [if_neg c1] at k ⊢
      exact k
/-! ### marks -/
def spNumP (d : Ad) : Sp := fun vs H Q E => ∃ (C : Addr) (bs : List UInt8) (x : Addr) (p : Nat), vs = [.ref C] ∧ CAt d bs C x H p ∧
  match numP bs p with
  | .error f => ErrM d E f.1 f.2
  | .ok y => ∀ H', Keep C H H' → H' C = some (cur d x bs y.2) → y.2 ≤ bs.length → Q (vN y.1) H'
theorem str_e0 : ("" : Str) = strOf [] := by decide +kernel
theorem str_0 : ("0" : Str) = strOf [48] := by decide +kernel
theorem num_len3 {d : List UInt8} (h : d = [48] ∨ isNum d = true) : d.length ≤ 3 := by
  rcases h with z | z
  · rw [z]; decide
  · unfold isNum at z
    rw [Bool.and_eq_true] at z
    exact of_decide_eq_true z.1
theorem sc_take_mark_number : FnScope ["cursor", "start", "digits"] ["cursor"] (defScope s_take_mark_number) := ⟨rfl, rfl, rfl, by decide +kernel, rfl, by decide +kernel, by decide +kernel⟩
theorem ok_take_mark_number (T : Txt K mg d) : OkD P w K mg base (L2.CX P w) 3 d.f_take_mark_number ["cursor"] (spNumP d) := by
  obtain ⟨fd, F, B⟩ := T.k_take_mark_number.ex
  obtain ⟨⟨fd_Cursor_take_digits, G_Cursor_take_digits, B_Cursor_take_digits⟩, kp_Cursor_take_digits⟩ := ok_Cursor_take_digits (P := P) (w := w) (base := base) T
  obtain ⟨⟨fd_is_number, G_is_number, B_is_number⟩, kp_is_number⟩ := ok_is_number (P := P) (w := w) (base := base) T
  obtain ⟨c_OTHER_SIGN, m_OTHER_SIGN⟩ := T.nOTHER_SIGN
  obtain ⟨c_NO_NUMBER, m_NO_NUMBER⟩ := T.nNO_NUMBER
  refine ⟨⟨fd, F.okX sc_take_mark_number (fun vs H Q E h => ?_) (fun cdv A outer s H vs Q E hr h => ?_), B⟩, F.kp⟩
  · obtain ⟨C, bs, x, p, rfl, _⟩ := h
    rfl
  · obtain ⟨C, bs, dxC, p, rfl, A1, k⟩ := h
    have hC := A1.hC
    have hr_Cursor_take_digits : Room 2 _ := hr.mono (by decide)
    have hr_is_number : Room 1 _ := hr.mono (by decide)
    refine ⟨_, pss_cons (ps_set (i := 1) sc_take_mark_number.nd rfl (Or.inl rfl) (pe_fld (pv 0) rfl))
      (pss_cons (ps_set (i := 2) sc_take_mark_number.nd rfl (Or.inl rfl) (pe_meth0 (pv 0) T.kCursor.cl T.kCursor_take_digits.me G_Cursor_take_digits hr_Cursor_take_digits B_Cursor_take_digits .nil pass0))
      (pss_cons (ps_if (pt_cmpR op_eq (pv 2) pe_str (nomark _))
        (pss_one (ps_raiseLow rfl T.xMisread hr takesX (pa_cons (pgi m_OTHER_SIGN) (pa_cons (pv 1) pa_nil))))
        pss_nil)
      (C8.pss_cut (ps_if (PW.pt (pw_and (pt_cmpR op_ne (pv 2) pe_str (nomark _)) (pw_and1 (pt_not (pt_val (pe_call G_is_number hr_is_number rfl T.k_is_number.gl kp_is_number B_is_number .nil pass0 (pa_cons (pv 2) pa_nil)))))))
        (pss_one (ps_raiseLow rfl T.xMisread hr takesX (pa_cons (pgi m_NO_NUMBER) (pa_cons (pv 1) pa_nil))))
        pss_nil)
      (pss_one (ps_ret (pe_callTy call_int_str (by rfl) T.b_int (by decide +kernel) (pa_cons (pv 2) pa_nil))))))), ?_⟩
    unfold numP at k
    refine ⟨_, rfl, C, d.cCursor, dxC, _, _, rfl, hC, T.kCursor.cl, T.kCursor.no.2.1, look_at _ _ _ 1 rfl (by decide +kernel), ?_⟩
    refine ⟨_, rfl, C, dxC, _, rfl, hC, cu_no (by decide +kernel), C, bs, dxC, p, rfl, A1, fun H1 k1 h1 l1 => ?_⟩
    refine ⟨_, rfl, rfl, _, rfl, ?_⟩
    rw [str_e0, dec_vS]
    by_cases c1 : (bs.drop p).takeWhile isDigit = []
    · rw [if_pos c1] at k
      rw [decide_eq_true c1]
      refine iteT ?_
      exact ⟨_, rfl, _, _, rfl, fun z hz => k z _ upd_same⟩
    · rw [if_neg c1] at k
      rw [decide_eq_false c1]
      refine iteF ?_
      have all := tw_all (P := isDigit) (bs.drop p)
      have hlen : ((bs.drop p).takeWhile isDigit).length ≤ 4096 := by
        have := tw_len_le (P := isDigit) (bs.drop p)
        rw [List.length_drop] at this
        have := A1.sz
        omega
      by_cases c2 : (bs.drop p).takeWhile isDigit ≠ [48] ∧ isNum ((bs.drop p).takeWhile isDigit) = false
      · rw [if_pos c2] at k
        refine ⟨fun _ _ => False, ?_, fun _ _ z => z.elim⟩
        refine ⟨_, rfl, rfl, _, rfl, ?_⟩
        rw [str_0, dec_vS, decide_eq_false c2.1]
        refine iteT ?_
        refine ⟨_, rfl, _, rfl, hlen, _, rfl, ?_⟩
        rw [c2.2]
        refine iteT ?_
        exact ⟨_, rfl, _, _, rfl, fun z hz => k z _ upd_same⟩
      · rw [if_neg c2] at k
        have h3 : (bs.drop p).takeWhile isDigit = [48] ∨ isNum ((bs.drop p).takeWhile isDigit) = true := by
          by_cases z : (bs.drop p).takeWhile isDigit = [48]
          · exact .inl z
          · right
            cases y : isNum ((bs.drop p).takeWhile isDigit) with
            | true => rfl
            | false => exact absurd ⟨z, y⟩ c2
        refine ⟨fun σ' H' => σ' = [some (.ref C), some (vN p), some (vS ((bs.drop p).takeWhile isDigit))] ∧ H' = H1, ?_, ?_⟩
        · refine ⟨_, rfl, rfl, _, rfl, ?_⟩
          rw [str_0, dec_vS]
          by_cases z : (bs.drop p).takeWhile isDigit = [48]
          · rw [decide_eq_true z]
            exact iteF (iteF ⟨rfl, rfl⟩)
          · rw [decide_eq_false z]
            refine iteT ?_
            refine ⟨_, rfl, _, rfl, hlen, _, rfl, ?_⟩
            rw [h3.resolve_left z]
            exact iteF ⟨rfl, rfl⟩
        · rintro σ' H' ⟨rfl, rfl⟩
          refine ⟨_, rfl, _, _, rfl, int_of c1 (num_len3 h3) all, (by rw [strOf_len]; have := num_len3 h3; omega), ?_⟩
          exact k H' k1 h1 l1
def spMarkP (d : Ad) : Sp := fun vs H Q E => ∃ (C : Addr) (bs : List UInt8) (x : Addr) (p : Nat), vs = [.ref C] ∧ CAt d bs C x H p ∧
  match markP bs p with
  | .error f => ErrM d E f.1 f.2
  | .ok y => ∀ v H', Keep C H H' → H' C = some (cur d x bs y.2) → y.2 ≤ bs.length → RMark d H H' v y.1 → Q v H'
theorem str_dot : ("." : Str) = strOf [46] := by decide +kernel
theorem sc_read_mark : FnScope ["cursor", "start", "g", "k"] ["cursor"] (defScope s_read_mark) := ⟨rfl, rfl, rfl, by decide +kernel, rfl, by decide +kernel, by decide +kernel⟩
theorem ok_read_mark (T : Txt K mg d) : OkD P w K mg base (L2.CX P w) 4 d.f_read_mark ["cursor"] (spMarkP d) := by
  obtain ⟨fd, F, B⟩ := T.k_read_mark.ex
  obtain ⟨⟨fd_take_mark_number, G_take_mark_number, B_take_mark_number⟩, kp_take_mark_number⟩ := ok_take_mark_number (P := P) (w := w) (base := base) T
  obtain ⟨⟨fd_want_sign, G_want_sign, B_want_sign⟩, kp_want_sign⟩ := ok_want_sign (P := P) (w := w) (base := base) T
  obtain ⟨⟨fd_Mark, G_Mark, B_Mark⟩, kp_Mark⟩ := ok_Mark_init (P := P) (w := w) (base := base) T
  obtain ⟨c_MOST_G, m_MOST_G⟩ := T.nMOST_G
  obtain ⟨c_LEAST_K, m_LEAST_K⟩ := T.nLEAST_K
  obtain ⟨c_MOST_K, m_MOST_K⟩ := T.nMOST_K
  obtain ⟨c_MARK_OUT_OF_BOUNDS, m_MARK_OUT_OF_BOUNDS⟩ := T.nMARK_OUT_OF_BOUNDS
  refine ⟨⟨fd, F.okX sc_read_mark (fun vs H Q E h => ?_) (fun cdv A outer s H vs Q E hr h => ?_), B⟩, F.kp⟩
  · obtain ⟨C, bs, x, p, rfl, _⟩ := h
    rfl
  · obtain ⟨C, bs, dxC, p, rfl, A1, k⟩ := h
    have hC := A1.hC
    have hr_take_mark_number : Room 3 _ := hr.mono (by decide)
    have hr_want_sign : Room 3 _ := hr.mono (by decide)
    have hr_Mark : Room 2 _ := hr.mono (by decide)
    refine ⟨_, pss_cons (ps_set (i := 1) sc_read_mark.nd rfl (Or.inl rfl) (pe_fld (pv 0) rfl))
      (pss_cons (ps_set (i := 2) sc_read_mark.nd rfl (Or.inl rfl) (pe_call G_take_mark_number hr_take_mark_number rfl T.k_take_mark_number.gl kp_take_mark_number B_take_mark_number .nil passX (pa_cons (pv 0) pa_nil)))
      (pss_cons (ps_expr (pe_call G_want_sign hr_want_sign rfl T.k_want_sign.gl kp_want_sign B_want_sign .nil passX (pa_cons (pv 0) (pa_cons pe_str pa_nil))))
      (pss_cons (ps_set (i := 3) sc_read_mark.nd rfl (Or.inl rfl) (pe_call G_take_mark_number hr_take_mark_number rfl T.k_take_mark_number.gl kp_take_mark_number B_take_mark_number .nil passX (pa_cons (pv 0) pa_nil)))
      (C8.pss_cut (ps_if (PW.pt (pw_or (pt_cmpR op_gt (pv 2) (pgi m_MOST_G) (nomark _)) (pw_or (pt_cmpR op_lt (pv 3) (pgi m_LEAST_K) (nomark _)) (pw_or1 (pt_cmpR op_gt (pv 3) (pgi m_MOST_K) (nomark _))))))
        (pss_one (ps_raiseLow rfl T.xMisread hr takesX (pa_cons (pgi m_MARK_OUT_OF_BOUNDS) (pa_cons (pv 1) pa_nil))))
        pss_nil)
      (pss_one (ps_ret (pe_make T.kMark.mak G_Mark hr_Mark rfl T.kMark.gl B_Mark .nil pass0 (pa_cons (pv 2) (pa_cons (pv 3) pa_nil))))))))), ?_⟩
    unfold markP at k
    refine ⟨_, rfl, C, d.cCursor, dxC, _, _, rfl, hC, T.kCursor.cl, T.kCursor.no.2.1, look_at _ _ _ 1 rfl (by decide +kernel), ?_⟩
    refine ⟨_, rfl, C, bs, dxC, p, rfl, A1, ?_⟩
    cases e1 : numP bs p with
    | error f => rw [e1] at k; exact k
    | ok g =>
    rw [e1] at k
    dsimp only at k
    intro H1 k1 h1 l1
    have A2 := A1.to h1 l1
    refine ⟨_, rfl, C, bs, dxC, g.2, 46, by rw [str_dot]; rfl, by decide +kernel, A2, ?_⟩
    by_cases c1 : bs[g.2]? = some 46
    · rw [if_pos c1] at k ⊢
      intro H2 k2 h2 l2
      have A3 := A2.to h2 l2
      refine ⟨_, rfl, C, bs, dxC, g.2 + 1, rfl, A3, ?_⟩
      cases e2 : numP bs (g.2 + 1) with
      | error f => rw [e2] at k; exact k
      | ok kk =>
      rw [e2] at k
      dsimp only at k
      intro H3 k3 h3 l3
      have K3 := (k1.trans k2).trans k3
      refine ⟨fun σ' H' => σ' = [some (.ref C), some (vN p), some (vN g.1), some (vN kk.1)] ∧ H' = H3 ∧ ShMarsh.markFine (g.1, kk.1) = true, ?_, ?_⟩
      · unfold ShMarsh.markFine at k ⊢
        dsimp only at k ⊢
        refine ⟨_, rfl, _, _, rfl, rfl, _, rfl, ?_⟩
        refine ite2 (fun q => ?_) (fun q => ?_)
        · have q' : ¬ g.1 < 128 := by have := of_decide_eq_true q; omega
          rw [decide_eq_false q', Bool.false_and, if_neg Bool.false_ne_true] at k
          refine iteT ?_
          exact ⟨_, rfl, _, _, rfl, fun z hz => k z _ upd_same⟩
        · have q' : g.1 < 128 := by
            have : ¬ (g.1 : Int) > 127 := fun z => q (decide_eq_true z)
            omega
          rw [decide_eq_true q', Bool.true_and] at k ⊢
          refine ⟨_, rfl, _, _, rfl, rfl, _, rfl, ?_⟩
          refine ite2 (fun q2 => ?_) (fun q2 => ?_)
          · have q3 : ¬ 1 ≤ kk.1 := by have := of_decide_eq_true q2; omega
            rw [decide_eq_false q3, Bool.false_and, if_neg Bool.false_ne_true] at k
            refine iteT ?_
            exact ⟨_, rfl, _, _, rfl, fun z hz => k z _ upd_same⟩
          · have q3 : 1 ≤ kk.1 := by
              have : ¬ (kk.1 : Int) < 1 := fun z => q2 (decide_eq_true z)
              omega
            rw [decide_eq_true q3, Bool.true_and] at k ⊢
            refine ⟨_, rfl, _, _, rfl, rfl, _, rfl, ?_⟩
            refine ite2 (fun q4 => ?_) (fun q4 => ?_)
            · have q5 : ¬ kk.1 < 256 := by have := of_decide_eq_true q4; omega
              rw [decide_eq_false q5, if_neg Bool.false_ne_true] at k
              exact ⟨_, rfl, _, _, rfl, fun z hz => k z _ upd_same⟩
            · have q5 : kk.1 < 256 := by
                have : ¬ (kk.1 : Int) > 255 := fun z => q4 (decide_eq_true z)
                omega
              exact ⟨rfl, rfl, decide_eq_true q5⟩
      · rintro σ' H' ⟨rfl, rfl, hm⟩
        rw [if_pos hm] at k
        refine ⟨_, rfl, _, rfl, ?_⟩
        refine made rfl fun y dy H4 ny s4 hy => ?_
        exact k _ H4 (K3.trans (Keep.of s4)) (s4 _ _ h3) l3 ⟨y, dy, rfl, K3.free h3 ny, hy⟩
    · rw [if_neg c1] at k ⊢
      exact k
end
end HC


namespace HC
open PySem PySem.Spec PyProof.Rows L2
open ShBlazon (isLetter isDigit isBlank valueOf ascii)
def marksM : Pc (List (Nat × Nat)) := fun t => match ShMarsh.marksIn 60 t with
  | .error e => .error e
  | .ok m => if m.1.isEmpty = true then .error (10, (ShMarsh.skip t).1) else .ok (m.1, m.2)
theorem marks_step {bs : List UInt8} {p : Nat} (h : hereP isDigit bs (sk bs p) = true) (n : Nat) : ShMarsh.marksIn (n + 1) (Lf bs p) = match markP bs (sk bs p) with
    | .error e => .error e
    | .ok y => match ShMarsh.marksIn n (Lf bs y.2) with
      | .error e => .error e
      | .ok l => .ok (y.1 :: l.1, l.2) := by
  show (if ShMarsh.digitNext (Lf bs p) = true then _ else _) = _
  rw [digit_lf, if_pos h, skip_lf, mark_lf]
  cases markP bs (sk bs p) with
  | error e => rfl
  | ok y => rfl
theorem marks_stop {bs : List UInt8} {p : Nat} (h : hereP isDigit bs (sk bs p) = false) : ∀ n, ShMarsh.marksIn n (Lf bs p) = .ok ([], Lf bs p)
  | 0 => by
    show (if ShMarsh.digitNext (Lf bs p) = true then _ else _) = _
    rw [digit_lf, h]
    rfl
  | n + 1 => by
    show (if ShMarsh.digitNext (Lf bs p) = true then _ else _) = _
    rw [digit_lf, h]
    rfl
theorem marks_full {bs : List UInt8} {p : Nat} (h : hereP isDigit bs (sk bs p) = true) : ShMarsh.marksIn 0 (Lf bs p) = .error (12, sk bs p) := by
  show (if ShMarsh.digitNext (Lf bs p) = true then _ else _) = _
  rw [digit_lf, if_pos h, skip_lf]
theorem mark_none {bs : List UInt8} {q : Nat} (h : hereP isDigit bs q = false) : markP bs q = .error (10, q) := by
  unfold markP numP
  have e : (bs.drop q).takeWhile isDigit = [] := by
    unfold hereP at h
    cases c : bs[q]? with
    | none => rw [drop_none c]; rfl
    | some x =>
      rw [c] at h
      replace h : isDigit x = false := h
      rw [drop_cons c, List.takeWhile_cons_of_neg (by rw [h]; exact Bool.false_ne_true)]
  rw [if_pos e]
def prefM (xs : List (Nat × Nat)) : Except ShBlazon.Fault (List (Nat × Nat) × ShMarsh.Left) → Except ShBlazon.Fault (List (Nat × Nat) × ShMarsh.Left)
  | .error e => .error e
  | .ok l => .ok (xs ++ l.1, l.2)
section
variable {P : Program} {w : World} {K : PySem.W.Frag} {mg : Str → Option Value} {base : Heap} {d : Ad}
theorem n_gt : ("g" : Str) ≠ "text" := by decide +kernel
theorem RMark.stay {H0 H H' : Hp} {C l x : Addr} {bs : List UInt8} {q : Nat} {us : List V} {v : V} {y : Nat × Nat} (h : RMark d H0 H v y) (hC : H C = some (cur d x bs q)) (hl : H l = some (.lst us)) (k : ∀ b o, b ≠ C → b ≠ l → H b = some o → H' b = some o) : RMark d H0 H' v y := by
  obtain ⟨b, dx, e, n, o⟩ := h
  exact ⟨b, dx, e, n, k b _ (ne_of o hC (ins_ne n_gt)) (ne_of o hl (by intro z; cases z)) o⟩
theorem sc_read_marks : FnScope ["cursor", "marks"] ["cursor"] (defScope s_read_marks) := ⟨rfl, rfl, rfl, by decide +kernel, rfl, by decide +kernel, by decide +kernel⟩
theorem ok_read_marks (T : Txt K mg d) : OkD P w K mg base (L2.CX P w) 5 d.f_read_marks ["cursor"] (spC d (pre0C marksM) (RMarks d)) := by
  obtain ⟨fd, F, B⟩ := T.k_read_marks.ex
  obtain ⟨⟨fd_Cursor_skip_blanks, G_Cursor_skip_blanks, B_Cursor_skip_blanks⟩, kp_Cursor_skip_blanks⟩ := ok_Cursor_skip_blanks (P := P) (w := w) (base := base) T
  obtain ⟨⟨fd_read_mark, G_read_mark, B_read_mark⟩, kp_read_mark⟩ := ok_read_mark (P := P) (w := w) (base := base) T
  obtain ⟨⟨fd_Cursor_sign, G_Cursor_sign, B_Cursor_sign⟩, kp_Cursor_sign⟩ := ok_Cursor_sign (P := P) (w := w) (base := base) T
  obtain ⟨c_MOST_MARKS, m_MOST_MARKS⟩ := T.nMOST_MARKS
  obtain ⟨c_MARK_TOO_MANY, m_MARK_TOO_MANY⟩ := T.nMARK_TOO_MANY
  refine ⟨⟨fd, F.okX sc_read_marks (fun vs H Q E h => ?_) (fun cdv A outer s H vs Q E hr h => ?_), B⟩, F.kp⟩
  · obtain ⟨C, us, bs, x, p, p0, par, rfl, _, _, _, ⟨rfl, _⟩, _⟩ := h
    rfl
  · obtain ⟨C, us, bs, dxC, p, p0, par, rfl, A1, hp0, hsk, ⟨rfl, rfl⟩, k⟩ := h
    have hC0 := A1.hC
    have hr_Cursor_skip_blanks : Room 2 _ := hr.mono (by decide)
    have hr_read_mark : Room 4 _ := hr.mono (by decide)
    have hr_Cursor_sign : Room 1 _ := hr.mono (by decide)
    refine ⟨_, pss_cons (ps_expr (pe_meth0 (pv 0) T.kCursor.cl T.kCursor_skip_blanks.me G_Cursor_skip_blanks hr_Cursor_skip_blanks B_Cursor_skip_blanks .nil pass0))
      (pss_cons (ps_set (i := 1) sc_read_marks.nd rfl (Or.inl rfl) (pe_lst (pa_cons (pe_call G_read_mark hr_read_mark rfl T.k_read_mark.gl kp_read_mark B_read_mark .nil passX (pa_cons (pv 0) pa_nil)) pa_nil)))
      (pss_cons (ps_expr (pe_meth0 (pv 0) T.kCursor.cl T.kCursor_skip_blanks.me G_Cursor_skip_blanks hr_Cursor_skip_blanks B_Cursor_skip_blanks .nil pass0))
      (pss_cons (ps_while ownX (pt_val (pe_m0 PySem.F.slot_str_isdigit PySem.F.type_str_isdigit mt_isdigit (pe_meth0 (pv 0) T.kCursor.cl T.kCursor_sign.me G_Cursor_sign hr_Cursor_sign B_Cursor_sign .nil pass0)))
        (pss_cons (ps_if (pt_cmpR op_eq (pe_callB call_len_seq (by rfl) T.b_len PySem.boot_len (pa_cons (pv 1) pa_nil)) (pgi m_MOST_MARKS) (nomark _))
        (pss_one (ps_raiseLow rfl T.xMisread hr takesX (pa_cons (pgi m_MARK_TOO_MANY) (pa_cons (pe_fld (pv 0) rfl) pa_nil))))
        pss_nil)
      (pss_cons (ps_expr (pe_bm PySem.F.plainAttrs_list PySem.F.slot_list_append PySem.F.type_list_append mt_append (pv 1) (pa_cons (pe_call G_read_mark hr_read_mark rfl T.k_read_mark.gl kp_read_mark B_read_mark .nil passX (pa_cons (pv 0) pa_nil)) pa_nil)))
      (pss_one (ps_expr (pe_meth0 (pv 0) T.kCursor.cl T.kCursor_skip_blanks.me G_Cursor_skip_blanks hr_Cursor_skip_blanks B_Cursor_skip_blanks .nil pass0))))))
      (pss_one (ps_ret (pv 1)))))), ?_⟩
    unfold marksM at k
    rw [skip_lf, ← hsk] at k
    refine ⟨_, rfl, C, dxC, _, rfl, hC0, cu_no (by decide +kernel), C, bs, dxC, p, rfl, A1, fun H1 k1 h1 l1 => ?_⟩
    have A2 := A1.to h1 l1
    refine ⟨_, rfl, C, bs, dxC, sk bs p, rfl, A2, ?_⟩
    cases hd : hereP isDigit bs (sk bs p) with
    | false =>
      rw [mark_none hd]
      rw [marks_stop (by rw [← hsk]; exact hd)] at k
      exact k
    | true =>
    have hd0 : hereP isDigit bs (sk bs p0) = true := by rw [← hsk]; exact hd
    have e0 := marks_step hd0 59
    rw [← hsk] at e0
    cases e1 : markP bs (sk bs p) with
    | error f =>
      rw [e1] at e0
      replace e0 : ShMarsh.marksIn 60 (Lf bs p0) = .error f := e0
      rw [e0] at k
      exact k
    | ok y =>
    rw [e1] at e0
    replace e0 : ShMarsh.marksIn 60 (Lf bs p0) = prefM [y.1] (ShMarsh.marksIn 59 (Lf bs y.2)) := by
      rw [show ShMarsh.marksIn 60 (Lf bs p0) = _ from e0]
      dsimp only
      cases ShMarsh.marksIn 59 (Lf bs y.2) <;> rfl
    intro v1 H2 k2 h2 l2 rm
    refine ⟨(by show 1 ≤ sizeLine; decide), fun l nl => ?_⟩
    have s3 : Same H2 (upd H2 l (.lst [v1])) := new_same nl
    have h3 := s3 _ _ h2
    have K2 := k1.trans k2
    have nlH : H l = none := K2.free h2 nl
    have nCl : C ≠ l := ne_of_none h2 nl
    refine ⟨_, rfl, C, dxC, _, rfl, h3, cu_no (by decide +kernel), C, bs, dxC, y.2, rfl, A2.to h3 l2, fun H4 k4 h4 l4 => ?_⟩
    have hy0 : p0 ≤ y.2 := Nat.le_trans (sk_ge bs p0) (by rw [← hsk]; exact (markP_le l1 e1).2)
    have K4 : Keep C H H4 := fun b o hb ho => k4 b o hb (s3 _ _ (K2 b o hb ho))
    refine ⟨fun m σ' Hc => ∃ us xs p', m = 60 - xs.length ∧ σ' = [some (.ref C), some (.ref l)] ∧ Keep C H Hc ∧ Hc C = some (cur d dxC bs (sk bs p')) ∧ (p' ≤ bs.length ∧ p0 ≤ p') ∧ Hc l = some (.lst us) ∧ All2 (RMark d H Hc) us xs ∧ 1 ≤ xs.length ∧ xs.length ≤ 60 ∧ ShMarsh.marksIn 60 (Lf bs p0) = prefM xs (ShMarsh.marksIn (60 - xs.length) (Lf bs p')),
      ⟨_, [v1], [y.1], y.2, rfl, rfl, K4, h4, ⟨l2, hy0⟩, k4 l _ nCl.symm upd_same, .cons ?_ .nil, Nat.le_refl _, (show 1 ≤ 60 by decide), e0⟩, ?_⟩
    · have r1 : RMark d H H2 v1 y.1 := RMark.mv rm (k1.mv h1)
      exact (RMark.mv r1 (Mv.here s3)).stay h3 upd_same fun b o b1 b2 hb => k4 b o b1 hb
    rintro m σ' Hc ⟨us, xs, p', rfl, rfl, kc, hC, ⟨lp', l0'⟩, hl, al, x1, x60, eq⟩
    have hlen := al.length
    have lq := sk_le lp'
    refine ⟨_, rfl, C, dxC, _, rfl, hC, cu_no (by decide +kernel), C, bs, dxC, sk bs p', rfl, ⟨hC, lq, A1.sz⟩, ⟨_, rfl⟩, _, rfl, rfl, trivial, _, rfl, ?_⟩
    rw [sg_digit]
    cases hd' : hereP isDigit bs (sk bs p') with
    | true =>
      refine iteT ?_
      refine ⟨fun σ' Hd => ∃ us xs' p', xs'.length = xs.length + 1 ∧ σ' = [some (.ref C), some (.ref l)] ∧ Keep C H Hd ∧ Hd C = some (cur d dxC bs (sk bs p')) ∧ (p' ≤ bs.length ∧ p0 ≤ p') ∧ Hd l = some (.lst us) ∧ All2 (RMark d H Hd) us xs' ∧ 1 ≤ xs'.length ∧ xs'.length ≤ 60 ∧ ShMarsh.marksIn 60 (Lf bs p0) = prefM xs' (ShMarsh.marksIn (60 - xs'.length) (Lf bs p')), fun σ' Hd ⟨us', xs', q', g1, g2⟩ => ⟨60 - xs'.length, ?_, us', xs', q', rfl, g2⟩, ?_⟩
      · have := g2.2.2.2.2.2.2.2.1
        omega
      refine ⟨_, rfl, l, us, rfl, .inl (SqL.of hl), rfl, _, rfl, ?_⟩
      by_cases c60 : xs.length = 60
      · rw [hlen, c60, decide_eq_true (show V.int ((60 : Nat) : Int) = V.int 60 from rfl)]
        refine iteT ?_
        rw [eq, c60, Nat.sub_self, marks_full hd'] at k
        exact ⟨_, rfl, C, d.cCursor, dxC, _, _, rfl, hC, T.kCursor.cl, T.kCursor.no.2.1, look_at _ _ _ 1 rfl (by decide +kernel), _, _, rfl, fun z hz => k z _ upd_same⟩
      · rw [hlen, decide_eq_false (show ¬ V.int ((xs.length : Nat) : Int) = V.int 60 from fun z => c60 (by injection z with z; omega))]
        refine iteF ?_
        have ej : 60 - xs.length = (60 - (xs.length + 1)) + 1 := by omega
        have es := marks_step hd' (60 - (xs.length + 1))
        rw [← ej] at es
        refine ⟨_, rfl, .inl ⟨rfl, _, SqL.of hl⟩, _, rfl, C, bs, dxC, sk bs p', rfl, ⟨hC, lq, A1.sz⟩, ?_⟩
        cases e5 : markP bs (sk bs p') with
        | error f =>
          rw [eq, es, e5] at k
          exact k
        | ok z =>
        rw [e5] at es
        dsimp only at es
        intro v5 H5 k5 h5 l5 rm5
        have nlC : l ≠ C := nCl.symm
        have hl5 := k5 l _ nlC hl
        refine ⟨l, us, v5, rfl, rfl, hl5, (by rw [hlen]; exact Nat.lt_of_le_of_lt x60 (by decide)), ?_⟩
        have h6 : (upd H5 l (.lst (us ++ [v5]))) C = some (cur d dxC bs z.2) := by rw [upd_ne nCl]; exact h5
        refine ⟨_, rfl, C, dxC, _, rfl, h6, cu_no (by decide +kernel), C, bs, dxC, z.2, rfl, ⟨h6, l5, A1.sz⟩, fun H7 k7 h7 l7 => ?_⟩
        have st : ∀ b o, b ≠ C → b ≠ l → H5 b = some o → H7 b = some o := fun b o b1 b2 hb => k7 b o b1 (by rw [upd_ne b2]; exact hb)
        refine ⟨us ++ [v5], xs ++ [z.1], z.2, by rw [List.length_append]; rfl, rfl, fun b o hb ho => ?_, h7, ⟨l5, Nat.le_trans l0' (Nat.le_trans (sk_ge bs p') (markP_le lq e5).2)⟩, k7 l _ nlC upd_same, ?_, by rw [List.length_append]; omega, by rw [List.length_append]; show xs.length + 1 ≤ 60; omega, ?_⟩
        · exact st b o hb (ne_of_none ho nlH) (k5 b o hb (kc b o hb ho))
        · refine (al.mono fun v' y' q => ?_).snoc ?_
          · have q5 : RMark d H H5 v' y' := q.stay hC hl fun b o b1 _ hb => k5 b o b1 hb
            exact q5.stay h5 hl5 st
          · exact (RMark.mv rm5 (kc.mv hC)).stay h5 hl5 st
        · rw [eq, es, List.length_append]
          show prefM xs _ = prefM (xs ++ [z.1]) (ShMarsh.marksIn (60 - (xs.length + 1)) (Lf bs z.2))
          cases ShMarsh.marksIn (60 - (xs.length + 1)) (Lf bs z.2) with
          | error g => rfl
          | ok ll =>
            show Except.ok (xs ++ (z.1 :: ll.1), ll.2) = Except.ok ((xs ++ [z.1]) ++ ll.1, ll.2)
            rw [List.append_assoc]
            rfl
    | false =>
      refine iteF ?_
      rw [eq, marks_stop hd'] at k
      have e7 : prefM xs (.ok ([], Lf bs p')) = .ok (xs, Lf bs p') := by
        show Except.ok (xs ++ [], Lf bs p') = _
        rw [List.append_nil]
      rw [e7] at k
      dsimp only at k
      rw [if_neg (by cases xs with
        | nil => exact absurd x1 (by decide)
        | cons _ _ => exact Bool.false_ne_true)] at k
      exact ⟨_, rfl, k _ Hc dxC (sk bs p') p' kc hC lq lp' l0' rfl (sk_sk _ _) ⟨l, us, rfl, ⟨nlH, hl⟩, al⟩⟩
end
end HC


namespace HC
open PySem PySem.Spec PyProof.Rows L2
open ShBlazon (isLetter isDigit isBlank valueOf ascii)
theorem marked_is' (a : Sh.Arms) (c : Option Sh.Arms) (bs : List UInt8) (p : Nat) : ShMarsh.markedIn a c (Lf bs p) = if (bs.drop (sk bs p)).takeWhile isLetter = ascii "marked" then (match marksM (Lf bs (upTo isLetter bs (sk bs p))) with
    | .error e => Except.error e
    | .ok m => Except.ok (ShMarsh.Coat.one ⟨a, c, m.1⟩, m.2)) else Except.ok (ShMarsh.Coat.one ⟨a, c, []⟩, Lf bs p) := by
  unfold ShMarsh.markedIn
  rw [word_lf]
  by_cases h : (bs.drop (sk bs p)).takeWhile isLetter = ascii "marked"
  · rw [if_pos h, if_pos h]
    unfold marksM
    show (match ShMarsh.marksIn 60 (Lf bs (upTo isLetter bs (sk bs p))) with
      | .error e => Except.error e
      | .ok m => if m.1.isEmpty = true then Except.error (10, (ShMarsh.skip (Lf bs (upTo isLetter bs (sk bs p)))).1) else Except.ok (ShMarsh.Coat.one ⟨a, c, m.1⟩, m.2)) = _
    cases ShMarsh.marksIn 60 (Lf bs (upTo isLetter bs (sk bs p))) with
    | error e => rfl
    | ok m =>
      dsimp only
      by_cases q : m.1.isEmpty = true
      · rw [if_pos q, if_pos q]
      · rw [if_neg q, if_neg q]
  · rw [if_neg h, if_neg h]
theorem one_is (bs : List UInt8) (p : Nat) : ShMarsh.oneIn (Lf bs p) = match ShMarsh.armsIn (Lf bs p) with
    | .error e => Except.error e
    | .ok a => match ShMarsh.word "augmented" a.2 with
      | none => ShMarsh.markedIn a.1 none a.2
      | some t => match ShMarsh.armsIn t with
        | .error e => Except.error e
        | .ok c => ShMarsh.markedIn a.1 (some c.1) c.2 := by
  unfold ShMarsh.oneIn
  cases ShMarsh.armsIn (Lf bs p) with
  | error e => rfl
  | ok a =>
    dsimp only
    cases ShMarsh.word "augmented" a.2 with
    | none => rfl
    | some t =>
      dsimp only
      cases ShMarsh.armsIn t <;> rfl
theorem str_aug : ("augmented" : Str) = strOf (ascii "augmented") := by decide +kernel
theorem str_mkd : ("marked" : Str) = strOf (ascii "marked") := by decide +kernel
section
variable {P : Program} {w : World} {K : PySem.W.Frag} {mg : Str → Option Value} {base : Heap} {d : Ad}
/-- what is new stays, where all but C stays -/
theorem mvC {C x : Addr} {bs : List UInt8} {q : Nat} {H H1 H2 : Hp} (hC : H C = some (cur d x bs q)) (k : Keep C H1 H2) : Mv H H1 H H2 := ⟨fun _ z => z, fun b o n z => k b o (fun y => by rw [y, hC] at n; cases n) z⟩
theorem sc_read_marked : FnScope ["cursor", "arms", "canton", "marks"] ["cursor"] (defScope s_read_marked) := ⟨rfl, rfl, rfl, by decide +kernel, rfl, by decide +kernel, by decide +kernel⟩
theorem ok_read_marked (T : Txt K mg d) : OkD P w K mg base (L2.CX P w) 18 d.f_read_marked ["cursor"] (spC d (pre0C ShMarsh.oneIn) (RC d)) := by
  obtain ⟨fd, F, B⟩ := T.k_read_marked.ex
  obtain ⟨⟨fd_read_blazon, G_read_blazon, B_read_blazon⟩, kp_read_blazon⟩ := ok_read_blazon (P := P) (w := w) (base := base) T
  obtain ⟨⟨fd_Marked, G_Marked, B_Marked⟩, kp_Marked⟩ := ok_Marked_init (P := P) (w := w) (base := base) T
  obtain ⟨⟨fd_pass_word_reading, G_pass_word_reading, B_pass_word_reading⟩, kp_pass_word_reading⟩ := ok_pass_word_reading (P := P) (w := w) (base := base) T
  obtain ⟨⟨fd_read_marks, G_read_marks, B_read_marks⟩, kp_read_marks⟩ := ok_read_marks (P := P) (w := w) (base := base) T
  refine ⟨⟨fd, F.okX sc_read_marked (fun vs H Q E h => ?_) (fun cdv A outer s H vs Q E hr h => ?_), B⟩, F.kp⟩
  · obtain ⟨C, us, bs, x, p, p0, par, rfl, _, _, _, ⟨rfl, _⟩, _⟩ := h
    rfl
  · obtain ⟨C, us, bs, dxC, p, p0, par, rfl, A1, hp0, hsk, ⟨rfl, rfl⟩, k⟩ := h
    have hC0 := A1.hC
    have hr_read_blazon : Room 17 _ := hr.mono (by decide)
    have hr_Marked : Room 2 _ := hr.mono (by decide)
    have hr_pass_word_reading : Room 3 _ := hr.mono (by decide)
    have hr_read_marks : Room 5 _ := hr.mono (by decide)
    refine ⟨_, pss_cons (ps_set (i := 1) sc_read_marked.nd rfl (Or.inl rfl) (pe_call G_read_blazon hr_read_blazon rfl T.k_read_blazon.gl kp_read_blazon B_read_blazon .nil passX (pa_cons (pv 0) pa_nil)))
      (C8.pss_cut (ps_set (i := 2) sc_read_marked.nd rfl (Or.inl rfl) (pe_ifExp (pt_val (pe_call G_pass_word_reading hr_pass_word_reading rfl T.k_pass_word_reading.gl kp_pass_word_reading B_pass_word_reading .nil pass0 (pa_cons (pv 0) (pa_cons pe_str pa_nil)))) (pe_call G_read_blazon hr_read_blazon rfl T.k_read_blazon.gl kp_read_blazon B_read_blazon .nil passX (pa_cons (pv 0) pa_nil)) pe_non))
      (C8.pss_cut (ps_set (i := 3) sc_read_marked.nd rfl (Or.inl rfl) (pe_ifExp (pt_val (pe_call G_pass_word_reading hr_pass_word_reading rfl T.k_pass_word_reading.gl kp_pass_word_reading B_pass_word_reading .nil pass0 (pa_cons (pv 0) (pa_cons pe_str pa_nil)))) (pe_call G_read_marks hr_read_marks rfl T.k_read_marks.gl kp_read_marks B_read_marks .nil passX (pa_cons (pv 0) pa_nil)) (pe_lst pa_nil)))
      (pss_one (ps_ret (pe_make T.kMarked.mak G_Marked hr_Marked rfl T.kMarked.gl B_Marked .nil pass0 (pa_cons (pv 1) (pa_cons (pv 2) (pa_cons (pv 3) pa_nil)))))))), ?_⟩
    rw [one_is] at k
    refine ⟨_, rfl, C, _, bs, dxC, p, p0, _, rfl, A1, hp0, hsk, ⟨rfl, rfl⟩, ?_⟩
    cases e1 : ShMarsh.armsIn (Lf bs p0) with
    | error f => rw [e1] at k; exact k
    | ok a =>
    obtain ⟨ar, lf⟩ := a
    rw [e1] at k
    dsimp only at k
    intro av H1 x1 q1 p1 k1 h1 l1 lp1 g01 elf ske ra
    dsimp only at elf ra
    subst elf
    rw [word_lf] at k
    refine ⟨fun σ' H' => ∃ cv cn x' q' p', σ' = [some (.ref C), some av, some cv, none] ∧ Keep C H H' ∧ H' C = some (cur d x' bs q') ∧ q' ≤ bs.length ∧ p' ≤ bs.length ∧ p0 ≤ p' ∧ sk bs q' = sk bs p' ∧ RArms d H H' av ar ∧ ROpt d H H' cv cn ∧ GiveC d bs C p0 (RC d) H Q E (ShMarsh.markedIn ar cn (Lf bs p')), ?_, ?_⟩
    · refine ⟨_, rfl, C, bs, x1, q1, ascii "augmented", by rw [str_aug]; rfl, ⟨h1, l1, A1.sz⟩, ?_⟩
      by_cases c1 : (bs.drop (sk bs q1)).takeWhile isLetter = ascii "augmented"
      · rw [if_pos c1]
        rw [ske] at c1
        rw [if_pos c1] at k
        dsimp only at k
        intro H2 k2 h2 l2
        refine ⟨_, rfl, ?_⟩
        refine iteT ?_
        refine ⟨_, rfl, C, _, bs, x1, upTo isLetter bs (sk bs q1), upTo isLetter bs (sk bs p1), _, rfl, ⟨h2, l2, A1.sz⟩, by rw [← ske]; exact l2, by rw [ske], ⟨rfl, rfl⟩, ?_⟩
        cases e2 : ShMarsh.armsIn (Lf bs (upTo isLetter bs (sk bs p1))) with
        | error f => rw [e2] at k; exact k
        | ok c =>
        obtain ⟨cr, lf2⟩ := c
        rw [e2] at k
        dsimp only at k
        intro cv H3 x3 q3 p3 k3 h3 l3 lp3 g03 elf3 ske3 rc
        dsimp only at elf3 rc
        subst elf3
        exact ⟨cv, some cr, x3, q3, p3, rfl, (k1.trans k2).trans k3, h3, l3, lp3, Nat.le_trans g01 (Nat.le_trans (Nat.le_trans (sk_ge bs p1) upTo_ge) g03), ske3, RArms.mv ra (mvC hC0 (k2.trans k3)), RArms.mv rc ((k1.trans k2).mv h2), k⟩
      · rw [if_neg c1]
        rw [ske] at c1
        rw [if_neg c1] at k
        dsimp only at k
        intro H2 k2 h2 l2
        refine ⟨_, rfl, ?_⟩
        refine iteF ?_
        exact ⟨.non, none, x1, sk bs q1, p1, rfl, k1.trans k2, h2, l2, lp1, g01, by rw [sk_sk]; exact ske, RArms.mv ra (mvC hC0 k2), rfl, k⟩
    · rintro σ' H2 ⟨cv, cn, x2, q2, p2, rfl, k2, h2, l2, lp2, g02, ske2, ra2, rc2, kk⟩
      rw [marked_is'] at kk
      refine ⟨fun σ' H' => ∃ mv ms x' q' p', σ' = [some (.ref C), some av, some cv, some mv] ∧ Keep C H H' ∧ H' C = some (cur d x' bs q') ∧ q' ≤ bs.length ∧ p' ≤ bs.length ∧ p0 ≤ p' ∧ sk bs q' = sk bs p' ∧ RArms d H H' av ar ∧ ROpt d H H' cv cn ∧ RMarks d H H' mv ms ∧ GiveC d bs C p0 (RC d) H Q E (.ok (.one ⟨ar, cn, ms⟩, Lf bs p')), ?_, ?_⟩
      · refine ⟨_, rfl, C, bs, x2, q2, ascii "marked", by rw [str_mkd]; rfl, ⟨h2, l2, A1.sz⟩, ?_⟩
        by_cases c1 : (bs.drop (sk bs q2)).takeWhile isLetter = ascii "marked"
        · rw [if_pos c1]
          rw [ske2] at c1
          rw [if_pos c1] at kk
          intro H3 k3 h3 l3
          refine ⟨_, rfl, ?_⟩
          refine iteT ?_
          refine ⟨_, rfl, C, _, bs, x2, upTo isLetter bs (sk bs q2), upTo isLetter bs (sk bs p2), _, rfl, ⟨h3, l3, A1.sz⟩, by rw [← ske2]; exact l3, by rw [ske2], ⟨rfl, rfl⟩, ?_⟩
          cases e3 : marksM (Lf bs (upTo isLetter bs (sk bs p2))) with
          | error f => rw [e3] at kk; exact kk
          | ok m =>
          obtain ⟨ms, lf3⟩ := m
          rw [e3] at kk
          dsimp only at kk
          intro mv H4 x4 q4 p4 k4 h4 l4 lp4 g04 elf4 ske4 rm
          dsimp only at elf4 rm
          subst elf4
          exact ⟨mv, ms, x4, q4, p4, rfl, (k2.trans k3).trans k4, h4, l4, lp4, Nat.le_trans g02 (Nat.le_trans (Nat.le_trans (sk_ge bs p2) upTo_ge) g04), ske4, RArms.mv ra2 (mvC hC0 (k3.trans k4)), ROpt.mv rc2 (mvC hC0 (k3.trans k4)), RMarks.mv rm ((k2.trans k3).mv h3), kk⟩
        · rw [if_neg c1]
          rw [ske2] at c1
          rw [if_neg c1] at kk
          intro H3 k3 h3 l3
          refine ⟨_, rfl, ?_⟩
          refine iteF ?_
          refine ⟨Nat.zero_le _, fun l nl => ?_⟩
          have s4 : Same H3 (upd H3 l (.lst [])) := new_same nl
          have K3 := k2.trans k3
          exact ⟨.ref l, [], x2, sk bs q2, p2, rfl, K3.trans (Keep.of s4), s4 _ _ h3, l3, lp2, g02, by rw [sk_sk]; exact ske2, RArms.mv ra2 ((mvC hC0 k3).same s4), ROpt.mv rc2 ((mvC hC0 k3).same s4), ⟨l, [], rfl, ⟨K3.free h3 nl, upd_same⟩, .nil⟩, kk⟩
      · rintro σ' H4 ⟨mv, ms, x4, q4, p4, rfl, k4, h4, l4, lp4, g04, ske4, ra4, rc4, rm4, kk4⟩
        refine ⟨_, rfl, _, rfl, _, rfl, ?_⟩
        refine made rfl fun z dz H5 nz s5 hz => ?_
        exact kk4 _ H5 x4 q4 p4 (k4.trans (Keep.of s5)) (s5 _ _ h4) l4 lp4 g04 rfl ske4 ⟨av, cv, mv, ⟨z, dz, rfl, k4.free h4 nz, hz⟩, RArms.mv ra4 (Mv.here s5), ROpt.mv rc4 (Mv.here s5), RMarks.mv rm4 (Mv.here s5)⟩
end
end HC


namespace HC
open PySem PySem.Spec PyProof.Rows L2
open ShBlazon (isLetter isDigit isBlank valueOf ascii)
/-! ### coats -/
/-- behind a coat of several -/
def afterM (f m : Nat) (s : ShMarsh.Left) : Except ShBlazon.Fault (List ShMarsh.Coat × ShMarsh.Left) := match ShMarsh.sign 59 s with
  | some t => ShMarsh.moreIn f m t
  | none => match ShMarsh.needSign 93 s with
    | .error e => .error e
    | .ok t => .ok ([], t)
theorem more_is (f m : Nat) (u : ShMarsh.Left) : ShMarsh.moreIn (f + 1) m u = match ShMarsh.coatIn f m u with
    | .error e => Except.error e
    | .ok x => match afterM f m x.2 with
      | .error e => Except.error e
      | .ok l => .ok (x.1 :: l.1, l.2) := by
  show (match ShMarsh.coatIn f m u with
    | .error e => Except.error e
    | .ok x => match ShMarsh.sign 59 x.2 with
      | some t => (match ShMarsh.moreIn f m t with
        | .error e => Except.error e
        | .ok l => Except.ok (x.1 :: l.1, l.2))
      | none => match ShMarsh.needSign 93 x.2 with
        | .error e => Except.error e
        | .ok t => Except.ok ([x.1], t)) = _
  cases ShMarsh.coatIn f m u with
  | error e => rfl
  | ok x =>
    dsimp only
    unfold afterM
    cases ShMarsh.sign 59 x.2 with
    | some t =>
      dsimp only
      cases ShMarsh.moreIn f m t <;> rfl
    | none =>
      dsimp only
      cases ShMarsh.needSign 93 x.2 <;> rfl
def twoB (f m : Nat) (t : ShMarsh.Left) : Except ShBlazon.Fault ((ShMarsh.Coat × ShMarsh.Coat) × ShMarsh.Left) := match ShMarsh.coatIn f m t with
  | .error e => .error e
  | .ok a => match ShMarsh.needSign 59 a.2 with
    | .error e => .error e
    | .ok u => match ShMarsh.coatIn f m u with
      | .error e => .error e
      | .ok b => match ShMarsh.needSign 93 b.2 with
        | .error e => .error e
        | .ok v => .ok ((a.1, b.1), v)
def quartM (f m st : Nat) (u : ShMarsh.Left) : Except ShBlazon.Fault (ShMarsh.Coat × ShMarsh.Left) := match ShMarsh.moreIn f m u with
  | .error e => .error e
  | .ok l => if l.1.length < 2 ∨ 9 < l.1.length then .error (14, st) else .ok (.quarters l.1, l.2)
/-- a coat of coats, its word read -/
def coatsM (f m : Nat) (bs : List UInt8) (p : Nat) : Except ShBlazon.Fault (ShMarsh.Coat × ShMarsh.Left) :=
  if (bs.drop p).takeWhile isLetter = ascii "quarterly" ∨ (bs.drop p).takeWhile isLetter = ascii "impaled" ∨ (bs.drop p).takeWhile isLetter = ascii "pretence" then
    (match ShMarsh.needSign 91 (Lf bs (upTo isLetter bs p)) with
      | .error e => .error e
      | .ok u => if (bs.drop p).takeWhile isLetter = ascii "quarterly" then quartM (f + 1) m p u else match twoB f m u with
        | .error e => .error e
        | .ok x => .ok (if (bs.drop p).takeWhile isLetter = ascii "impaled" then .impaled x.1.1 x.1.2 else .pretence x.1.1 x.1.2, x.2))
  else .error (10, p)
theorem two_is (f m : Nat) (s : ShMarsh.Left) : ShMarsh.twoIn (f + 1) m s = match ShMarsh.needSign 91 s with
    | .error e => Except.error e
    | .ok t => twoB f m t := by
  show (match ShMarsh.needSign 91 s with
    | .error e => Except.error e
    | .ok t => match ShMarsh.coatIn f m t with
      | .error e => Except.error e
      | .ok a => match ShMarsh.needSign 59 a.2 with
        | .error e => Except.error e
        | .ok u => match ShMarsh.coatIn f m u with
          | .error e => Except.error e
          | .ok b => match ShMarsh.needSign 93 b.2 with
            | .error e => Except.error e
            | .ok v => Except.ok ((a.1, b.1), v)) = _
  cases ShMarsh.needSign 91 s with
  | error e => rfl
  | ok t => rfl
theorem w_qip : ascii "quarterly" ≠ ascii "impaled" ∧ ascii "quarterly" ≠ ascii "pretence" ∧ ascii "impaled" ≠ ascii "pretence" ∧ ascii "quarterly" ≠ [] ∧ ascii "impaled" ≠ [] ∧ ascii "pretence" ≠ [] := by decide +kernel
theorem coat_is (f m : Nat) (bs : List UInt8) (p : Nat) : ShMarsh.coatIn (f + 2) (m + 1) (Lf bs p) = if bs[sk bs p]? = some 40 then ShMarsh.oneIn (Lf bs p) else coatsM f m bs (sk bs p) := by
  have e0 : ShMarsh.coatIn (f + 2) (m + 1) (Lf bs p) = (match ShMarsh.word "quarterly" (Lf bs p) with
    | some t => (match ShMarsh.needSign 91 t with
      | .error e => Except.error e
      | .ok u => match ShMarsh.moreIn (f + 1) m u with
        | .error e => Except.error e
        | .ok l => if l.1.length < 2 ∨ 9 < l.1.length then Except.error (14, (ShMarsh.skip (Lf bs p)).1) else Except.ok (ShMarsh.Coat.quarters l.1, l.2))
    | none => match ShMarsh.word "impaled" (Lf bs p) with
      | some t => (match ShMarsh.twoIn (f + 1) m t with
        | .error e => Except.error e
        | .ok x => Except.ok (ShMarsh.Coat.impaled x.1.1 x.1.2, x.2))
      | none => match ShMarsh.word "pretence" (Lf bs p) with
        | some t => (match ShMarsh.twoIn (f + 1) m t with
          | .error e => Except.error e
          | .ok x => Except.ok (ShMarsh.Coat.pretence x.1.1 x.1.2, x.2))
        | none => ShMarsh.oneIn (Lf bs p)) := by
    rw [ShMarsh.coatIn, if_neg (by omega)]
    rfl
  rw [e0, word_lf, word_lf, word_lf, skip_lf]
  obtain ⟨n1, n2, n3, g1, g2, g3⟩ := w_qip
  by_cases c0 : bs[sk bs p]? = some 40
  · have le : (bs.drop (sk bs p)).takeWhile isLetter = [] := by
      rw [drop_cons c0]
      rfl
    rw [if_pos c0, le, if_neg (fun z => g1 z.symm), if_neg (fun z => g2 z.symm), if_neg (fun z => g3 z.symm)]
  · rw [if_neg c0]
    unfold coatsM
    generalize hL : (bs.drop (sk bs p)).takeWhile isLetter = L
    by_cases q1 : L = ascii "quarterly"
    · rw [if_pos q1, if_pos (show L = ascii "quarterly" ∨ L = ascii "impaled" ∨ L = ascii "pretence" from .inl q1)]
      dsimp only
      unfold quartM
      cases ShMarsh.needSign 91 (Lf bs (upTo isLetter bs (sk bs p))) with
      | error e => rfl
      | ok u =>
        dsimp only
        rw [if_pos q1]
    · rw [if_neg q1]
      by_cases q2 : L = ascii "impaled"
      · rw [if_pos q2, if_pos (show L = ascii "quarterly" ∨ L = ascii "impaled" ∨ L = ascii "pretence" from .inr (.inl q2))]
        dsimp only
        rw [two_is]
        cases ShMarsh.needSign 91 (Lf bs (upTo isLetter bs (sk bs p))) with
        | error e => rfl
        | ok u =>
          dsimp only
          rw [if_neg q1]
          cases twoB f m u with
          | error e => rfl
          | ok x =>
            dsimp only
            rw [if_pos q2]
      · rw [if_neg q2]
        by_cases q3 : L = ascii "pretence"
        · rw [if_pos q3, if_pos (show L = ascii "quarterly" ∨ L = ascii "impaled" ∨ L = ascii "pretence" from .inr (.inr q3))]
          dsimp only
          rw [two_is]
          cases ShMarsh.needSign 91 (Lf bs (upTo isLetter bs (sk bs p))) with
          | error e => rfl
          | ok u =>
            dsimp only
            rw [if_neg q1]
            cases twoB f m u with
            | error e => rfl
            | ok x =>
              dsimp only
              rw [if_neg q2]
        · rw [if_neg q3, if_neg (show ¬ (L = ascii "quarterly" ∨ L = ascii "impaled" ∨ L = ascii "pretence") from fun z => z.elim q1 fun z => z.elim q2 q3)]
          dsimp only
          unfold ShMarsh.oneIn ShMarsh.armsIn
          rw [need_lf, if_neg c0]
def prefC (xs : List ShMarsh.Coat) : Except ShBlazon.Fault (List ShMarsh.Coat × ShMarsh.Left) → Except ShBlazon.Fault (List ShMarsh.Coat × ShMarsh.Left)
  | .error e => .error e
  | .ok l => .ok (xs ++ l.1, l.2)
end HC
namespace HC
open PySem PySem.Spec PyProof.Rows L2
open ShBlazon (isLetter isDigit isBlank valueOf ascii)
section
variable {P : Program} {w : World} {K : PySem.W.Frag} {mg : Str → Option Value} {base : Heap} {d : Ad}
def lr : Nat → Nat
  | 0 => 19
  | n + 1 => lr n + 3
theorem lr_ge : ∀ n, 19 ≤ lr n
  | 0 => Nat.le_refl _
  | n + 1 => by
    have := lr_ge n
    show 19 ≤ lr n + 3
    omega
def preCt (n : Nat) (_ : Hp) (us : List V) (p0 : Nat) (bs : List UInt8) (par : Pc ShMarsh.Coat) : Prop := ∃ (f : Nat) (z : Int), us = [.int z] ∧ z = 5 - (n : Int) ∧ 2 * (bs.length - p0) + 2 ≤ f ∧ par = ShMarsh.coatIn f n
abbrev spCt (d : Ad) (n : Nat) : Sp := spC d (preCt n) (RC d)
def preQt (m : Nat) (_ : Hp) (us : List V) (p0 : Nat) (bs : List UInt8) (par : Pc ShMarsh.Coat) : Prop := ∃ (f st : Nat) (z : Int), us = [.int z, vN st] ∧ z + 1 = 5 - (m : Int) ∧ 2 * (bs.length - p0) + 3 ≤ f ∧ par = quartM f m st
def RTwo (d : Ad) (H0 H : Hp) (v : V) (x : ShMarsh.Coat × ShMarsh.Coat) : Prop := ∃ t a b, v = .ref t ∧ H t = some (.tup [a, b]) ∧ RC d H0 H a x.1 ∧ RC d H0 H b x.2
def preTw (m : Nat) (_ : Hp) (us : List V) (p0 : Nat) (bs : List UInt8) (par : Pc (ShMarsh.Coat × ShMarsh.Coat)) : Prop := ∃ (f : Nat) (z : Int), us = [.int z] ∧ z + 1 = 5 - (m : Int) ∧ 2 * (bs.length - p0) + 2 ≤ f ∧ par = twoB f m
theorem str_sc : (";" : Str) = strOf [59] := by decide +kernel
theorem str_cb : ("]" : Str) = strOf [93] := by decide +kernel
theorem str_ob : ("[" : Str) = strOf [91] := by decide +kernel
theorem str_q : ("quarterly" : Str) = strOf (ascii "quarterly") := by decide +kernel
theorem str_i : ("impaled" : Str) = strOf (ascii "impaled") := by decide +kernel
theorem str_p : ("pretence" : Str) = strOf (ascii "pretence") := by decide +kernel
theorem sc_read_two : FnScope ["cursor", "depth", "first", "second"] ["cursor", "depth"] (defScope s_read_two) := ⟨rfl, rfl, rfl, by decide +kernel, rfl, by decide +kernel, by decide +kernel⟩
theorem ok_read_two (T : Txt K mg d) {n : Nat} (hR : OkD P w K mg base (L2.CX P w) (lr n) d.f_read_coat ["cursor", "depth"] (spCt d n)) : OkD P w K mg base (L2.CX P w) (lr n + 1) d.f_read_two ["cursor", "depth"] (spC d (preTw n) (RTwo d)) := by
  obtain ⟨fd, F, B⟩ := T.k_read_two.ex
  obtain ⟨⟨fd_read_coat, G_read_coat, B_read_coat⟩, kp_read_coat⟩ := hR
  obtain ⟨⟨fd_want_sign_behind_blanks, G_want_sign_behind_blanks, B_want_sign_behind_blanks⟩, kp_want_sign_behind_blanks⟩ := ok_want_sign_behind_blanks (P := P) (w := w) (base := base) T
  refine ⟨⟨fd, F.okX sc_read_two (fun vs H Q E h => ?_) (fun cdv A outer s H vs Q E hr h => ?_), B⟩, F.kp⟩
  · obtain ⟨C, us, bs, x, p, p0, par, rfl, _, _, _, ⟨f, z, rfl, _⟩, _⟩ := h
    rfl
  · obtain ⟨C, us, bs, dxC, p, p0, par, rfl, A1, hp0, hsk, ⟨f, z, rfl, hz, hf, rfl⟩, k⟩ := h
    have hlr := lr_ge n
    have hr_read_coat : Room (lr n) _ := hr
    have hr_want_sign_behind_blanks : Room 4 _ := hr.mono (by omega)
    have hC0 := A1.hC
    refine ⟨_, pss_cons (ps_set (i := 2) sc_read_two.nd rfl (Or.inl rfl) (pe_call G_read_coat hr_read_coat rfl T.k_read_coat.gl kp_read_coat B_read_coat .nil passX (pa_cons (pv 0) (pa_cons (pe_op op_add (pv 1) pe_int) pa_nil))))
      (pss_cons (ps_expr (pe_call G_want_sign_behind_blanks hr_want_sign_behind_blanks rfl T.k_want_sign_behind_blanks.gl kp_want_sign_behind_blanks B_want_sign_behind_blanks .nil passX (pa_cons (pv 0) (pa_cons pe_str pa_nil))))
      (pss_cons (ps_set (i := 3) sc_read_two.nd rfl (Or.inl rfl) (pe_call G_read_coat hr_read_coat rfl T.k_read_coat.gl kp_read_coat B_read_coat .nil passX (pa_cons (pv 0) (pa_cons (pe_op op_add (pv 1) pe_int) pa_nil))))
      (pss_cons (ps_expr (pe_call G_want_sign_behind_blanks hr_want_sign_behind_blanks rfl T.k_want_sign_behind_blanks.gl kp_want_sign_behind_blanks B_want_sign_behind_blanks .nil passX (pa_cons (pv 0) (pa_cons pe_str pa_nil))))
      (pss_one (ps_ret (pe_tup (pa_cons (pv 2) (pa_cons (pv 3) pa_nil)))))))), ?_⟩
    unfold twoB at k
    refine ⟨_, rfl, _, rfl, _, _, rfl, rfl, C, _, bs, dxC, p, p0, _, rfl, A1, hp0, hsk, ⟨f, _, rfl, hz, hf, rfl⟩, ?_⟩
    cases e1 : ShMarsh.coatIn f n (Lf bs p0) with
    | error g => rw [e1] at k; exact k
    | ok a =>
    obtain ⟨ca, lf1⟩ := a
    rw [e1] at k
    dsimp only at k
    intro v1 H1 x1 q1 p1 k1 h1 l1 lp1 g01 elf1 ske1 r1
    dsimp only at elf1 r1
    subst elf1
    rw [need_lf, ← ske1] at k
    refine ⟨_, rfl, C, bs, x1, q1, 59, by rw [str_sc]; rfl, by decide +kernel, ⟨h1, l1, A1.sz⟩, ?_⟩
    by_cases c1 : bs[sk bs q1]? = some 59
    · rw [if_pos c1] at k ⊢
      dsimp only at k
      intro H2 k2 h2 l2
      have hf2 : 2 * (bs.length - (sk bs q1 + 1)) + 2 ≤ f := by
        have y1 : p1 ≤ sk bs q1 := by rw [ske1]; exact sk_ge bs p1
        omega
      refine ⟨_, rfl, _, rfl, _, _, rfl, rfl, C, _, bs, x1, sk bs q1 + 1, sk bs q1 + 1, _, rfl, ⟨h2, l2, A1.sz⟩, l2, rfl, ⟨f, _, rfl, hz, hf2, rfl⟩, ?_⟩
      cases e2 : ShMarsh.coatIn f n (Lf bs (sk bs q1 + 1)) with
      | error g => rw [e2] at k; exact k
      | ok b =>
      obtain ⟨cb, lf3⟩ := b
      rw [e2] at k
      dsimp only at k
      intro v3 H3 x3 q3 p3 k3 h3 l3 lp3 g03 elf3 ske3 r3
      dsimp only at elf3 r3
      subst elf3
      rw [need_lf, ← ske3] at k
      refine ⟨_, rfl, C, bs, x3, q3, 93, by rw [str_cb]; rfl, by decide +kernel, ⟨h3, l3, A1.sz⟩, ?_⟩
      by_cases c2 : bs[sk bs q3]? = some 93
      · rw [if_pos c2] at k ⊢
        dsimp only at k
        intro H4 k4 h4 l4
        refine ⟨_, rfl, _, rfl, (by show 2 ≤ sizeLine; decide), fun t nt => ?_⟩
        have s5 : Same H4 (upd H4 t (.tup [v1, v3])) := new_same nt
        have K4 := ((k1.trans k2).trans k3).trans k4
        refine k _ _ x3 (sk bs q3 + 1) (sk bs q3 + 1) (K4.trans (Keep.of s5)) (s5 _ _ h4) l4 l4 ?_ rfl rfl ⟨t, v1, v3, rfl, upd_same, RC.mv r1 ((mvC hC0 ((k2.trans k3).trans k4)).same s5), RC.mv (RC.mv r3 (mvC h2 k4)) (((k1.trans k2).mv h2).same s5)⟩
        have y1 : p1 ≤ sk bs q1 := by rw [ske1]; exact sk_ge bs p1
        have y3 : p3 ≤ sk bs q3 := by rw [ske3]; exact sk_ge bs p3
        omega
      · rw [if_neg c2] at k ⊢
        exact k
    · rw [if_neg c1] at k ⊢
      exact k
/-! ### quarterly -/
def delH (H : Hp) (l : Addr) : Hp := fun b => if b = l then none else H b
theorem delH_some {H : Hp} {l b : Addr} {o : HO} (h : delH H l b = some o) : b ≠ l ∧ H b = some o := by
  unfold delH at h
  by_cases c : b = l
  · rw [if_pos c] at h; cases h
  · rw [if_neg c] at h; exact ⟨c, h⟩
theorem delH_of {H : Hp} {l b : Addr} {o : HO} (n : b ≠ l) (h : H b = some o) : delH H l b = some o := by
  unfold delH
  rw [if_neg n]
  exact h
theorem sc_read_quarterly : FnScope ["cursor", "depth", "start", "coats"] ["cursor", "depth", "start"] (defScope s_read_quarterly) := ⟨rfl, rfl, rfl, by decide +kernel, rfl, by decide +kernel, by decide +kernel⟩
theorem ok_read_quarterly (T : Txt K mg d) {n : Nat} (hR : OkD P w K mg base (L2.CX P w) (lr n) d.f_read_coat ["cursor", "depth"] (spCt d n)) : OkD P w K mg base (L2.CX P w) (lr n + 1) d.f_read_quarterly ["cursor", "depth", "start"] (spC d (preQt n) (RC d)) := by
  obtain ⟨fd, F, B⟩ := T.k_read_quarterly.ex
  obtain ⟨⟨fd_read_coat, G_read_coat, B_read_coat⟩, kp_read_coat⟩ := hR
  obtain ⟨⟨fd_want_sign_behind_blanks, G_want_sign_behind_blanks, B_want_sign_behind_blanks⟩, kp_want_sign_behind_blanks⟩ := ok_want_sign_behind_blanks (P := P) (w := w) (base := base) T
  obtain ⟨⟨fd_pass_sign, G_pass_sign, B_pass_sign⟩, kp_pass_sign⟩ := ok_pass_sign (P := P) (w := w) (base := base) T
  obtain ⟨⟨fd_Quarterly, G_Quarterly, B_Quarterly⟩, kp_Quarterly⟩ := ok_Quarterly_init (P := P) (w := w) (base := base) T
  obtain ⟨c_FEWEST_QUARTERS, m_FEWEST_QUARTERS⟩ := T.nFEWEST_QUARTERS
  obtain ⟨c_MOST_QUARTERS, m_MOST_QUARTERS⟩ := T.nMOST_QUARTERS
  obtain ⟨c_WRONG_QUARTERS, m_WRONG_QUARTERS⟩ := T.nWRONG_QUARTERS
  refine ⟨⟨fd, F.okX sc_read_quarterly (fun vs H Q E h => ?_) (fun cdv A outer s H vs Q E hr h => ?_), B⟩, F.kp⟩
  · obtain ⟨C, us, bs, x, p, p0, par, rfl, _, _, _, ⟨f, st, z, rfl, _⟩, _⟩ := h
    rfl
  · obtain ⟨C, us, bs, dxC, p, p0, par, rfl, A1, hp0, hsk, ⟨f, st, z, rfl, hz, hf, rfl⟩, k⟩ := h
    have hlr := lr_ge n
    have hr_read_coat : Room (lr n) _ := hr
    have hr_want_sign_behind_blanks : Room 4 _ := hr.mono (by omega)
    have hr_pass_sign : Room 3 _ := hr.mono (by omega)
    have hr_Quarterly : Room 2 _ := hr.mono (by omega)
    have hC0 := A1.hC
    refine ⟨_, pss_cons (ps_set (i := 3) sc_read_quarterly.nd rfl (Or.inl rfl) (pe_lst (pa_cons (pe_call G_read_coat hr_read_coat rfl T.k_read_coat.gl kp_read_coat B_read_coat .nil passX (pa_cons (pv 0) (pa_cons (pe_op op_add (pv 1) pe_int) pa_nil))) pa_nil)))
      (pss_cons (ps_while ownX (pt_val (pe_call G_pass_sign hr_pass_sign rfl T.k_pass_sign.gl kp_pass_sign B_pass_sign .nil pass0 (pa_cons (pv 0) (pa_cons pe_str pa_nil))))
        (pss_one (ps_expr (pe_bm PySem.F.plainAttrs_list PySem.F.slot_list_append PySem.F.type_list_append mt_append (pv 3) (pa_cons (pe_call G_read_coat hr_read_coat rfl T.k_read_coat.gl kp_read_coat B_read_coat .nil passX (pa_cons (pv 0) (pa_cons (pe_op op_add (pv 1) pe_int) pa_nil))) pa_nil)))))
      (pss_cons (ps_expr (pe_call G_want_sign_behind_blanks hr_want_sign_behind_blanks rfl T.k_want_sign_behind_blanks.gl kp_want_sign_behind_blanks B_want_sign_behind_blanks .nil passX (pa_cons (pv 0) (pa_cons pe_str pa_nil))))
      (C8.pss_cut (ps_if (PW.pt (pw_or (pt_cmpR op_lt (pe_callB call_len_seq (by rfl) T.b_len PySem.boot_len (pa_cons (pv 3) pa_nil)) (pgi m_FEWEST_QUARTERS) (nomark _)) (pw_or1 (pt_cmpR op_gt (pe_callB call_len_seq (by rfl) T.b_len PySem.boot_len (pa_cons (pv 3) pa_nil)) (pgi m_MOST_QUARTERS) (nomark _)))))
        (pss_one (ps_raiseLow rfl T.xMisread hr takesX (pa_cons (pgi m_WRONG_QUARTERS) (pa_cons (pv 2) pa_nil))))
        pss_nil)
      (pss_one (ps_ret (pe_make T.kQuarterly.mak G_Quarterly hr_Quarterly rfl T.kQuarterly.gl B_Quarterly .nil pass0 (pa_cons (pv 3) pa_nil))))))), ?_⟩
    unfold quartM at k
    obtain ⟨f1, rfl⟩ : ∃ f1, f = f1 + 1 := ⟨f - 1, by omega⟩
    have e0 := more_is f1 n (Lf bs p0)
    refine ⟨_, rfl, _, rfl, _, _, rfl, rfl, C, _, bs, dxC, p, p0, _, rfl, A1, hp0, hsk, ⟨f1, _, rfl, hz, by omega, rfl⟩, ?_⟩
    cases e1 : ShMarsh.coatIn f1 n (Lf bs p0) with
    | error g =>
      rw [e1] at e0
      rw [e0] at k
      exact k
    | ok a =>
    obtain ⟨ca, lf1⟩ := a
    intro v1 H1 x1 q1 p1 k1 h1 l1 lp1 g01 elf1 ske1 r1
    dsimp only at elf1 r1
    subst elf1
    rw [e1] at e0
    replace e0 : ShMarsh.moreIn (f1 + 1) n (Lf bs p0) = prefC [ca] (afterM f1 n (Lf bs p1)) := by
      rw [e0]
      dsimp only
      cases afterM f1 n (Lf bs p1) <;> rfl
    refine ⟨(by show 1 ≤ sizeLine; decide), fun l nl => ?_⟩
    have s2 : Same H1 (upd H1 l (.lst [v1])) := new_same nl
    have nlH : H l = none := k1.free h1 nl
    have nCl : C ≠ l := ne_of_none h1 nl
    refine ⟨fun m σ' Hc => ∃ us xs x' q' p' fu, m = bs.length - p' ∧ σ' = [some (.ref C), some (.int z), some (vN st), some (.ref l)] ∧ Keep C H Hc ∧ Hc C = some (cur d x' bs q') ∧ q' ≤ bs.length ∧ (p' ≤ bs.length ∧ p0 ≤ p') ∧ sk bs q' = sk bs p' ∧ Hc l = some (.lst us) ∧ All2 (RC d H (delH Hc l)) us xs ∧ xs.length ≤ p' + 1 ∧ 2 * (bs.length - p') + 1 ≤ fu ∧ 1 ≤ xs.length ∧ ShMarsh.moreIn (f1 + 1) n (Lf bs p0) = prefC xs (afterM fu n (Lf bs p')),
      ⟨_, [v1], [ca], x1, q1, p1, f1, rfl, rfl, k1.trans (Keep.of s2), s2 _ _ h1, l1, ⟨lp1, g01⟩, ske1, upd_same, .cons (RC.mv r1 ⟨fun _ y => y, fun b o _ hb => delH_of (ne_of_none hb nl) (s2 _ _ hb)⟩) .nil, ?_, by omega, Nat.le_refl _, e0⟩, ?_⟩
    · show 1 ≤ p1 + 1
      omega
    rintro m σ' Hc ⟨us, xs, x', q', p', fu, rfl, rfl, kc, hC, lq', ⟨lp', l0'⟩, ske', hl, al, xl, hfu, x1', eq⟩
    have hlen := al.length
    refine ⟨_, rfl, C, bs, x', q', 59, by rw [str_sc]; rfl, by decide +kernel, ⟨hC, lq', A1.sz⟩, ?_⟩
    have ea : afterM fu n (Lf bs p') = if bs[sk bs q']? = some 59 then ShMarsh.moreIn fu n (Lf bs (sk bs q' + 1)) else (match ShMarsh.needSign 93 (Lf bs p') with
        | .error e => .error e
        | .ok t => .ok ([], t)) := by
      unfold afterM
      rw [sign_lf, ske']
      by_cases c : bs[sk bs p']? = some 59
      · rw [if_pos c, if_pos c]
      · rw [if_neg c, if_neg c]
        try rfl
    by_cases c1 : bs[sk bs q']? = some 59
    · rw [if_pos c1] at ea ⊢
      intro H2 k2 h2 l2
      refine ⟨_, rfl, ?_⟩
      refine iteT ?_
      have y1 : p' ≤ sk bs q' := by rw [ske']; exact sk_ge bs p'
      obtain ⟨fu', rfl⟩ : ∃ fu', fu = fu' + 1 := ⟨fu - 1, by omega⟩
      refine ⟨fun σ' Hd => ∃ us xs' x2 q2 p2 fu2, p' < p2 ∧ σ' = [some (.ref C), some (.int z), some (vN st), some (.ref l)] ∧ Keep C H Hd ∧ Hd C = some (cur d x2 bs q2) ∧ q2 ≤ bs.length ∧ (p2 ≤ bs.length ∧ p0 ≤ p2) ∧ sk bs q2 = sk bs p2 ∧ Hd l = some (.lst us) ∧ All2 (RC d H (delH Hd l)) us xs' ∧ xs'.length ≤ p2 + 1 ∧ 2 * (bs.length - p2) + 1 ≤ fu2 ∧ 1 ≤ xs'.length ∧ ShMarsh.moreIn (f1 + 1) n (Lf bs p0) = prefC xs' (afterM fu2 n (Lf bs p2)), fun σ' Hd ⟨us', xs', x2, q2, p2, fu2, w1, w2, w3, w4, w5, w6, w7⟩ => ⟨bs.length - p2, by have := w6.1; omega, us', xs', x2, q2, p2, fu2, rfl, w2, w3, w4, w5, w6, w7⟩, ?_⟩
      have hl2 := k2 l _ nCl.symm hl
      refine ⟨_, rfl, .inl ⟨rfl, _, SqL.of hl2⟩, _, rfl, _, rfl, _, _, rfl, rfl, C, _, bs, x', sk bs q' + 1, sk bs q' + 1, _, rfl, ⟨h2, l2, A1.sz⟩, l2, rfl, ⟨fu', _, rfl, hz, by omega, rfl⟩, ?_⟩
      have em := more_is fu' n (Lf bs (sk bs q' + 1))
      cases e5 : ShMarsh.coatIn fu' n (Lf bs (sk bs q' + 1)) with
      | error g =>
        rw [e5] at em
        rw [eq, ea, em] at k
        exact k
      | ok b =>
      obtain ⟨cb, lf5⟩ := b
      rw [e5] at em
      intro v5 H5 x5 q5 p5 k5 h5 l5 lp5 g05 elf5 ske5 r5
      dsimp only at elf5 r5 em
      subst elf5
      have hl5 := k5 l _ nCl.symm hl2
      have hlen5 : us.length < sizeLine := by
        have : (16777216 : Nat) = sizeLine := rfl
        have := A1.sz
        omega
      refine ⟨l, us, v5, rfl, rfl, hl5, hlen5, us ++ [v5], xs ++ [cb], x5, q5, p5, fu', by omega, rfl, ?_, by rw [upd_ne nCl]; exact h5, l5, ⟨lp5, by omega⟩, ske5, upd_same, ?_, by rw [List.length_append]; show xs.length + 1 ≤ p5 + 1; omega, by omega, by rw [List.length_append]; omega, ?_⟩
      · intro b o hb ho
        rw [upd_ne (ne_of_none ho nlH)]
        exact k5 b o hb (k2 b o hb (kc b o hb ho))
      · refine (al.mono fun v' y' q => RC.mv q ⟨fun _ y => y, fun b o nb hb => ?_⟩).snoc (RC.mv r5 ⟨fun b nb => ?_, fun b o nb hb => ?_⟩)
        · obtain ⟨b1, b2⟩ := delH_some hb
          have b3 : b ≠ C := fun y => by rw [y, hC0] at nb; cases nb
          refine delH_of b1 ?_
          rw [upd_ne b1]
          exact k5 b o b3 (k2 b o b3 b2)
        · exact (kc.trans k2).free h2 nb
        · have b1 : b ≠ l := fun y => by rw [y, hl2] at nb; cases nb
          refine delH_of b1 ?_
          rw [upd_ne b1]
          exact hb
      · rw [eq, ea, em]
        show prefC xs _ = prefC (xs ++ [cb]) (afterM fu' n (Lf bs p5))
        cases afterM fu' n (Lf bs p5) with
        | error g => rfl
        | ok ll =>
          show Except.ok (xs ++ (cb :: ll.1), ll.2) = Except.ok ((xs ++ [cb]) ++ ll.1, ll.2)
          rw [List.append_assoc]
          rfl
    · rw [if_neg c1] at ea ⊢
      intro H2 k2 h2 l2
      refine ⟨_, rfl, ?_⟩
      refine iteF ?_
      rw [eq, ea, need_lf, ← ske'] at k
      refine ⟨_, rfl, C, bs, x', sk bs q', 93, by rw [str_cb]; rfl, by decide +kernel, ⟨h2, l2, A1.sz⟩, ?_⟩
      rw [sk_sk]
      by_cases c2 : bs[sk bs q']? = some 93
      · rw [if_pos c2] at k ⊢
        have e7 : prefC xs (.ok ([], Lf bs (sk bs q' + 1))) = .ok (xs, Lf bs (sk bs q' + 1)) := by
          show Except.ok (xs ++ [], _) = _
          rw [List.append_nil]
        replace k := k
        dsimp only at k
        rw [e7] at k
        dsimp only at k
        intro H3 k3 h3 l3
        have hl3 := k3 l _ nCl.symm (k2 l _ nCl.symm hl)
        have K3 : Keep C H H3 := (kc.trans k2).trans k3
        refine ⟨fun σ' H' => σ' = [some (.ref C), some (.int z), some (vN st), some (.ref l)] ∧ H' = H3 ∧ ¬ (xs.length < 2 ∨ 9 < xs.length), ?_, ?_⟩
        · refine ⟨_, rfl, l, us, rfl, .inl (SqL.of hl3), _, _, rfl, rfl, _, rfl, ?_⟩
          rw [hlen]
          refine ite2 (fun q => ?_) (fun q => ?_)
          · have q9 : xs.length < 2 := by have := of_decide_eq_true q; omega
            rw [if_pos (.inl q9)] at k
            refine iteT ?_
            exact ⟨_, rfl, _, _, rfl, fun z hz => k z _ upd_same⟩
          · have q9 : ¬ xs.length < 2 := fun y => q (decide_eq_true (by omega))
            refine ⟨_, rfl, l, us, rfl, .inl (SqL.of hl3), _, _, rfl, rfl, _, rfl, ?_⟩
            rw [hlen]
            refine ite2 (fun q2 => ?_) (fun q2 => ?_)
            · have q8 : 9 < xs.length := by have := of_decide_eq_true q2; omega
              rw [if_pos (.inr q8)] at k
              exact ⟨_, rfl, _, _, rfl, fun z hz => k z _ upd_same⟩
            · have q8 : ¬ 9 < xs.length := fun y => q2 (decide_eq_true (by omega))
              exact ⟨rfl, rfl, fun y => y.elim q9 q8⟩
        · rintro σ' H' ⟨rfl, rfl, hq⟩
          rw [if_neg hq] at k
          refine ⟨_, rfl, ?_⟩
          refine made rfl fun y dy H4 ny s4 hy => ?_
          refine k _ H4 x' (sk bs q' + 1) (sk bs q' + 1) (K3.trans (Keep.of s4)) (s4 _ _ h3) l3 l3 ?_ rfl rfl ⟨l, us, ⟨y, dy, rfl, K3.free h3 ny, hy⟩, ⟨nlH, s4 _ _ hl3⟩, rcoats_of (al.mono fun v' y' q => RC.mv q ⟨fun _ z => z, fun b o nb hb => ?_⟩)⟩
          · have y1 : p' ≤ sk bs q' := by rw [ske']; exact sk_ge bs p'
            omega
          · have b3 : b ≠ C := fun y => by rw [y, hC0] at nb; cases nb
            exact s4 _ _ (k3 b o b3 (k2 b o b3 (delH_some hb).2))
      · rw [if_neg c2] at k ⊢
        exact k
end
end HC


namespace HC
open PySem PySem.Spec PyProof.Rows L2
open ShBlazon (isLetter isDigit isBlank valueOf ascii)
section
variable {P : Program} {w : World} {K : PySem.W.Frag} {mg : Str → Option Value} {base : Heap} {d : Ad}
def preCs (m : Nat) (_ : Hp) (us : List V) (p0 : Nat) (bs : List UInt8) (par : Pc ShMarsh.Coat) : Prop := ∃ (f : Nat) (z : Int), us = [.int z] ∧ z + 1 = 5 - (m : Int) ∧ 2 * (bs.length - p0) ≤ f ∧ par = fun _ => coatsM f m bs p0
def spCs (d : Ad) (m : Nat) : Sp := fun vs H Q E => ∃ (C : Addr) (us : List V) (bs : List UInt8) (x : Addr) (p : Nat) (par : Pc ShMarsh.Coat),
  vs = .ref C :: us ∧ CAt d bs C x H p ∧ preCs m H us p bs par ∧ GiveC d bs C p (RC d) H Q E (par (Lf bs p))
theorem sc_read_coats : FnScope ["cursor", "depth", "start", "word", "both"] ["cursor", "depth"] (defScope s_read_coats) := ⟨rfl, rfl, rfl, by decide +kernel, rfl, by decide +kernel, by decide +kernel⟩
theorem ok_read_coats (T : Txt K mg d) {n : Nat} (hR : OkD P w K mg base (L2.CX P w) (lr n) d.f_read_coat ["cursor", "depth"] (spCt d n)) : OkD P w K mg base (L2.CX P w) (lr n + 2) d.f_read_coats ["cursor", "depth"] (spCs d n) := by
  obtain ⟨fd, F, B⟩ := T.k_read_coats.ex
  obtain ⟨⟨fd_read_quarterly, G_read_quarterly, B_read_quarterly⟩, kp_read_quarterly⟩ := ok_read_quarterly (P := P) (w := w) (base := base) T hR
  obtain ⟨⟨fd_read_two, G_read_two, B_read_two⟩, kp_read_two⟩ := ok_read_two (P := P) (w := w) (base := base) T hR
  obtain ⟨⟨fd_Cursor_take_letters, G_Cursor_take_letters, B_Cursor_take_letters⟩, kp_Cursor_take_letters⟩ := ok_Cursor_take_letters (P := P) (w := w) (base := base) T
  obtain ⟨⟨fd_want_sign_behind_blanks, G_want_sign_behind_blanks, B_want_sign_behind_blanks⟩, kp_want_sign_behind_blanks⟩ := ok_want_sign_behind_blanks (P := P) (w := w) (base := base) T
  obtain ⟨⟨fd_Impaled, G_Impaled, B_Impaled⟩, kp_Impaled⟩ := ok_Impaled_init (P := P) (w := w) (base := base) T
  obtain ⟨⟨fd_Pretence, G_Pretence, B_Pretence⟩, kp_Pretence⟩ := ok_Pretence_init (P := P) (w := w) (base := base) T
  obtain ⟨c_OTHER_SIGN, m_OTHER_SIGN⟩ := T.nOTHER_SIGN
  refine ⟨⟨fd, F.okX sc_read_coats (fun vs H Q E h => ?_) (fun cdv A outer s H vs Q E hr h => ?_), B⟩, F.kp⟩
  · obtain ⟨C, us, bs, x, p, par, rfl, _, ⟨f, z, rfl, _⟩, _⟩ := h
    rfl
  · obtain ⟨C, us, bs, dxC, p, par, rfl, A1, ⟨f, z, rfl, hz, hf, rfl⟩, k⟩ := h
    have hlr := lr_ge n
    have hr_read_quarterly : Room (lr n + 1) _ := hr
    have hr_read_two : Room (lr n + 1) _ := hr
    have hr_Cursor_take_letters : Room 2 _ := hr.mono (by omega)
    have hr_want_sign_behind_blanks : Room 4 _ := hr.mono (by omega)
    have hr_Impaled : Room 2 _ := hr.mono (by omega)
    have hr_Pretence : Room 2 _ := hr.mono (by omega)
    have hC := A1.hC
    refine ⟨_, pss_cons (ps_set (i := 2) sc_read_coats.nd rfl (Or.inl rfl) (pe_fld (pv 0) rfl))
      (pss_cons (ps_set (i := 3) sc_read_coats.nd rfl (Or.inl rfl) (pe_meth0 (pv 0) T.kCursor.cl T.kCursor_take_letters.me G_Cursor_take_letters hr_Cursor_take_letters B_Cursor_take_letters .nil pass0))
      (pss_cons (ps_if (pt_cmpR op_notIn_seq (pv 3) (pe_tup (pa_cons pe_str (pa_cons pe_str (pa_cons pe_str pa_nil)))) (by rfl))
        (pss_one (ps_raiseLow rfl T.xMisread hr takesX (pa_cons (pgi m_OTHER_SIGN) (pa_cons (pv 2) pa_nil))))
        pss_nil)
      (pss_cons (ps_expr (pe_call G_want_sign_behind_blanks hr_want_sign_behind_blanks rfl T.k_want_sign_behind_blanks.gl kp_want_sign_behind_blanks B_want_sign_behind_blanks .nil passX (pa_cons (pv 0) (pa_cons pe_str pa_nil))))
      (pss_cons (ps_if (pt_cmpR op_eq (pv 3) pe_str (nomark _))
        (pss_one (ps_ret (pe_call G_read_quarterly hr_read_quarterly rfl T.k_read_quarterly.gl kp_read_quarterly B_read_quarterly .nil passX (pa_cons (pv 0) (pa_cons (pv 1) (pa_cons (pv 2) pa_nil))))))
        pss_nil)
      (pss_cons (ps_set (i := 4) sc_read_coats.nd rfl (Or.inl rfl) (pe_call G_read_two hr_read_two rfl T.k_read_two.gl kp_read_two B_read_two .nil passX (pa_cons (pv 0) (pa_cons (pv 1) pa_nil))))
      (pss_cons (ps_if (pt_cmpR op_eq (pv 3) pe_str (nomark _))
        (pss_one (ps_ret (pe_make T.kImpaled.mak G_Impaled hr_Impaled rfl T.kImpaled.gl B_Impaled .nil pass0 (pa_cons (pe_ix ix_tup (pv 4) pe_int (fun _ _ => rfl)) (pa_cons (pe_ix ix_tup (pv 4) pe_int (fun _ _ => rfl)) pa_nil)))))
        pss_nil)
      (pss_one (ps_ret (pe_make T.kPretence.mak G_Pretence hr_Pretence rfl T.kPretence.gl B_Pretence .nil pass0 (pa_cons (pe_ix ix_tup (pv 4) pe_int (fun _ _ => rfl)) (pa_cons (pe_ix ix_tup (pv 4) pe_int (fun _ _ => rfl)) pa_nil))))))))))), ?_⟩
    replace k : GiveC d bs C p (RC d) H Q E (coatsM f n bs p) := k
    unfold coatsM at k
    refine ⟨_, rfl, C, d.cCursor, dxC, _, _, rfl, hC, T.kCursor.cl, T.kCursor.no.2.1, look_at _ _ _ 1 rfl (by decide +kernel), ?_⟩
    refine ⟨_, rfl, C, dxC, _, rfl, hC, cu_no (by decide +kernel), C, bs, dxC, p, rfl, A1, fun H1 k1 h1 l1 => ?_⟩
    refine ⟨_, rfl, (by show 3 ≤ sizeLine; decide), fun tt nt => ?_⟩
    have s2 : Same H1 (upd H1 tt (.tup [V.str ("quarterly" : Str), V.str ("impaled" : Str), V.str ("pretence" : Str)])) := new_same nt
    have h2 := s2 _ _ h1
    refine ⟨tt, _, rfl, .inr (SqT.of upd_same), rfl, rfl, _, rfl, ?_⟩
    have K2 := k1.trans (Keep.of (R := C) s2)
    generalize hH2 : upd H1 tt (.tup [V.str ("quarterly" : Str), V.str ("impaled" : Str), V.str ("pretence" : Str)]) = H2 at *
    have ge : p ≤ upTo isLetter bs p := upTo_ge
    dsimp only
    generalize hL : (bs.drop p).takeWhile isLetter = L at *
    have ein : inV (vS L) [V.str ("quarterly" : Str), V.str ("impaled" : Str), V.str ("pretence" : Str)] = decide (L = ascii "quarterly" ∨ L = ascii "impaled" ∨ L = ascii "pretence") := by
      rw [str_q, str_i, str_p]
      show (eqV (vS (ascii "quarterly")) (vS L) || (eqV (vS (ascii "impaled")) (vS L) || (eqV (vS (ascii "pretence")) (vS L) || false))) = _
      rw [vtup, vtup, vtup, Bool.or_false, Bool.eq_iff_iff, decide_eq_true_eq, Bool.or_eq_true, Bool.or_eq_true, decide_eq_true_eq, decide_eq_true_eq, decide_eq_true_eq]
      exact ⟨fun z => z.elim (fun a => .inl a.symm) fun z => .inr (z.elim (fun a => .inl a.symm) fun a => .inr a.symm), fun z => z.elim (fun a => .inl a.symm) fun z => .inr (z.elim (fun a => .inl a.symm) fun a => .inr a.symm)⟩
    rw [if_pos rfl, ein]
    by_cases c0 : L = ascii "quarterly" ∨ L = ascii "impaled" ∨ L = ascii "pretence"
    · rw [if_pos c0, need_lf] at k
      rw [decide_eq_true c0]
      refine iteF ?_
      refine ⟨_, rfl, C, bs, dxC, upTo isLetter bs p, 91, by rw [str_ob]; rfl, by decide +kernel, ⟨h2, l1, A1.sz⟩, ?_⟩
      by_cases c1 : bs[sk bs (upTo isLetter bs p)]? = some 91
      · rw [if_pos c1] at k ⊢
        dsimp only at k
        intro H3 k3 h3 l3
        have K3 := K2.trans k3
        have y1 : upTo isLetter bs p ≤ sk bs (upTo isLetter bs p) := sk_ge bs _
        have ge2 : p ≤ sk bs (upTo isLetter bs p) + 1 := Nat.le_trans ge (Nat.le_trans y1 (Nat.le_succ _))
        have hf2 : 2 * (bs.length - (sk bs (upTo isLetter bs p) + 1)) + 2 ≤ f := by omega
        have hf3 : 2 * (bs.length - (sk bs (upTo isLetter bs p) + 1)) + 3 ≤ f + 1 := by omega
        refine ⟨_, rfl, rfl, _, rfl, ?_⟩
        rw [str_q, dec_vS]
        by_cases q1 : L = ascii "quarterly"
        · rw [if_pos q1] at k
          rw [decide_eq_true q1]
          refine iteT ?_
          refine ⟨_, rfl, _, rfl, _, rfl, C, _, bs, dxC, sk bs (upTo isLetter bs p) + 1, sk bs (upTo isLetter bs p) + 1, _, rfl, ⟨h3, l3, A1.sz⟩, l3, rfl, ⟨f + 1, p, z, rfl, hz, hf3, rfl⟩, ?_⟩
          cases e1 : quartM (f + 1) n p (Lf bs (sk bs (upTo isLetter bs p) + 1)) with
          | error g => rw [e1] at k; exact k
          | ok a =>
          rw [e1] at k
          intro v4 H4 x4 q4 p4 k4 h4 l4 lp4 g04 elf4 ske4 r4
          exact k v4 H4 x4 q4 p4 (K3.trans k4) h4 l4 lp4 (Nat.le_trans ge2 g04) elf4 ske4 (RC.mv r4 (K3.mv h3))
        · rw [if_neg q1] at k
          rw [decide_eq_false q1]
          refine iteF ?_
          refine ⟨_, rfl, _, rfl, C, _, bs, dxC, sk bs (upTo isLetter bs p) + 1, sk bs (upTo isLetter bs p) + 1, _, rfl, ⟨h3, l3, A1.sz⟩, l3, rfl, ⟨f, z, rfl, hz, hf2, rfl⟩, ?_⟩
          cases e1 : twoB f n (Lf bs (sk bs (upTo isLetter bs p) + 1)) with
          | error g => rw [e1] at k; exact k
          | ok a =>
          obtain ⟨⟨ca, cb⟩, lf⟩ := a
          rw [e1] at k
          dsimp only at k
          intro v4 H4 x4 q4 p4 k4 h4 l4 lp4 g04 elf4 ske4 ⟨t, va, vb, ev, ht, ra, rb⟩
          dsimp only at elf4 ra rb
          subst elf4
          subst ev
          have K4 := K3.trans k4
          refine ⟨_, rfl, rfl, _, rfl, ?_⟩
          rw [str_i, dec_vS]
          by_cases q2 : L = ascii "impaled"
          · rw [if_pos q2] at k
            rw [decide_eq_true q2]
            refine iteT ?_
            refine ⟨_, rfl, t, _, 0, va, rfl, rfl, SqT.of ht, rfl, _, rfl, t, _, 1, vb, rfl, rfl, SqT.of ht, rfl, ?_⟩
            refine made rfl fun y dy H5 ny s5 hy => ?_
            exact k _ H5 x4 q4 p4 (K4.trans (Keep.of s5)) (s5 _ _ h4) l4 lp4 (Nat.le_trans ge2 g04) rfl ske4 ⟨va, vb, ⟨y, dy, rfl, K4.free h4 ny, hy⟩, RC.mv ra ((K3.mv h3).same s5), RC.mv rb ((K3.mv h3).same s5)⟩
          · rw [if_neg q2] at k
            rw [decide_eq_false q2]
            refine iteF ?_
            refine ⟨_, rfl, t, _, 0, va, rfl, rfl, SqT.of ht, rfl, _, rfl, t, _, 1, vb, rfl, rfl, SqT.of ht, rfl, ?_⟩
            refine made rfl fun y dy H5 ny s5 hy => ?_
            exact k _ H5 x4 q4 p4 (K4.trans (Keep.of s5)) (s5 _ _ h4) l4 lp4 (Nat.le_trans ge2 g04) rfl ske4 ⟨va, vb, ⟨y, dy, rfl, K4.free h4 ny, hy⟩, RC.mv ra ((K3.mv h3).same s5), RC.mv rb ((K3.mv h3).same s5)⟩
      · rw [if_neg c1] at k ⊢
        exact k
    · rw [if_neg c0] at k
      rw [decide_eq_false c0]
      refine iteT ?_
      exact ⟨_, rfl, _, _, rfl, fun z hz => k z _ upd_same⟩
/-! ### a coat -/
theorem sc_read_coat : FnScope ["cursor", "depth"] ["cursor", "depth"] (defScope s_read_coat) := ⟨rfl, rfl, rfl, by decide +kernel, rfl, by decide +kernel, by decide +kernel⟩
theorem okn_read_coat (T : Txt K mg d) : ∀ n : Nat, OkD P w K mg base (L2.CX P w) (lr n) d.f_read_coat ["cursor", "depth"] (spCt d n)
  | 0 => by
    obtain ⟨fd, F, B⟩ := T.k_read_coat.ex
    obtain ⟨⟨fd_Cursor_skip_blanks, G_Cursor_skip_blanks, B_Cursor_skip_blanks⟩, kp_Cursor_skip_blanks⟩ := ok_Cursor_skip_blanks (P := P) (w := w) (base := base) T
    obtain ⟨c_MOST_DEEP, m_MOST_DEEP⟩ := T.nMOST_DEEP
    obtain ⟨c_TOO_DEEP, m_TOO_DEEP⟩ := T.nTOO_DEEP
    refine ⟨⟨fd, ?_, B⟩, F.kp⟩
    refine F.okX (k := 18) sc_read_coat (fun vs H Q E h => ?_) (fun cdv A outer s H vs Q E hr h => ?_)
    · obtain ⟨C, us, bs, x, p, p0, par, rfl, _, _, _, ⟨f, z, rfl, _⟩, _⟩ := h
      rfl
    · obtain ⟨C, us, bs, dxC, p, p0, par, rfl, A1, hp0, hsk, ⟨f, z, rfl, hz, hf, rfl⟩, k⟩ := h
      have hr_Cursor_skip_blanks : Room 2 _ := hr.mono (by omega)
      have hC := A1.hC
      refine ⟨_, pss_cons (ps_expr (pe_meth0 (pv 0) T.kCursor.cl T.kCursor_skip_blanks.me G_Cursor_skip_blanks hr_Cursor_skip_blanks B_Cursor_skip_blanks .nil pass0))
      (pss_cons (ps_if (pt_cmpR op_gt (pv 1) (pgi m_MOST_DEEP) (nomark _))
        (pss_one (ps_raiseLow rfl T.xMisread hr takesX (pa_cons (pgi m_TOO_DEEP) (pa_cons (pe_fld (pv 0) rfl) pa_nil))))
        pss_nil)
      (pss_cons ps_never
      (pss_one ps_never))), ?_⟩
      have e0 : ShMarsh.coatIn f 0 (Lf bs p0) = .error (13, sk bs p0) := by
        obtain ⟨f', rfl⟩ : ∃ f', f = f' + 1 := ⟨f - 1, by omega⟩
        rw [ShMarsh.coatIn, if_pos rfl, skip_lf]
      rw [e0] at k
      refine ⟨_, rfl, C, dxC, _, rfl, hC, cu_no (by decide +kernel), C, bs, dxC, p, rfl, A1, fun H1 k1 h1 l1 => ?_⟩
      replace h1 : H1 C = some (cur d dxC bs (sk bs p)) := h1
      have hC := h1
      refine ⟨_, rfl, _, _, rfl, rfl, _, rfl, ?_⟩
      rw [decide_eq_true (show (4 : Int) < z by omega)]
      refine iteT ?_
      rw [← hsk] at k
      exact ⟨_, rfl, C, d.cCursor, dxC, _, _, rfl, hC, T.kCursor.cl, T.kCursor.no.2.1, look_at _ _ _ 1 rfl (by decide +kernel), _, _, rfl, fun z hz => k z _ upd_same⟩
  | n + 1 => by
    have hR := okn_read_coat T n
    obtain ⟨⟨fd_read_coats, G_read_coats, B_read_coats⟩, kp_read_coats⟩ := ok_read_coats T hR
    obtain ⟨fd, F, B⟩ := T.k_read_coat.ex
    obtain ⟨⟨fd_Cursor_skip_blanks, G_Cursor_skip_blanks, B_Cursor_skip_blanks⟩, kp_Cursor_skip_blanks⟩ := ok_Cursor_skip_blanks (P := P) (w := w) (base := base) T
    obtain ⟨⟨fd_Cursor_sign, G_Cursor_sign, B_Cursor_sign⟩, kp_Cursor_sign⟩ := ok_Cursor_sign (P := P) (w := w) (base := base) T
    obtain ⟨⟨fd_read_marked, G_read_marked, B_read_marked⟩, kp_read_marked⟩ := ok_read_marked (P := P) (w := w) (base := base) T
    obtain ⟨c_MOST_DEEP, m_MOST_DEEP⟩ := T.nMOST_DEEP
    obtain ⟨c_TOO_DEEP, m_TOO_DEEP⟩ := T.nTOO_DEEP
    refine ⟨⟨fd, ?_, B⟩, F.kp⟩
    refine F.okX (k := lr n + 2) sc_read_coat (fun vs H Q E h => ?_) (fun cdv A outer s H vs Q E hr h => ?_)
    · obtain ⟨C, us, bs, x, p, p0, par, rfl, _, _, _, ⟨f, z, rfl, _⟩, _⟩ := h
      rfl
    · obtain ⟨C, us, bs, dxC, p, p0, par, rfl, A1, hp0, hsk, ⟨f, z, rfl, hz, hf, rfl⟩, k⟩ := h
      have hlr := lr_ge n
      have hr_read_coats : Room (lr n + 2) _ := hr
      have hr_Cursor_skip_blanks : Room 2 _ := hr.mono (by omega)
      have hr_Cursor_sign : Room 1 _ := hr.mono (by omega)
      have hr_read_marked : Room 18 _ := hr.mono (by omega)
      have hC := A1.hC
      refine ⟨_, pss_cons (ps_expr (pe_meth0 (pv 0) T.kCursor.cl T.kCursor_skip_blanks.me G_Cursor_skip_blanks hr_Cursor_skip_blanks B_Cursor_skip_blanks .nil pass0))
      (pss_cons (ps_if (pt_cmpR op_gt (pv 1) (pgi m_MOST_DEEP) (nomark _))
        (pss_one (ps_raiseLow rfl T.xMisread hr takesX (pa_cons (pgi m_TOO_DEEP) (pa_cons (pe_fld (pv 0) rfl) pa_nil))))
        pss_nil)
      (pss_cons (ps_if (pt_cmpR op_eq (pe_meth0 (pv 0) T.kCursor.cl T.kCursor_sign.me G_Cursor_sign hr_Cursor_sign B_Cursor_sign .nil pass0) pe_str (nomark _))
        (pss_one (ps_ret (pe_call G_read_marked hr_read_marked rfl T.k_read_marked.gl kp_read_marked B_read_marked .nil passX (pa_cons (pv 0) pa_nil))))
        pss_nil)
      (pss_one (ps_ret (pe_call G_read_coats hr_read_coats rfl T.k_read_coats.gl kp_read_coats B_read_coats .nil passX (pa_cons (pv 0) (pa_cons (pv 1) pa_nil))))))), ?_⟩
      obtain ⟨f', rfl⟩ : ∃ f', f = f' + 2 := ⟨f - 2, by omega⟩
      rw [coat_is, ← hsk] at k
      refine ⟨_, rfl, C, dxC, _, rfl, hC, cu_no (by decide +kernel), C, bs, dxC, p, rfl, A1, fun H1 k1 h1 l1 => ?_⟩
      replace h1 : H1 C = some (cur d dxC bs (sk bs p)) := h1
      replace l1 : sk bs p ≤ bs.length := l1
      refine ⟨_, rfl, _, _, rfl, rfl, _, rfl, ?_⟩
      rw [decide_eq_false (show ¬ (4 : Int) < z by omega)]
      refine iteF ?_
      have A2 : CAt d bs C dxC H1 (sk bs p) := ⟨h1, l1, A1.sz⟩
      refine ⟨_, rfl, C, dxC, _, rfl, h1, cu_no (by decide +kernel), C, bs, dxC, sk bs p, rfl, A2, rfl, _, rfl, ?_⟩
      rw [str_op, dec_vS, dec_sg (by decide +kernel)]
      by_cases c : bs[sk bs p]? = some 40
      · rw [if_pos c] at k
        rw [decide_eq_true c]
        refine iteT ?_
        refine ⟨_, rfl, C, _, bs, dxC, sk bs p, p0, _, rfl, A2, hp0, by rw [sk_sk]; exact hsk, ⟨rfl, rfl⟩, ?_⟩
        cases e1 : ShMarsh.oneIn (Lf bs p0) with
        | error g => rw [e1] at k; exact k
        | ok a =>
        rw [e1] at k
        intro v4 H4 x4 q4 p4 k4 h4 l4 lp4 g04 elf4 ske4 r4
        exact k v4 H4 x4 q4 p4 (k1.trans k4) h4 l4 lp4 g04 elf4 ske4 (RC.mv r4 (k1.mv h1))
      · rw [if_neg c] at k
        rw [decide_eq_false c]
        refine iteF ?_
        have y0 : p0 ≤ sk bs p := by rw [hsk]; exact sk_ge bs p0
        refine ⟨_, rfl, _, rfl, C, _, bs, dxC, sk bs p, _, rfl, A2, ⟨f', z, rfl, by omega, by omega, rfl⟩, ?_⟩
        dsimp only
        cases e1 : coatsM f' n bs (sk bs p) with
        | error g => rw [e1] at k; exact k
        | ok a =>
        rw [e1] at k
        intro v4 H4 x4 q4 p4 k4 h4 l4 lp4 g04 elf4 ske4 r4
        exact k v4 H4 x4 q4 p4 (k1.trans k4) h4 l4 lp4 (Nat.le_trans y0 g04) elf4 ske4 (RC.mv r4 (k1.mv h1))
end
end HC


namespace HC
open PySem PySem.Spec PyProof.Rows L2
open ShBlazon (isLetter isDigit isBlank valueOf ascii)
section
variable {P : Program} {w : World} {K : PySem.W.Frag} {mg : Str → Option Value} {base : Heap} {d : Ad}
def GiveW (d : Ad) (H : Hp) (Q : VK) (E : XK) : Except ShBlazon.Fault ShMarsh.Coat → Prop
  | .error f => ErrM d E f.1 f.2
  | .ok c => ∀ v H', Same H H' → RC d H H' v c → Q v H'
def spWords (K : PySem.W.Frag) (d : Ad) : Sp := fun vs H Q E => ∃ (a : Addr) (bs : List UInt8), vs = [.ref a] ∧ SqL K H a (vals bs) ∧ bs.length ≤ 4096 ∧ GiveW d H Q E (ShMarsh.read bs)
theorem read_is (bs : List UInt8) : ShMarsh.read bs = match ShMarsh.coatIn (2 * bs.length + 4) 4 (Lf bs 0) with
    | .error e => Except.error e
    | .ok x => if (ShMarsh.skip x.2).2 = [] then Except.ok x.1 else Except.error (10, (ShMarsh.skip x.2).1) := rfl
theorem ok_read_coat (T : Txt K mg d) : OkD P w K mg base (L2.CX P w) 31 d.f_read_coat ["cursor", "depth"] (spCt d 4) := okn_read_coat T 4
theorem sg_nil' {bs : List UInt8} {p : Nat} : sg bs p = [] ↔ bs.drop p = [] := by
  rw [sg_nil, List.drop_eq_nil_iff, List.getElem?_eq_none_iff]
theorem sc_read_words : FnScope ["numbers", "cursor", "coat"] ["numbers"] (defScope s_read_words) := ⟨rfl, rfl, rfl, by decide +kernel, rfl, by decide +kernel, by decide +kernel⟩
theorem ok_read_words (T : Txt K mg d) : OkD P w K mg base (L2.CX P w) 32 d.f_read_words ["numbers"] (spWords K d) := by
  obtain ⟨fd, F, B⟩ := T.k_read_words.ex
  obtain ⟨⟨fd_Cursor, G_Cursor, B_Cursor⟩, kp_Cursor⟩ := ok_Cursor_init (P := P) (w := w) (base := base) T
  obtain ⟨⟨fd_read_coat, G_read_coat, B_read_coat⟩, kp_read_coat⟩ := ok_read_coat (P := P) (w := w) (base := base) T
  obtain ⟨⟨fd_Cursor_skip_blanks, G_Cursor_skip_blanks, B_Cursor_skip_blanks⟩, kp_Cursor_skip_blanks⟩ := ok_Cursor_skip_blanks (P := P) (w := w) (base := base) T
  obtain ⟨⟨fd_text_of, G_text_of, B_text_of⟩, kp_text_of⟩ := ok_text_of (P := P) (w := w) (base := base) T
  obtain ⟨⟨fd_Cursor_sign, G_Cursor_sign, B_Cursor_sign⟩, kp_Cursor_sign⟩ := ok_Cursor_sign (P := P) (w := w) (base := base) T
  obtain ⟨c_OTHER_SIGN, m_OTHER_SIGN⟩ := T.nOTHER_SIGN
  refine ⟨⟨fd, F.okX sc_read_words (fun vs H Q E h => ?_) (fun cdv A outer s H vs Q E hr h => ?_), B⟩, F.kp⟩
  · obtain ⟨a, bs, rfl, _⟩ := h
    rfl
  · obtain ⟨a, bs, rfl, hS, hlen, k⟩ := h
    have hr_Cursor : Room 2 _ := hr.mono (by decide)
    have hr_read_coat : Room 31 _ := hr.mono (by decide)
    have hr_Cursor_skip_blanks : Room 2 _ := hr.mono (by decide)
    have hr_text_of : Room 1 _ := hr.mono (by decide)
    have hr_Cursor_sign : Room 1 _ := hr.mono (by decide)
    refine ⟨_, pss_cons (ps_set (i := 1) sc_read_words.nd rfl (Or.inl rfl) (pe_make T.kCursor.mak G_Cursor hr_Cursor rfl T.kCursor.gl B_Cursor .nil pass0 (pa_cons (pe_call G_text_of hr_text_of rfl T.k_text_of.gl kp_text_of B_text_of .nil pass0 (pa_cons (pv 0) pa_nil)) pa_nil)))
      (pss_cons (ps_set (i := 2) sc_read_words.nd rfl (Or.inl rfl) (pe_call G_read_coat hr_read_coat rfl T.k_read_coat.gl kp_read_coat B_read_coat .nil passX (pa_cons (pv 1) (pa_cons pe_int pa_nil))))
      (pss_cons (ps_expr (pe_meth0 (pv 1) T.kCursor.cl T.kCursor_skip_blanks.me G_Cursor_skip_blanks hr_Cursor_skip_blanks B_Cursor_skip_blanks .nil pass0))
      (pss_cons (ps_if (pt_cmpR op_ne (pe_meth0 (pv 1) T.kCursor.cl T.kCursor_sign.me G_Cursor_sign hr_Cursor_sign B_Cursor_sign .nil pass0) pe_str (nomark _))
        (pss_one (ps_raiseLow rfl T.xMisread hr takesX (pa_cons (pgi m_OTHER_SIGN) (pa_cons (pe_fld (pv 1) rfl) pa_nil))))
        pss_nil)
      (pss_one (ps_ret (pv 2)))))), ?_⟩
    rw [read_is] at k
    refine ⟨_, rfl, a, bs, rfl, hS, hlen, fun H1 s1 => ?_⟩
    intro R x nR nx ne
    refine ⟨R, x, bs, rfl, upd_same, fun H2 hb hR => ⟨rfl, ?_⟩⟩
    have s2 : Same H1 H2 := fun b o z => by
      rw [hb b (ne_of_none z nR), upd_ne (ne_of_none z nR), upd_ne (ne_of_none z nx)]
      exact z
    have nRH : H R = none := s1.free nR
    refine ⟨_, rfl, R, _, bs, x, 0, 0, _, rfl, ⟨hR, Nat.zero_le _, hlen⟩, Nat.zero_le _, rfl, ⟨2 * bs.length + 4, 1, rfl, rfl, by omega, rfl⟩, ?_⟩
    cases e1 : ShMarsh.coatIn (2 * bs.length + 4) 4 (Lf bs 0) with
    | error g => rw [e1] at k; exact k
    | ok y =>
    obtain ⟨cc, lf⟩ := y
    rw [e1] at k
    dsimp only at k
    intro v3 H3 dxR q3 p3 k3 h3 l3 lp3 g03 elf3 ske3 r3
    dsimp only at elf3 r3
    subst elf3
    rw [skip_lf, ← ske3] at k
    have A3 : CAt d bs R dxR H3 q3 := ⟨h3, l3, hlen⟩
    refine ⟨_, rfl, R, dxR, _, rfl, h3, cu_no (by decide +kernel), R, bs, dxR, q3, rfl, A3, fun H4 k4 h4 l4 => ?_⟩
    replace h4 : H4 R = some (cur d dxR bs (sk bs q3)) := h4
    replace l4 : sk bs q3 ≤ bs.length := l4
    have A4 : CAt d bs R dxR H4 (sk bs q3) := ⟨h4, l4, hlen⟩
    refine ⟨_, rfl, R, dxR, _, rfl, h4, cu_no (by decide +kernel), R, bs, dxR, sk bs q3, rfl, A4, rfl, _, rfl, ?_⟩
    rw [str_e0, dec_vS]
    have K4 := k3.trans k4
    have hR0 := hR
    replace hR := h4
    by_cases c : bs.drop (sk bs q3) = []
    · have c' : sg bs (sk bs q3) = [] := sg_nil'.mpr c
      rw [if_pos (show (Lf bs (sk bs q3)).2 = [] from c)] at k
      rw [decide_eq_true c']
      refine iteF ?_
      refine ⟨_, rfl, k v3 H4 (fun b o ho => K4 b o (ne_of_none (s1 b o ho) nR) (s2 b o (s1 b o ho))) (RC.mv r3 ⟨fun b hb' => s1.free (s2.free hb'), fun b o nb ho => k4 b o (fun z => by rw [z, hR0] at nb; cases nb) ho⟩)⟩
    · have c' : ¬ sg bs (sk bs q3) = [] := fun z => c (sg_nil'.mp z)
      rw [if_neg (show ¬ (Lf bs (sk bs q3)).2 = [] from c)] at k
      rw [decide_eq_false c']
      refine iteT ?_
      exact ⟨_, rfl, R, d.cCursor, dxR, _, _, rfl, hR, T.kCursor.cl, T.kCursor.no.2.1, look_at _ _ _ 1 rfl (by decide +kernel), _, _, rfl, fun z hz => k z _ upd_same⟩
end
end HC


namespace HC
/-! ### the specification's tables, row by row -/
theorem off_1 (t : Int) : Sh.off 1 t = if t % 48 < 24 then 12 - (t % 24 - 12) * (t % 24 - 12) / 12 else (t % 24 - 12) * (t % 24 - 12) / 12 - 12 := rfl
theorem off_2 (t : Int) : Sh.off 2 t = if t % 48 < 24 then 12 else -12 := rfl
theorem off_3 (t : Int) : Sh.off 3 t = if t % 48 < 24 then t % 48 - 12 else 36 - t % 48 := rfl
theorem off_4 (t : Int) : Sh.off 4 t = (t % 24 - 12) * (t % 24 - 12) / 6 - 12 := rfl
theorem off_5 (t : Int) : Sh.off 5 t = 12 - (t % 24 - 12) * (t % 24 - 12) / 6 := rfl
theorem oh_6 (l : Nat) (p r : Int) : Sh.ordHas 6 l p r = Sh.within 0 (r - 168 - Sh.dist p - Sh.off l p) 144 := rfl
theorem oh_7 (l : Nat) (p r : Int) : Sh.ordHas 7 l p r = (Sh.within (180 + Sh.off l r) p (300 + Sh.off l r) || Sh.within (228 + Sh.off l p) r (348 + Sh.off l p)) := rfl
theorem oh_8 (l : Nat) (p r : Int) : Sh.ordHas 8 l p r = (Sh.nearDiag l 560 p r || Sh.nearDiag l 560 (Sh.flip p) r) := rfl
theorem oh_10 (l : Nat) (p r : Int) : Sh.ordHas 10 l p r = (decide (p < 48 + Sh.off l r) || (decide (432 - Sh.off l r ≤ p) || (decide (r < 48 + Sh.off l p) || decide (528 - Sh.off l p ≤ r)))) := rfl
section
variable {x y : Int} (h : -48 ≤ x ∧ x ≤ 48 ∧ -48 ≤ y ∧ y ≤ 48)
include h
theorem in48 : ¬ (48 < Sh.size x ∨ 48 < Sh.size y) := by
  unfold Sh.size
  split <;> split <;> omega
theorem ch_0 : Sh.chargeHas 0 x y = decide (x * x + y * y < 2304) := by
  unfold Sh.chargeHas; rw [if_neg (in48 h)]; rfl
theorem ch_1 : Sh.chargeHas 1 x y = Sh.within 1024 (x * x + y * y) 2304 := by
  unfold Sh.chargeHas; rw [if_neg (in48 h)]; rfl
theorem ch_2 : Sh.chargeHas 2 x y = decide (4 * Sh.size x + 3 * Sh.size y < 144) := by
  unfold Sh.chargeHas; rw [if_neg (in48 h)]; rfl
theorem ch_3 : Sh.chargeHas 3 x y = Sh.within 60 (4 * Sh.size x + 3 * Sh.size y) 144 := by
  unfold Sh.chargeHas; rw [if_neg (in48 h)]; rfl
theorem ch_4 : Sh.chargeHas 4 x y = decide (3 * Sh.size x + Sh.size y < 48) := by
  unfold Sh.chargeHas; rw [if_neg (in48 h)]; rfl
theorem ch_5 : Sh.chargeHas 5 x y = (decide (Sh.size x < 24) && decide (Sh.size y < 44)) := by
  unfold Sh.chargeHas; rw [if_neg (in48 h)]; rfl
theorem ch_6 : Sh.chargeHas 6 x y = ((decide (y ≤ 24) && decide (7 * Sh.size x ≤ 4 * (y + 48))) || (decide (-24 ≤ y) && decide (7 * Sh.size x ≤ 4 * (48 - y)))) := by
  unfold Sh.chargeHas; rw [if_neg (in48 h)]; rfl
theorem ch_7 : Sh.chargeHas 7 x y = (decide (x * x + y * y < 2304) && decide (1444 ≤ x * x + (y + 18) * (y + 18))) := by
  unfold Sh.chargeHas; rw [if_neg (in48 h)]; rfl
theorem ch_8 : Sh.chargeHas 8 x y = (decide (x * x + y * y < 2304) && decide (1444 ≤ (x + 18) * (x + 18) + y * y)) := by
  unfold Sh.chargeHas; rw [if_neg (in48 h)]; rfl
theorem ch_9 : Sh.chargeHas 9 x y = ((decide (Sh.size x < 14) && decide (Sh.size y < 44)) || (decide (Sh.size y < 14) && decide (Sh.size x < 44))) := by
  unfold Sh.chargeHas; rw [if_neg (in48 h)]; rfl
theorem ch_10 : Sh.chargeHas 10 x y = (decide (Sh.size (Sh.size x - Sh.size y) < 14) && (decide (Sh.size x < 40) && decide (Sh.size y < 40))) := by
  unfold Sh.chargeHas; rw [if_neg (in48 h)]; rfl
theorem ch_11 : Sh.chargeHas 11 x y = (decide (Sh.size x < 32) && (decide (-40 ≤ y) && decide (2 * Sh.size x + y < 72))) := by
  unfold Sh.chargeHas; rw [if_neg (in48 h)]; rfl
theorem ch_12 : Sh.chargeHas 12 x y = ((decide (Sh.size x < 30) && Sh.within (-20) y 44) || (Sh.within (-40) y (-20) && (decide (Sh.size x < 8) || Sh.within 22 (Sh.size x) 38))) := by
  unfold Sh.chargeHas; rw [if_neg (in48 h)]; rfl
theorem ch_13 : Sh.chargeHas 13 x y = ((decide (Sh.size x < 4) && decide (Sh.size y < 46)) || (decide (Sh.size x < 20) && Sh.within 18 y 26)) := by
  unfold Sh.chargeHas; rw [if_neg (in48 h)]; rfl
theorem ch_14 : Sh.chargeHas 14 x y = (Sh.within 1156 (x * x + y * y) 2304 || (decide (x * x + y * y < 1156) && (decide (Sh.size x < 5) || decide (Sh.size y < 5)))) := by
  unfold Sh.chargeHas; rw [if_neg (in48 h)]; rfl
theorem ch_15 : Sh.chargeHas 15 x y = ((decide (Sh.size x < 4) && decide (Sh.size y < 46)) || ((Sh.within (-46) y (-16) && decide (2 * Sh.size x < y + 48)) || (Sh.within 30 y 46 && decide (Sh.size x < 12)))) := by
  unfold Sh.chargeHas; rw [if_neg (in48 h)]; rfl
end
end HC
namespace HC
/-! ### what the bytes of a well made coat tell -/
def WField : Sh.Field → Prop
  | .plain _ => True
  | .parted d l a b => d ≤ 7 ∧ l ≤ 5 ∧ a ≠ b
  | .varied v n l a b => v ≤ 6 ∧ 2 ≤ n ∧ n ≤ 24 ∧ l ≤ 5 ∧ a ≠ b
def WFill (below : Sh.Field) : Sh.Fill → Prop
  | .solid f => WField f
  | .counter => below.two.isSome = true
def WLayer (below : Sh.Field) : Sh.Layer → Prop
  | .ord o l f => o ≤ 12 ∧ l ≤ 5 ∧ WFill below f
  | .group c n m s f => c ≤ 15 ∧ 1 ≤ n ∧ n ≤ 10 ∧ m ≤ 6 ∧ 1 ≤ s ∧ s ≤ 4 ∧ WFill below f
def WArms (a : Sh.Arms) : Prop := WField a.field ∧ ∀ x ∈ a.layers, WLayer a.field x
def WOpt : Option Sh.Arms → Prop
  | none => True
  | some a => WArms a
def WMarked (m : ShMarsh.Marked) : Prop := WArms m.arms ∧ WOpt m.canton ∧ m.marks.length ≤ 60 ∧ ∀ x ∈ m.marks, x.1 ≤ 127 ∧ x.2 ≤ 255
mutual
def WCoat : ShMarsh.Coat → Prop
  | .one m => WMarked m
  | .quarters l => 2 ≤ l.length ∧ l.length ≤ 9 ∧ WCoats l
  | .impaled a b => WCoat a ∧ WCoat b
  | .pretence a b => WCoat a ∧ WCoat b
def WCoats : List ShMarsh.Coat → Prop
  | [] => True
  | x :: l => WCoat x ∧ WCoats l
end
theorem na {lo hi x p : Nat} {b : Sh.Bytes} {y : Nat × Nat × Sh.Bytes} (h : Sh.numAt lo hi x p b = .ok y) : lo ≤ y.1 ∧ y.1 ≤ hi ∧ y.1 ≠ x := by
  unfold Sh.numAt at h
  split at h
  · cases h
  · split at h
    · cases h
    · rename_i c r hn
      cases h
      refine ⟨?_, ?_, ?_⟩
      · have : ¬ c.toNat < lo := fun z => hn (.inl z)
        show lo ≤ c.toNat
        omega
      · have : ¬ hi < c.toNat := fun z => hn (.inr (.inl z))
        show c.toNat ≤ hi
        omega
      · exact fun z => hn (.inr (.inr z))
theorem two_ok {p : Nat} {b : Sh.Bytes} {y : (Nat × Nat) × Nat × Sh.Bytes} (h : Sh.twoAt p b = .ok y) : y.1.1 ≠ y.1.2 := by
  unfold Sh.twoAt at h
  split at h
  · cases h
  · split at h
    · cases h
    · rename_i a _ c hc
      cases h
      exact fun e => (na hc).2.2 e.symm
theorem field_ok {p : Nat} {b : Sh.Bytes} {y : Sh.Field × Nat × Sh.Bytes} (h : Sh.fieldAt p b = .ok y) : WField y.1 := by
  unfold Sh.fieldAt at h
  split at h
  · cases h
  · split at h
    · split at h
      · cases h
      · cases h; trivial
    · split at h
      · split at h
        · cases h
        · rename_i d hd
          split at h
          · cases h
          · rename_i l hl
            split at h
            · cases h
            · rename_i t ht
              cases h
              exact ⟨(na hd).2.1, (na hl).2.1, two_ok ht⟩
      · split at h
        · cases h
        · rename_i v hv
          split at h
          · cases h
          · rename_i n hn
            split at h
            · cases h
            · rename_i l hl
              split at h
              · cases h
              · rename_i t ht
                cases h
                refine ⟨(na hv).2.1, (na hn).1, (na hn).2.1, ?_, two_ok ht⟩
                have := (na hl).2.1
                split at this <;> omega
theorem fill_ok {f : Sh.Field} {p : Nat} {b : Sh.Bytes} {y : Sh.Fill × Nat × Sh.Bytes} (h : Sh.fillAt f p b = .ok y) : WFill f y.1 := by
  unfold Sh.fillAt at h
  split at h
  · cases h
  · rename_i k hk
    split at h
    · rename_i h1
      cases h
      have := (na hk).2.1
      show f.two.isSome = true
      split at this
      · assumption
      · omega
    · split at h
      · cases h
      · rename_i g hg
        cases h
        exact field_ok hg
theorem layer_ok {f : Sh.Field} {p : Nat} {b : Sh.Bytes} {y : Sh.Layer × Nat × Sh.Bytes} (h : Sh.layerAt f p b = .ok y) : WLayer f y.1 := by
  unfold Sh.layerAt at h
  split at h
  · cases h
  · split at h
    · split at h
      · cases h
      · rename_i o ho
        split at h
        · cases h
        · rename_i l hl
          split at h
          · cases h
          · rename_i g hg
            cases h
            exact ⟨(na ho).2.1, (na hl).2.1, fill_ok hg⟩
    · split at h
      · cases h
      · rename_i c hc
        split at h
        · cases h
        · rename_i n hn
          split at h
          · cases h
          · rename_i m hm
            split at h
            · cases h
            · rename_i s hs
              split at h
              · cases h
              · rename_i g hg
                cases h
                exact ⟨(na hc).2.1, (na hn).1, (na hn).2.1, (na hm).2.1, (na hs).1, (na hs).2.1, fill_ok hg⟩
theorem layers_ok {f : Sh.Field} : ∀ {n p : Nat} {b : Sh.Bytes} {y : List Sh.Layer × Nat × Sh.Bytes}, Sh.layersFrom f n p b = .ok y → ∀ x ∈ y.1, WLayer f x
  | 0, _, _, _, h => by
    cases h
    intro x hx
    cases hx
  | n + 1, _, _, _, h => by
    unfold Sh.layersFrom at h
    split at h
    · cases h
    · rename_i x hx
      split at h
      · cases h
      · rename_i l hl
        cases h
        intro z hz
        rcases List.mem_cons.mp hz with e | e
        · subst e; exact layer_ok hx
        · exact layers_ok hl z e
theorem arms_ok {p : Nat} {b : Sh.Bytes} {y : Sh.Arms × Nat × Sh.Bytes} (h : ShMarsh.armsFrom p b = .ok y) : WArms y.1 := by
  unfold ShMarsh.armsFrom at h
  split at h
  · cases h
  · rename_i f hf
    split at h
    · cases h
    · split at h
      · cases h
      · rename_i l hl
        cases h
        exact ⟨field_ok hf, layers_ok hl⟩
theorem marks_ok : ∀ {n p : Nat} {b : Sh.Bytes} {y : List (Nat × Nat) × Nat × Sh.Bytes}, ShMarsh.marksFrom n p b = .ok y → y.1.length = n ∧ ∀ x ∈ y.1, x.1 ≤ 127 ∧ x.2 ≤ 255
  | 0, _, _, _, h => by
    cases h
    exact ⟨rfl, fun x hx => nomatch hx⟩
  | n + 1, _, _, _, h => by
    unfold ShMarsh.marksFrom at h
    split at h
    · cases h
    · rename_i g hg
      split at h
      · cases h
      · rename_i k hk
        split at h
        · cases h
        · rename_i l hl
          cases h
          have ih := marks_ok hl
          refine ⟨by rw [List.length_cons, ih.1], fun z hz => ?_⟩
          rcases List.mem_cons.mp hz with e | e
          · subst e; exact ⟨(na hg).2.1, (na hk).2.1⟩
          · exact ih.2 z e
theorem marked_ok {p : Nat} {b : Sh.Bytes} {y : ShMarsh.Marked × Nat × Sh.Bytes} (h : ShMarsh.markedFrom p b = .ok y) : WMarked y.1 := by
  unfold ShMarsh.markedFrom at h
  split at h
  · cases h
  · rename_i a ha
    split at h
    · cases h
    · rename_i k hk
      split at h
      · cases h
      · rename_i c hc
        split at h
        · cases h
        · rename_i n hn
          split at h
          · cases h
          · rename_i m hm
            cases h
            have hmk := marks_ok hm
            refine ⟨arms_ok ha, ?_, by rw [hmk.1]; exact (na hn).2.1, hmk.2⟩
            split at hc
            · cases hc; trivial
            · cases e : ShMarsh.armsFrom k.2.1 k.2.2 with
              | error e' => rw [e] at hc; cases hc
              | ok z => rw [e] at hc; cases hc; exact arms_ok e
theorem several_ok {one : Nat → Sh.Bytes → Except Nat (ShMarsh.Coat × Nat × Sh.Bytes)} (ho : ∀ p b y, one p b = .ok y → WCoat y.1) : ∀ {n p : Nat} {b : Sh.Bytes} {y : List ShMarsh.Coat × Nat × Sh.Bytes}, ShMarsh.several one n p b = .ok y → y.1.length = n ∧ WCoats y.1
  | 0, _, _, _, h => by
    cases h
    exact ⟨rfl, trivial⟩
  | n + 1, _, _, _, h => by
    unfold ShMarsh.several at h
    split at h
    · cases h
    · rename_i x hx
      split at h
      · cases h
      · rename_i l hl
        cases h
        have ih := several_ok ho hl
        exact ⟨by rw [List.length_cons, ih.1], ho _ _ _ hx, ih.2⟩
theorem coat_ok : ∀ {d p : Nat} {b : Sh.Bytes} {y : ShMarsh.Coat × Nat × Sh.Bytes}, ShMarsh.coatFrom d p b = .ok y → WCoat y.1
  | 0, _, _, _, h => by cases h
  | d + 1, _, _, _, h => by
    unfold ShMarsh.coatFrom at h
    split at h
    · cases h
    · split at h
      · split at h
        · cases h
        · rename_i m hm
          cases h
          exact marked_ok hm
      · split at h
        · split at h
          · cases h
          · rename_i n hn
            split at h
            · cases h
            · rename_i l hl
              cases h
              have hs := several_ok (fun p b y => coat_ok) hl
              exact ⟨by rw [hs.1]; exact (na hn).1, by rw [hs.1]; exact (na hn).2.1, hs.2⟩
        · split at h
          · cases h
          · rename_i x hx
            split at h
            · cases h
            · rename_i z hz
              cases h
              show WCoat (if _ then ShMarsh.Coat.impaled x.1 z.1 else ShMarsh.Coat.pretence x.1 z.1)
              split
              · exact ⟨coat_ok hx, coat_ok hz⟩
              · exact ⟨coat_ok hx, coat_ok hz⟩
theorem read_ok {b : Sh.Bytes} {c : ShMarsh.Coat} (h : ShMarsh.readCoat b = .ok c) : WCoat c := by
  unfold ShMarsh.readCoat at h
  split at h
  · cases h
  · rename_i x hx
    split at h
    · cases h
      exact coat_ok hx
    · cases h
end HC
namespace HC
/-! ### how deep what is read may be -/
theorem several_deep {one : Nat → Sh.Bytes → Except Nat (ShMarsh.Coat × Nat × Sh.Bytes)} {m : Nat} (ho : ∀ p b y, one p b = .ok y → y.1.deep ≤ m) : ∀ {n p : Nat} {b : Sh.Bytes} {y : List ShMarsh.Coat × Nat × Sh.Bytes}, ShMarsh.several one n p b = .ok y → ShMarsh.deepest y.1 ≤ m
  | 0, p, b, y, h => by
    cases h
    exact Nat.zero_le _
  | n + 1, p, b, y, h => by
    unfold ShMarsh.several at h
    cases e : one p b with
    | error z => rw [e] at h; cases h
    | ok x =>
      rw [e] at h
      dsimp only at h
      cases e2 : ShMarsh.several one n x.2.1 x.2.2 with
      | error z => rw [e2] at h; cases h
      | ok l =>
        rw [e2] at h
        cases h
        exact Nat.max_le.mpr ⟨ho _ _ _ e, several_deep ho e2⟩
theorem coat_deep : ∀ {n p : Nat} {b : Sh.Bytes} {y : ShMarsh.Coat × Nat × Sh.Bytes}, ShMarsh.coatFrom n p b = .ok y → y.1.deep ≤ n
  | 0, p, b, y, h => by cases h
  | n + 1, p, b, y, h => by
    unfold ShMarsh.coatFrom at h
    cases e : Sh.numAt 0 (if n = 0 then 0 else 3) Sh.ANY p b with
    | error z => rw [e] at h; cases h
    | ok k =>
      rw [e] at h
      dsimp only at h
      by_cases c0 : k.1 = 0
      · rw [if_pos c0] at h
        cases e1 : ShMarsh.markedFrom k.2.1 k.2.2 with
        | error z => rw [e1] at h; cases h
        | ok m =>
          rw [e1] at h
          cases h
          show 1 ≤ n + 1
          omega
      · rw [if_neg c0] at h
        by_cases c1 : k.1 = 1
        · rw [if_pos c1] at h
          cases e1 : Sh.numAt 2 ShMarsh.QUARTERS Sh.ANY k.2.1 k.2.2 with
          | error z => rw [e1] at h; cases h
          | ok m =>
            rw [e1] at h
            dsimp only at h
            cases e2 : ShMarsh.several (ShMarsh.coatFrom n) m.1 m.2.1 m.2.2 with
            | error z => rw [e2] at h; cases h
            | ok l =>
              rw [e2] at h
              cases h
              exact Nat.succ_le_succ (several_deep (fun _ _ _ z => coat_deep z) e2)
        · rw [if_neg c1] at h
          cases e1 : ShMarsh.coatFrom n k.2.1 k.2.2 with
          | error z => rw [e1] at h; cases h
          | ok x =>
            rw [e1] at h
            dsimp only at h
            cases e2 : ShMarsh.coatFrom n x.2.1 x.2.2 with
            | error z => rw [e2] at h; cases h
            | ok z =>
              rw [e2] at h
              cases h
              have h1 := coat_deep e1
              have h2 := coat_deep e2
              show ShMarsh.Coat.deep (if _ then ShMarsh.Coat.impaled x.1 z.1 else ShMarsh.Coat.pretence x.1 z.1) ≤ n + 1
              split
              · exact Nat.succ_le_succ (Nat.max_le.mpr ⟨h1, h2⟩)
              · exact Nat.succ_le_succ (Nat.max_le.mpr ⟨h1, h2⟩)
theorem read_deep {b : Sh.Bytes} {c : ShMarsh.Coat} (h : ShMarsh.readCoat b = .ok c) : c.deep ≤ 4 := by
  unfold ShMarsh.readCoat at h
  cases e : ShMarsh.coatFrom ShMarsh.DEEP 0 b with
  | error z => rw [e] at h; cases h
  | ok x =>
    rw [e] at h
    dsimp only at h
    by_cases c : x.2.2 = []
    · rw [if_pos c] at h
      cases h
      exact coat_deep e
    · rw [if_neg c] at h
      cases h
end HC
namespace HC
/-! ### coats whose numbers are bytes -/
def VField : Sh.Field → Prop
  | .plain t => t ≤ 30
  | .parted d l a b => d ≤ 30 ∧ l ≤ 30 ∧ a ≤ 30 ∧ b ≤ 30
  | .varied v n l a b => v ≤ 30 ∧ n ≤ 30 ∧ l ≤ 30 ∧ a ≤ 30 ∧ b ≤ 30
def VFill : Sh.Fill → Prop
  | .solid f => VField f
  | .counter => True
def VLayer : Sh.Layer → Prop
  | .ord o l f => o ≤ 30 ∧ l ≤ 30 ∧ VFill f
  | .group c n m s f => c ≤ 30 ∧ n ≤ 30 ∧ m ≤ 30 ∧ s ≤ 30 ∧ VFill f
def VArms (a : Sh.Arms) : Prop := VField a.field ∧ a.layers.length ≤ 8 ∧ ∀ x ∈ a.layers, VLayer x
def VOpt : Option Sh.Arms → Prop
  | none => True
  | some a => VArms a
def VMarked (m : ShMarsh.Marked) : Prop := VArms m.arms ∧ VOpt m.canton ∧ m.marks.length ≤ 60 ∧ ∀ x ∈ m.marks, x.1 ≤ 127 ∧ x.2 ≤ 255
mutual
def VCoat : ShMarsh.Coat → Prop
  | .one m => VMarked m
  | .quarters l => 2 ≤ l.length ∧ l.length ≤ 9 ∧ VCoats l
  | .impaled a b => VCoat a ∧ VCoat b
  | .pretence a b => VCoat a ∧ VCoat b
def VCoats : List ShMarsh.Coat → Prop
  | [] => True
  | x :: l => VCoat x ∧ VCoats l
end
theorem vcoats_mem : ∀ {l : List ShMarsh.Coat} {x : ShMarsh.Coat}, VCoats l → x ∈ l → VCoat x
  | y :: l, x, h, m => by
    rcases List.mem_cons.mp m with e | e
    · rw [e]
      exact h.1
    · exact vcoats_mem h.2 e
theorem vcoats_of : ∀ {l : List ShMarsh.Coat}, (∀ x ∈ l, VCoat x) → VCoats l
  | [], _ => trivial
  | x :: _, h => ⟨h x List.mem_cons_self, vcoats_of fun y hy => h y (List.mem_cons_of_mem _ hy)⟩
/-! ### what is read from words -/
open ShBlazon
theorem look_lt {l : List (List UInt8)} {s : St} {k : Nat} (h : look l s = some k) : k < l.length := by
  unfold look at h
  split at h
  · exact (List.findIdx?_eq_some_iff_getElem.mp h).1
  · cases h
theorem eat_lt {l : List (List UInt8)} {s : St} {y : Nat × St} (h : eat l s = .ok y) : y.1 < l.length := by
  unfold eat at h
  split at h
  · rename_i e
    cases h
    exact look_lt e
  · cases h
theorem sin_le (b k : Nat) (s : St) : (sinister b k s).1 ≤ k + 1 := by
  unfold sinister
  split
  · exact Nat.le_refl _
  · exact Nat.le_succ _
theorem line_le (s : St) : (lineAt s).1 ≤ 30 := by
  unfold lineAt
  split
  · rename_i e
    have := look_lt e
    exact Nat.le_trans (Nat.le_of_lt this) (by decide)
  · exact Nat.zero_le _
theorem two_le {s : St} {y : (Sh.Tinct × Sh.Tinct) × St} (h : ShBlazon.twoAt s = .ok y) : y.1.1 ≤ 30 ∧ y.1.2 ≤ 30 := by
  unfold ShBlazon.twoAt at h
  split at h
  · cases h
  · rename_i a e1
    split at h
    · cases h
    · split at h
      · cases h
      · rename_i b e2
        split at h
        · cases h
        · cases h
          have h1 := eat_lt e1
          have h2 := eat_lt e2
          exact ⟨Nat.le_trans (Nat.le_of_lt h1) (by decide), Nat.le_trans (Nat.le_of_lt h2) (by decide)⟩
theorem pieces_le {s : St} {y : Nat × St} (h : piecesAt s = .ok y) : y.1 ≤ 30 := by
  unfold piecesAt at h
  split at h
  · cases h
  · split at h
    · split at h
      · cases h
      · rename_i c
        cases h
        show numOf _ ≤ 30
        omega
    · cases h
theorem parted_le {d : Nat} {s : St} {y : Sh.Field × St} (hd : d ≤ 30) (h : partedAt d s = .ok y) : VField y.1 := by
  unfold partedAt at h
  split at h
  · cases h
  · rename_i x e
    cases h
    have h2 := two_le e
    exact ⟨hd, line_le _, h2.1, h2.2⟩
theorem varied_le {v : Nat} {s : St} {y : Sh.Field × St} (hd : v ≤ 30) (h : variedAt v s = .ok y) : VField y.1 := by
  unfold variedAt at h
  split at h
  · cases h
  · rename_i n e
    dsimp only at h
    split at h
    · cases h
    · rename_i x e2
      cases h
      have h2 := two_le e2
      refine ⟨hd, pieces_le e, ?_, h2.1, h2.2⟩
      split
      · exact Nat.zero_le _
      · exact line_le _
theorem vfieldW {s : St} {y : Sh.Field × St} (h : ShBlazon.fieldAt s = .ok y) : VField y.1 := by
  unfold ShBlazon.fieldAt at h
  split at h
  · rename_i t e
    cases h
    have := look_lt e
    exact Nat.le_trans (Nat.le_of_lt this) (by decide)
  · split at h
    · split at h
      · cases h
      · rename_i w e
        have h1 := eat_lt e
        have h2 := sin_le 2 w.1 w.2
        have h3 : WAYWORDS.length ≤ 29 := by decide
        exact parted_le (by omega) h
    · split at h
      · exact parted_le (by decide) h
      · split at h
        · exact parted_le (by decide) h
        · split at h
          · cases h
          · rename_i w e
            have h1 := eat_lt e
            have h2 := sin_le 2 w.1 w.2
            have h3 : VARYWORDS.length ≤ 29 := by decide
            exact varied_le (by omega) h
theorem vfillW {f : Sh.Field} {s : St} {y : Sh.Fill × St} (h : ShBlazon.fillAt f s = .ok y) : VFill y.1 := by
  unfold ShBlazon.fillAt at h
  split at h
  · split at h
    · cases h
      trivial
    · cases h
  · split at h
    · cases h
    · rename_i x e
      cases h
      exact vfieldW e
theorem manner_le {s : St} {y : Nat × St} (h : mannerAt s = .ok y) : y.1 ≤ 30 := by
  unfold mannerAt at h
  split at h
  · split at h
    · cases h
    · rename_i m e
      cases h
      have h1 := eat_lt e
      have h2 := sin_le 3 m.1 m.2
      have h3 : MANNERWORDS.length ≤ 29 := by decide
      omega
  · cases h
    exact Nat.zero_le _
theorem size_le (s : St) : (sizeAt s).1 ≤ 30 := by
  unfold sizeAt
  split
  · rename_i e
    have := look_lt e
    exact Nat.le_trans (Nat.le_of_lt this) (by decide)
  · show 3 ≤ 30
    decide
theorem group_le {f : Sh.Field} {n : Nat} {l : List (List UInt8)} {s : St} {y : Sh.Layer × St} (hn : n ≤ 30) (hl : l.length ≤ 30) (h : groupAt f n l s = .ok y) : VLayer y.1 := by
  unfold groupAt at h
  split at h
  · cases h
  · rename_i c e1
    split at h
    · cases h
    · rename_i m e2
      split at h
      · cases h
      · rename_i x e3
        cases h
        have h1 := eat_lt e1
        exact ⟨by omega, hn, manner_le e2, size_le _, vfillW e3⟩
theorem ord_le {f : Sh.Field} {o : Nat} {s : St} {y : Sh.Layer × St} (hn : o ≤ 29) (h : ordAt f o s = .ok y) : VLayer y.1 := by
  unfold ordAt at h
  dsimp only at h
  split at h
  · cases h
  · rename_i x e3
    cases h
    have h2 := sin_le 4 o s
    exact ⟨by omega, line_le _, vfillW e3⟩
theorem vlayerW {f : Sh.Field} {s : St} {y : Sh.Layer × St} (h : ShBlazon.layerAt f s = .ok y) : VLayer y.1 := by
  unfold ShBlazon.layerAt at h
  split at h
  · dsimp only at h
    split at h
    · cases h
    · split at h
      · cases h
      · split at h
        · rename_i o e
          have h1 := look_lt e
          have h3 : ORDWORDS.length ≤ 29 := by decide
          exact ord_le (by omega) h
        · exact group_le (by decide) (by decide) h
  · split at h
    · cases h
    · rename_i n e
      have h1 := eat_lt e
      have h3 : COUNTS.length ≤ 28 := by decide
      exact group_le (by omega) (by decide) h
theorem vlayersW {f : Sh.Field} : ∀ {n : Nat} {s : St} {l : List Sh.Layer}, ShBlazon.layersAt f n s = .ok l → l.length ≤ n ∧ ∀ x ∈ l, VLayer x
  | 0, s, l, h => by
    unfold ShBlazon.layersAt at h
    split at h
    · cases h
    · split at h
      · cases h
        exact ⟨Nat.le_refl _, fun x hx => nomatch hx⟩
      · cases h
  | n + 1, s, l, h => by
    unfold ShBlazon.layersAt at h
    split at h
    · split at h
      · cases h
      · rename_i x e1
        split at h
        · cases h
        · rename_i r e2
          cases h
          obtain ⟨i1, i2⟩ := vlayersW e2
          refine ⟨Nat.succ_le_succ i1, fun y hy => ?_⟩
          rcases List.mem_cons.mp hy with e | e
          · rw [e]; exact vlayerW e1
          · exact i2 y e
    · split at h
      · cases h
        exact ⟨Nat.zero_le _, fun x hx => nomatch hx⟩
      · cases h
theorem vreadW {b : List UInt8} {a : Sh.Arms} (h : ShBlazon.read b = .ok a) : VArms a := by
  unfold ShBlazon.read at h
  split at h
  · cases h
  · rename_i f e1
    split at h
    · cases h
    · rename_i l e2
      cases h
      obtain ⟨i1, i2⟩ := vlayersW e2
      exact ⟨vfieldW e1, i1, i2⟩
open ShMarsh
theorem varmsW {s : Left} {y : Sh.Arms × Left} (h : armsIn s = .ok y) : VArms y.1 := by
  unfold armsIn at h
  split at h
  · cases h
  · dsimp only at h
    split at h
    · cases h
    · split at h
      · rename_i a e
        cases h
        exact vreadW e
      · cases h
theorem vmarkW {s : Left} {y : (Nat × Nat) × Left} (h : markIn s = .ok y) : y.1.1 ≤ 127 ∧ y.1.2 ≤ 255 := by
  unfold markIn at h
  split at h
  · cases h
  · split at h
    · split at h
      · cases h
      · split at h
        · rename_i c
          cases h
          unfold markFine at c
          simp only [Bool.and_eq_true, decide_eq_true_eq] at c
          dsimp only
          omega
        · cases h
    · cases h
theorem vmarksW : ∀ {n : Nat} {s : Left} {y : List (Nat × Nat) × Left}, marksIn n s = .ok y → y.1.length ≤ n ∧ ∀ x ∈ y.1, x.1 ≤ 127 ∧ x.2 ≤ 255
  | 0, s, y, h => by
    unfold marksIn at h
    split at h
    · cases h
    · cases h
      exact ⟨Nat.le_refl _, fun x hx => nomatch hx⟩
  | n + 1, s, y, h => by
    unfold marksIn at h
    split at h
    · split at h
      · cases h
      · rename_i x e1
        split at h
        · cases h
        · rename_i r e2
          cases h
          obtain ⟨i1, i2⟩ := vmarksW e2
          refine ⟨Nat.succ_le_succ i1, fun y hy => ?_⟩
          rcases List.mem_cons.mp hy with e | e
          · rw [e]; exact vmarkW e1
          · exact i2 y e
    · cases h
      exact ⟨Nat.zero_le _, fun x hx => nomatch hx⟩
def PC (d : Nat) (c : Coat) : Prop := VCoat c ∧ c.deep ≤ d
theorem vmarkedW {a : Sh.Arms} {c : Option Sh.Arms} {s : Left} {y : Coat × Left} (ha : VArms a) (hc : VOpt c) (h : markedIn a c s = .ok y) : PC 1 y.1 := by
  unfold markedIn at h
  split at h
  · cases h
    exact ⟨⟨ha, hc, Nat.zero_le _, fun x hx => nomatch hx⟩, Nat.le_refl _⟩
  · split at h
    · cases h
    · rename_i m e
      split at h
      · cases h
      · cases h
        obtain ⟨i1, i2⟩ := vmarksW e
        exact ⟨⟨ha, hc, i1, i2⟩, Nat.le_refl _⟩
theorem voneW {s : Left} {y : Coat × Left} (h : oneIn s = .ok y) : PC 1 y.1 := by
  unfold oneIn at h
  split at h
  · cases h
  · rename_i a e1
    split at h
    · exact vmarkedW (c := none) (varmsW e1) trivial h
    · split at h
      · cases h
      · rename_i c e2
        exact vmarkedW (c := some c.1) (varmsW e1) (varmsW e2) h
theorem deepest_le {m : Nat} : ∀ {l : List Coat}, (∀ x ∈ l, x.deep ≤ m) → deepest l ≤ m
  | [], _ => Nat.zero_le _
  | x :: l, h => by
    have h1 := h x List.mem_cons_self
    have h2 := deepest_le fun y hy => h y (List.mem_cons_of_mem _ hy)
    show max x.deep (deepest l) ≤ m
    omega
theorem vcoatW : ∀ f : Nat, (∀ d s y, coatIn f d s = .ok y → PC d y.1) ∧ (∀ d s y, moreIn f d s = .ok y → ∀ x ∈ y.1, PC d x) ∧ (∀ d s y, twoIn f d s = .ok y → PC d y.1.1 ∧ PC d y.1.2)
  | 0 => by
    refine ⟨fun d s y h => ?_, fun d s y h => ?_, fun d s y h => ?_⟩
    · unfold coatIn at h; cases h
    · unfold moreIn at h; cases h
    · unfold twoIn at h; cases h
  | f + 1 => by
    obtain ⟨i1, i2, i3⟩ := vcoatW f
    refine ⟨fun d s y h => ?_, fun d s y h => ?_, fun d s y h => ?_⟩
    · unfold coatIn at h
      split at h
      · cases h
      · rename_i hd
        split at h
        · split at h
          · cases h
          · split at h
            · cases h
            · rename_i l e
              split at h
              · cases h
              · rename_i c
                have c' : 2 ≤ l.1.length ∧ l.1.length ≤ 9 := by
                  have e9 : QUARTERS = 9 := rfl
                  omega
                cases h
                have q := i2 _ _ _ e
                refine ⟨⟨c'.1, c'.2, vcoats_of fun x hx => (q x hx).1⟩, ?_⟩
                have := deepest_le (m := d - 1) fun x hx => (q x hx).2
                show deepest l.1 + 1 ≤ d
                omega
        · split at h
          · split at h
            · cases h
            · rename_i x e
              cases h
              obtain ⟨⟨q1, q2⟩, q3, q4⟩ := i3 _ _ _ e
              refine ⟨⟨q1, q3⟩, ?_⟩
              show max x.1.1.deep x.1.2.deep + 1 ≤ d
              omega
          · split at h
            · split at h
              · cases h
              · rename_i x e
                cases h
                obtain ⟨⟨q1, q2⟩, q3, q4⟩ := i3 _ _ _ e
                refine ⟨⟨q1, q3⟩, ?_⟩
                show max x.1.1.deep x.1.2.deep + 1 ≤ d
                omega
            · have q := voneW h
              exact ⟨q.1, Nat.le_trans q.2 (by omega)⟩
    · unfold moreIn at h
      split at h
      · cases h
      · rename_i x e1
        have q1 := i1 _ _ _ e1
        split at h
        · split at h
          · cases h
          · rename_i l e2
            cases h
            intro z hz
            rcases List.mem_cons.mp hz with e | e
            · rw [e]; exact q1
            · exact i2 _ _ _ e2 z e
        · split at h
          · cases h
          · cases h
            intro z hz
            rcases List.mem_cons.mp hz with e | e
            · rw [e]; exact q1
            · cases e
    · unfold twoIn at h
      split at h
      · cases h
      · split at h
        · cases h
        · rename_i a e1
          split at h
          · cases h
          · split at h
            · cases h
            · rename_i b e2
              split at h
              · cases h
              · cases h
                exact ⟨i1 _ _ _ e1, i1 _ _ _ e2⟩
theorem vread {b : List UInt8} {c : Coat} (h : ShMarsh.read b = .ok c) : VCoat c ∧ c.deep ≤ 4 := by
  unfold ShMarsh.read at h
  split at h
  · cases h
  · rename_i x e
    split at h
    · cases h
      exact (vcoatW _).1 _ _ _ e
    · cases h
end HC
namespace HC
open PySem PySem.Spec PyProof.Rows L2
/-! ### max(xs, default=z) of a list of ints -/
def rMaxD (K : PySem.W.Frag) : List V → List V → Hp → VK → Prop := fun vs zs H Q => ∃ (a : Addr) (ns : List Int) (z : V), vs = [V.ref a] ∧ zs = [z] ∧ SqL K H a (ns.map V.int) ∧ (ns = [] → Q z H) ∧ ∀ n r, ns = n :: r → Q (.int (PySem.W.maxOf n r)) H
theorem int_holds {h : Heap} {v : Value} {n : Int} (hv : PySem.W.Holds h v n) : ∃ t, v = .int n t := by
  obtain ⟨as, r⟩ := hv
  cases r with
  | int _ t => exact ⟨t, rfl⟩
theorem cr_maxD {X : Cx} {k : Nat} (hc : X.calm = true) (hr : Room k X.A) : CallRK X (.builtin "max") ["default"] (rMaxD X.K) := by
  intro pins sh st Hh xs zs us ws Qv Iv r1 r2 hw
  obtain ⟨a, ns, z, rfl, rfl, hs, q0, q1⟩ := hw
  obtain ⟨its, rv, hl, _⟩ := Iv.list hs
  obtain ⟨u, rfl, ru⟩ := vals1 r2
  rw [Vals.ref1 r1]
  have hu : X.A.units + 1 + PySem.W.Datum.depth Int < cLine := by
    have h1 := hr.units
    have h2 : PySem.W.Datum.depth Int ≤ 8 := by decide
    omega
  refine PySem.W.max_list_datum_default (xs := ns) (Iv.ok.hd hc) hl.isList (PySem.W.HoldAll.of_ints (by simpa using rv.ints)) hu (fun e h' tk hk => ?_) (fun n r i v h' tk e hi hv hk => ?_)
  · exact ⟨z, Hh, Iv.kept hk, ru, q0 e⟩
  · obtain ⟨t, rfl⟩ := int_holds hv
    exact ⟨.int _, Hh, Iv.kept hk, ⟨_, rfl⟩, q1 n r e⟩
/-! ### the coats in a coat -/
def inn : ShMarsh.Coat → List ShMarsh.Coat
  | .one _ => []
  | .quarters l => l
  | .impaled a b => [a, b]
  | .pretence a b => [a, b]
mutual
/-- lists of coats are short, all the way -/
def Small : ShMarsh.Coat → Prop
  | .one _ => True
  | .quarters l => l.length ≤ 1000 ∧ Smalls l
  | .impaled a b => Small a ∧ Small b
  | .pretence a b => Small a ∧ Small b
def Smalls : List ShMarsh.Coat → Prop
  | [] => True
  | x :: l => Small x ∧ Smalls l
end
theorem smalls_mem : ∀ {l : List ShMarsh.Coat} {x : ShMarsh.Coat}, Smalls l → x ∈ l → Small x
  | y :: l, x, h, m => by
    rcases List.mem_cons.mp m with e | e
    · rw [e]
      exact h.1
    · exact smalls_mem h.2 e
theorem Small.sub {c x : ShMarsh.Coat} (h : Small c) (m : x ∈ inn c) : Small x := by
  cases c with
  | one _ => cases m
  | quarters l => exact smalls_mem h.2 m
  | impaled a b =>
    obtain ⟨h1, h2⟩ : Small a ∧ Small b := h
    rcases List.mem_cons.mp m with e | e
    · rw [e]; exact h1
    · rcases List.mem_cons.mp e with e | e
      · rw [e]; exact h2
      · cases e
  | pretence a b =>
    obtain ⟨h1, h2⟩ : Small a ∧ Small b := h
    rcases List.mem_cons.mp m with e | e
    · rw [e]; exact h1
    · rcases List.mem_cons.mp e with e | e
      · rw [e]; exact h2
      · cases e
theorem small_len {c : ShMarsh.Coat} (h : Small c) : (inn c).length ≤ 1000 := by
  cases c with
  | one _ => exact Nat.zero_le _
  | quarters l => exact h.1
  | impaled a b => show 2 ≤ 1000; decide
  | pretence a b => show 2 ≤ 1000; decide
theorem Small.len {c x : ShMarsh.Coat} (h : Small c) (m : x ∈ inn c) : (inn x).length ≤ 1000 := small_len (h.sub m)
mutual
theorem small_of : ∀ {c : ShMarsh.Coat}, WCoat c → Small c
  | .one _, _ => trivial
  | .quarters l, h => by
    obtain ⟨h1, h2, h3⟩ : 2 ≤ l.length ∧ l.length ≤ 9 ∧ WCoats l := h
    exact ⟨by omega, smalls_of h3⟩
  | .impaled a b, h => by
    obtain ⟨h1, h2⟩ : WCoat a ∧ WCoat b := h
    exact ⟨small_of h1, small_of h2⟩
  | .pretence a b, h => by
    obtain ⟨h1, h2⟩ : WCoat a ∧ WCoat b := h
    exact ⟨small_of h1, small_of h2⟩
theorem smalls_of : ∀ {l : List ShMarsh.Coat}, WCoats l → Smalls l
  | [], _ => trivial
  | x :: l, h => by
    obtain ⟨h1, h2⟩ : WCoat x ∧ WCoats l := h
    exact ⟨small_of h1, smalls_of h2⟩
end
def isOne : ShMarsh.Coat → Bool
  | .one _ => true
  | _ => false
theorem parts_sum : ∀ l : List ShMarsh.Coat, ShMarsh.partsOf l = (l.map ShMarsh.Coat.parts).sum
  | [] => rfl
  | x :: l => by
    show x.parts + ShMarsh.partsOf l = _
    rw [parts_sum l, List.map_cons, List.sum_cons]
theorem parts_inn {c : ShMarsh.Coat} (h : isOne c = false) : c.parts = ((inn c).map ShMarsh.Coat.parts).sum := by
  cases c with
  | one m => cases h
  | quarters l => exact parts_sum l
  | impaled a b =>
    show a.parts + b.parts = a.parts + (b.parts + 0)
    omega
  | pretence a b =>
    show a.parts + b.parts = a.parts + (b.parts + 0)
    omega
def most : List Nat → Nat
  | [] => 0
  | x :: l => max x (most l)
theorem deepest_most : ∀ l : List ShMarsh.Coat, ShMarsh.deepest l = most (l.map ShMarsh.Coat.deep)
  | [] => rfl
  | x :: l => by
    show max x.deep (ShMarsh.deepest l) = max x.deep (most (l.map ShMarsh.Coat.deep))
    rw [deepest_most l]
theorem deep_inn (c : ShMarsh.Coat) : c.deep = 1 + most ((inn c).map ShMarsh.Coat.deep) := by
  cases c with
  | one m => rfl
  | quarters l =>
    show ShMarsh.deepest l + 1 = _
    rw [deepest_most, Nat.add_comm]
    rfl
  | impaled a b =>
    show max a.deep b.deep + 1 = 1 + max a.deep (max b.deep 0)
    omega
  | pretence a b =>
    show max a.deep b.deep + 1 = 1 + max a.deep (max b.deep 0)
    omega
theorem most_le : ∀ {l : List Nat} {x : Nat}, x ∈ l → x ≤ most l
  | y :: l, x, h => by
    rcases List.mem_cons.mp h with e | e
    · subst e
      exact Nat.le_max_left _ _
    · exact Nat.le_trans (most_le e) (Nat.le_max_right _ _)
theorem inn_deep {c x : ShMarsh.Coat} (h : x ∈ inn c) : x.deep + 1 ≤ c.deep := by
  have := most_le (List.mem_map.mpr ⟨x, h, rfl⟩ : x.deep ∈ (inn c).map ShMarsh.Coat.deep)
  rw [deep_inn c]
  omega
theorem lt_int (a b : Int) : PySem.W.DatumOrd.lt a b = decide (a < b) := rfl
theorem max_step (n x : Nat) (r : List Int) : PySem.W.maxOf (n : Int) ((x : Int) :: r) = PySem.W.maxOf ((max n x : Nat) : Int) r := by
  show PySem.W.maxOf (if PySem.W.DatumOrd.lt (n : Int) (x : Int) = true then (x : Int) else (n : Int)) r = _
  have e : (if PySem.W.DatumOrd.lt (n : Int) (x : Int) = true then (x : Int) else (n : Int)) = ((max n x : Nat) : Int) := by
    rw [lt_int]
    by_cases h : (n : Int) < (x : Int)
    · rw [decide_eq_true h, if_pos rfl]
      omega
    · rw [decide_eq_false h, if_neg (by decide)]
      omega
  rw [e]
theorem max_most : ∀ (r : List Nat) (n : Nat), PySem.W.maxOf (n : Int) (r.map fun (x : Nat) => (x : Int)) = ((max n (most r) : Nat) : Int)
  | [], n => by
    show (n : Int) = ((max n 0 : Nat) : Int)
    rw [Nat.max_zero]
  | x :: r, n => by
    rw [List.map_cons, max_step, max_most r]
    show ((max (max n x) (most r) : Nat) : Int) = ((max n (max x (most r)) : Nat) : Int)
    rw [Nat.max_assoc]
theorem sum_cast : ∀ l : List Nat, (l.map fun (x : Nat) => (x : Int)).sum = ((l.sum : Nat) : Int)
  | [] => rfl
  | x :: l => by
    rw [List.map_cons, List.sum_cons, List.sum_cons, sum_cast l]
    omega
theorem map_vN (l : List Nat) : l.map vN = (l.map fun (x : Nat) => (x : Int)).map V.int := by
  rw [List.map_map]
  rfl
/-- a list of numbers that a comprehension builds at D -/
structure Cn (H : Hp) (D : Addr) (ys : List Nat) (i : Nat) (H' : Hp) : Prop where
  sm : ∀ b o, b ≠ D → H b = some o → H' b = some o
  ac : H' D = some (.lst ((ys.take i).map vN))
theorem Cn.start {H : Hp} {D : Addr} {ys : List Nat} : Cn H D ys 0 (upd H D (.lst [])) := ⟨fun b o n h => by rw [upd_ne n]; exact h, upd_same⟩
theorem Cn.turn {H H' H4 : Hp} {D : Addr} {ys : List Nat} {i y : Nat} (c : Cn H D ys i H') (s : Same H' H4) (hy : ys[i]? = some y) : H4 D = some (.lst ((ys.take i).map vN)) ∧ Cn H D ys (i + 1) (upd H4 D (.lst ((ys.take i).map vN ++ [vN y]))) := by
  refine ⟨s _ _ c.ac, fun b o n h => ?_, ?_⟩
  · rw [upd_ne n]
    exact s _ _ (c.sm b o n h)
  · rw [upd_same, List.take_add_one, hy, List.map_append]
    rfl
theorem Cn.fin {H H' : Hp} {D : Addr} {ys : List Nat} (c : Cn H D ys ys.length H') (hD : H D = none) : Same H H' ∧ H' D = some (.lst (ys.map vN)) := by
  refine ⟨fun b o h => c.sm b o (ne_of_none h hD) h, ?_⟩
  have := c.ac
  rw [List.take_length] at this
  exact this
section
variable {P : Program} {w : World} {K : PySem.W.Frag} {mg : Str → Option Value} {base : Heap} {d : Ad}
theorem all_of {H0 H : Hp} : ∀ {l : List ShMarsh.Coat} {us : List V}, RCoats d H0 H l us → All2 (RC d H0 H) us l
  | [], us, h => by
    have h' : us = [] := h
    subst h'
    exact .nil
  | x :: l, us, h => by
    obtain ⟨u, r, rfl, h1, h2⟩ := h
    exact .cons h1 (all_of h2)
theorem All2.at_ {α : Type} {R : V → α → Prop} {vs : List V} {xs : List α} (t : All2 R vs xs) : ∀ {i : Nat} {v : V}, vs[i]? = some v → ∃ x, xs[i]? = some x ∧ R v x := by
  induction t with
  | nil => intro i v h; simp at h
  | cons h' _ ih =>
    intro i v h
    cases i with
    | zero =>
      simp at h
      subst h
      exact ⟨_, rfl, h'⟩
    | succ i =>
      obtain ⟨x, e, r⟩ := ih (i := i) (by simpa using h)
      exact ⟨x, by simpa using e, r⟩
/-- a new list of the coats in the coat -/
def spInn (d : Ad) : Sp := fun vs H Q _ => ∃ (v : V) (c : ShMarsh.Coat) (H0 : Hp), vs = [v] ∧ RC d H0 H v c ∧ ∀ (H' : Hp) (p : Addr) (us : List V), Same H H' → H p = none → H' p = some (.lst us) → All2 (RC d H0 H) us (inn c) → Q (.ref p) H'
theorem sc_coats_in : FnScope ["coat"] ["coat"] (defScope s_coats_in) := ⟨rfl, rfl, rfl, by decide +kernel, rfl, by decide +kernel, by decide +kernel⟩
theorem ok_coats_in (T : Txt K mg d) : OkD P w K mg base CX0 2 d.f_coats_in ["coat"] (spInn d) := by
  obtain ⟨fd, F, B⟩ := T.k_coats_in.ex
  refine ⟨⟨fd, F.ok sc_coats_in (fun vs H Q E h => ?_) (fun cdv A outer s H vs Q E hr h => ?_), B⟩, F.kp⟩
  · obtain ⟨v, c, H0, rfl, _⟩ := h
    rfl
  · obtain ⟨v, c, H0, rfl, hv, k⟩ := h
    refine ⟨_, pss_cons (ps_if (pt_val (pe_callB call_isi (by rfl) T.b_isinstance (by decide +kernel) (pa_cons (pv 0) (pa_cons (pe_glob (v := .ref d.cMarked) rfl T.kMarked.gl rfl) pa_nil))))
        (pss_one (ps_ret (pe_lst pa_nil)))
        pss_nil)
      (pss_cons (ps_if (pt_val (pe_callB call_isi (by rfl) T.b_isinstance (by decide +kernel) (pa_cons (pv 0) (pa_cons (pe_glob (v := .ref d.cQuarterly) rfl T.kQuarterly.gl rfl) pa_nil))))
        (pss_one (ps_ret (pe_callTy call_list_of (by rfl) T.b_list (by decide +kernel) (pa_cons (pe_fld (pv 0) rfl) pa_nil))))
        pss_nil)
      (pss_cons (ps_if (pt_val (pe_callB call_isi (by rfl) T.b_isinstance (by decide +kernel) (pa_cons (pv 0) (pa_cons (pe_glob (v := .ref d.cImpaled) rfl T.kImpaled.gl rfl) pa_nil))))
        (pss_one (ps_ret (pe_lst (pa_cons (pe_fld (pv 0) rfl) (pa_cons (pe_fld (pv 0) rfl) pa_nil)))))
        pss_nil)
      (pss_one (ps_ret (pe_lst (pa_cons (pe_fld (pv 0) rfl) (pa_cons (pe_fld (pv 0) rfl) pa_nil))))))), ?_⟩
    have new : ∀ (p : Addr) (us : List V), H p = none → All2 (RC d H0 H) us (inn c) → Q (.ref p) (upd H p (.lst us)) := fun p us np ha => k _ p us (fun b o e => by rw [upd_ne (ne_of_none e np)]; exact e) np upd_same ha
    cases c with
    | one m =>
      obtain ⟨a1, a2, a3, ⟨b, dxb, rfl, _, hb⟩, _⟩ := hv
      refine ⟨_, rfl, _, _, _, _, _, rfl, ClsV.own _, .base (.ins hb T.kMarked.cl T.kMarked.cla T.gs T.tk T.kMarked.mro), T.iMarked_Marked, _, rfl, ?_⟩
      refine iteT ?_
      exact ⟨Nat.zero_le _, fun p np => new p [] np .nil⟩
    | quarters l =>
      obtain ⟨q, us, ⟨b, dxb, rfl, _, hb⟩, ⟨_, hq⟩, hc⟩ := hv
      refine ⟨_, rfl, _, _, _, _, _, rfl, ClsV.own _, .base (.ins hb T.kQuarterly.cl T.kQuarterly.cla T.gs T.tk T.kQuarterly.mro), T.iQuarterly_Marked, _, rfl, ?_⟩
      refine iteF ?_
      refine ⟨_, rfl, _, _, _, _, _, rfl, ClsV.own _, .base (.ins hb T.kQuarterly.cl T.kQuarterly.cla T.gs T.tk T.kQuarterly.mro), T.iQuarterly_Quarterly, _, rfl, ?_⟩
      refine iteT ?_
      exact ⟨_, rfl, b, d.cQuarterly, dxb, _, _, rfl, hb, T.kQuarterly.cl, T.kQuarterly.no.1, look_at _ _ _ 0 rfl (by decide +kernel), q, us, rfl, .inl (SqL.of hq), fun p np => new p us np (all_of hc)⟩
    | impaled x y =>
      obtain ⟨ux, uy, ⟨b, dxb, rfl, _, hb⟩, hx, hy⟩ := hv
      refine ⟨_, rfl, _, _, _, _, _, rfl, ClsV.own _, .base (.ins hb T.kImpaled.cl T.kImpaled.cla T.gs T.tk T.kImpaled.mro), T.iImpaled_Marked, _, rfl, ?_⟩
      refine iteF ?_
      refine ⟨_, rfl, _, _, _, _, _, rfl, ClsV.own _, .base (.ins hb T.kImpaled.cl T.kImpaled.cla T.gs T.tk T.kImpaled.mro), T.iImpaled_Quarterly, _, rfl, ?_⟩
      refine iteF ?_
      refine ⟨_, rfl, _, _, _, _, _, rfl, ClsV.own _, .base (.ins hb T.kImpaled.cl T.kImpaled.cla T.gs T.tk T.kImpaled.mro), T.iImpaled_Impaled, _, rfl, ?_⟩
      refine iteT ?_
      exact ⟨_, rfl, b, d.cImpaled, dxb, _, _, rfl, hb, T.kImpaled.cl, T.kImpaled.no.1, look_at _ _ _ 0 rfl (by decide +kernel), _, rfl, b, d.cImpaled, dxb, _, _, rfl, hb, T.kImpaled.cl, T.kImpaled.no.2.1, look_at _ _ _ 1 rfl (by decide +kernel), (by show 2 ≤ sizeLine; decide), fun p np => new p [ux, uy] np (.cons hx (.cons hy .nil))⟩
    | pretence x y =>
      obtain ⟨ux, uy, ⟨b, dxb, rfl, _, hb⟩, hx, hy⟩ := hv
      refine ⟨_, rfl, _, _, _, _, _, rfl, ClsV.own _, .base (.ins hb T.kPretence.cl T.kPretence.cla T.gs T.tk T.kPretence.mro), T.iPretence_Marked, _, rfl, ?_⟩
      refine iteF ?_
      refine ⟨_, rfl, _, _, _, _, _, rfl, ClsV.own _, .base (.ins hb T.kPretence.cl T.kPretence.cla T.gs T.tk T.kPretence.mro), T.iPretence_Quarterly, _, rfl, ?_⟩
      refine iteF ?_
      refine ⟨_, rfl, _, _, _, _, _, rfl, ClsV.own _, .base (.ins hb T.kPretence.cl T.kPretence.cla T.gs T.tk T.kPretence.mro), T.iPretence_Impaled, _, rfl, ?_⟩
      refine iteF ?_
      exact ⟨_, rfl, b, d.cPretence, dxb, _, _, rfl, hb, T.kPretence.cl, T.kPretence.no.1, look_at _ _ _ 0 rfl (by decide +kernel), _, rfl, b, d.cPretence, dxb, _, _, rfl, hb, T.kPretence.cl, T.kPretence.no.2.1, look_at _ _ _ 1 rfl (by decide +kernel), (by show 2 ≤ sizeLine; decide), fun p np => new p [ux, uy] np (.cons hx (.cons hy .nil))⟩
end
end HC


namespace HC
open PySem PySem.Spec PyProof.Rows L2
theorem vsm {n : Nat} (h : n ≤ 255) : V.int ((Sh.small n).toNat : Int) = vN n := by
  have e : (Sh.small n).toNat = n := by
    show (UInt8.ofNat n).toNat = n
    rw [UInt8.toNat_ofNat']
    exact Nat.mod_eq_of_lt (by omega)
  rw [e]
theorem vals_app (a b : List UInt8) : vals (a ++ b) = vals a ++ vals b := List.map_append
theorem vals_len (a : List UInt8) : (vals a).length = a.length := List.length_map ..
theorem vals_cons (x : UInt8) (b : List UInt8) : vals (x :: b) = V.int (x.toNat : Int) :: vals b := rfl
theorem field_blen (f : Sh.Field) : f.bytes.length ≤ 6 := by
  cases f with
  | plain t => show 2 ≤ 6; decide
  | parted w l a b => show 5 ≤ 6; decide
  | varied w n l a b => show 6 ≤ 6; decide
theorem fill_blen (f : Sh.Fill) : f.bytes.length ≤ 7 := by
  cases f with
  | solid f => exact Nat.succ_le_succ (field_blen f)
  | counter => show 1 ≤ 7; decide
theorem layer_blen (x : Sh.Layer) : x.bytes.length ≤ 12 := by
  cases x with
  | ord o l f =>
    have := fill_blen f
    show ([0, Sh.small o, Sh.small l] ++ f.bytes).length ≤ 12
    rw [List.length_append]
    show 3 + _ ≤ 12
    omega
  | group c n m s f =>
    have := fill_blen f
    show ([1, Sh.small c, Sh.small n, Sh.small m, Sh.small s] ++ f.bytes).length ≤ 12
    rw [List.length_append]
    show 5 + _ ≤ 12
    omega
theorem flat_ble {α : Type} (g : α → List UInt8) (n : Nat) : ∀ l : List α, (∀ x ∈ l, (g x).length ≤ n) → (l.flatMap g).length ≤ l.length * n
  | [], _ => Nat.zero_le _
  | x :: l, h => by
    have h1 := h x List.mem_cons_self
    have h2 := flat_ble g n l fun y hy => h y (List.mem_cons_of_mem _ hy)
    rw [List.flatMap_cons, List.length_append, List.length_cons, Nat.succ_mul]
    omega
theorem arms_blen {a : Sh.Arms} (h : VArms a) : a.bytes.length ≤ 103 := by
  have h1 := field_blen a.field
  have h2 := flat_ble Sh.Layer.bytes 12 a.layers fun x _ => layer_blen x
  have h3 := h.2.1
  show (a.field.bytes ++ (Sh.small a.layers.length :: a.layers.flatMap Sh.Layer.bytes)).length ≤ 103
  rw [List.length_append, List.length_cons]
  omega
def canB (c : Option Sh.Arms) : List UInt8 := match c with
  | some a => 1 :: Sh.Arms.bytes a
  | none => [0]
section
variable {P : Program} {w : World} {K : PySem.W.Frag} {mg : Str → Option Value} {base : Heap} {d : Ad}
theorem Cm.ext {H H' H4 : Hp} {D : Addr} {acc : List V} (hD : H D = none) (c : Cm H D acc H') (s : Same H' H4) (zs : List V) : H4 D = some (.lst acc) ∧ Cm H D (acc ++ zs) (upd H4 D (.lst (acc ++ zs))) := by
  refine ⟨s _ _ c.ac, fun b o h => ?_, upd_same⟩
  rw [upd_ne (ne_of_none h hD)]
  exact s _ _ (c.sm b o h)
theorem fit {n : Nat} (h : n ≤ 1000000) : n ≤ sizeLine := Nat.le_trans h (by decide)
/-! ### bytes: a new list -/
def spBy {α : Type} (R : Hp → Hp → V → α → Prop) (Wf : α → Prop) (g : α → List UInt8) : Sp := fun vs H Q _ => ∃ (v : V) (x : α) (H0 : Hp), vs = [v] ∧ R H0 H v x ∧ Wf x ∧ ∀ (H' : Hp) (p : Addr), Same H H' → H p = none → H' p = some (.lst (vals (g x))) → Q (.ref p) H'
theorem sc_field_bytes : FnScope ["field"] ["field"] (defScope s_field_bytes) := ⟨rfl, rfl, rfl, by decide +kernel, rfl, by decide +kernel, by decide +kernel⟩
theorem ok_field_bytes (T : Txt K mg d) : OkD P w K mg base CX0 1 d.f_field_bytes ["field"] (spBy (RField d) VField Sh.Field.bytes) := by
  obtain ⟨fd, F, B⟩ := T.k_field_bytes.ex
  refine ⟨⟨fd, F.ok sc_field_bytes (fun vs H Q E h => ?_) (fun cdv A outer s H vs Q E hr h => ?_), B⟩, F.kp⟩
  · obtain ⟨v, f, H0, rfl, _⟩ := h
    rfl
  · obtain ⟨v, f, H0, rfl, hf, hw, k⟩ := h
    refine ⟨_, pss_cons (ps_if (pt_val (pe_callB call_isi (by rfl) T.b_isinstance (by decide +kernel) (pa_cons (pv 0) (pa_cons (pe_glob (v := .ref d.cPlain) rfl T.kPlain.gl rfl) pa_nil))))
        (pss_one (ps_ret (pe_lst (pa_cons pe_int (pa_cons (pe_fld (pv 0) rfl) pa_nil)))))
        pss_nil)
      (pss_cons (ps_if (pt_val (pe_callB call_isi (by rfl) T.b_isinstance (by decide +kernel) (pa_cons (pv 0) (pa_cons (pe_glob (v := .ref d.cParted) rfl T.kParted.gl rfl) pa_nil))))
        (pss_one (ps_ret (pe_lst (pa_cons pe_int (pa_cons (pe_fld (pv 0) rfl) (pa_cons (pe_fld (pv 0) rfl) (pa_cons (pe_fld (pv 0) rfl) (pa_cons (pe_fld (pv 0) rfl) pa_nil))))))))
        pss_nil)
      (pss_one (ps_ret (pe_lst (pa_cons pe_int (pa_cons (pe_fld (pv 0) rfl) (pa_cons (pe_fld (pv 0) rfl) (pa_cons (pe_fld (pv 0) rfl) (pa_cons (pe_fld (pv 0) rfl) (pa_cons (pe_fld (pv 0) rfl) pa_nil)))))))))), ?_⟩
    have new : ∀ (p : Addr) (us : List V), H p = none → us = vals f.bytes → Q (.ref p) (upd H p (.lst us)) := fun p us np e => k _ p (new_same np) np (by rw [upd_same, e])
    cases f with
    | plain t =>
      obtain ⟨b, dxb, rfl, _, hb⟩ := hf
      have h1 : t ≤ 30 := hw
      refine ⟨_, rfl, _, _, _, _, _, rfl, ClsV.own _, .base (.ins hb T.kPlain.cl T.kPlain.cla T.gs T.tk T.kPlain.mro), T.iPlain_Plain, _, rfl, ?_⟩
      refine iteT ?_
      refine ⟨_, rfl, b, d.cPlain, dxb, _, _, rfl, hb, T.kPlain.cl, T.kPlain.no.1, look_at _ _ _ 0 rfl (by decide +kernel), fit (by show 2 ≤ _; decide), fun p np => new p _ np ?_⟩
      show _ = [V.int 0, V.int ((Sh.small t).toNat : Int)]
      rw [vsm (Nat.le_trans h1 (by decide))]
    | parted wy l a c =>
      obtain ⟨b, dxb, rfl, _, hb⟩ := hf
      obtain ⟨h1, h2, h3, h4⟩ : wy ≤ 30 ∧ l ≤ 30 ∧ a ≤ 30 ∧ c ≤ 30 := hw
      refine ⟨_, rfl, _, _, _, _, _, rfl, ClsV.own _, .base (.ins hb T.kParted.cl T.kParted.cla T.gs T.tk T.kParted.mro), T.iParted_Plain, _, rfl, ?_⟩
      refine iteF ?_
      refine ⟨_, rfl, _, _, _, _, _, rfl, ClsV.own _, .base (.ins hb T.kParted.cl T.kParted.cla T.gs T.tk T.kParted.mro), T.iParted_Parted, _, rfl, ?_⟩
      refine iteT ?_
      refine ⟨_, rfl, b, d.cParted, dxb, _, _, rfl, hb, T.kParted.cl, T.kParted.no.1, look_at _ _ _ 0 rfl (by decide +kernel), _, rfl, b, d.cParted, dxb, _, _, rfl, hb, T.kParted.cl, T.kParted.no.2.1, look_at _ _ _ 1 rfl (by decide +kernel), _, rfl, b, d.cParted, dxb, _, _, rfl, hb, T.kParted.cl, T.kParted.no.2.2.1, look_at _ _ _ 2 rfl (by decide +kernel), _, rfl, b, d.cParted, dxb, _, _, rfl, hb, T.kParted.cl, T.kParted.no.2.2.2.1, look_at _ _ _ 3 rfl (by decide +kernel), fit (by show 5 ≤ _; decide), fun p np => new p _ np ?_⟩
      show _ = [V.int 1, V.int ((Sh.small wy).toNat : Int), V.int ((Sh.small l).toNat : Int), V.int ((Sh.small a).toNat : Int), V.int ((Sh.small c).toNat : Int)]
      rw [vsm (Nat.le_trans h1 (by decide)), vsm (Nat.le_trans h2 (by decide)), vsm (Nat.le_trans h3 (by decide)), vsm (Nat.le_trans h4 (by decide))]
    | varied wy n l a c =>
      obtain ⟨b, dxb, rfl, _, hb⟩ := hf
      obtain ⟨h1, h6, h2, h3, h4⟩ : wy ≤ 30 ∧ n ≤ 30 ∧ l ≤ 30 ∧ a ≤ 30 ∧ c ≤ 30 := hw
      refine ⟨_, rfl, _, _, _, _, _, rfl, ClsV.own _, .base (.ins hb T.kVaried.cl T.kVaried.cla T.gs T.tk T.kVaried.mro), T.iVaried_Plain, _, rfl, ?_⟩
      refine iteF ?_
      refine ⟨_, rfl, _, _, _, _, _, rfl, ClsV.own _, .base (.ins hb T.kVaried.cl T.kVaried.cla T.gs T.tk T.kVaried.mro), T.iVaried_Parted, _, rfl, ?_⟩
      refine iteF ?_
      refine ⟨_, rfl, b, d.cVaried, dxb, _, _, rfl, hb, T.kVaried.cl, T.kVaried.no.1, look_at _ _ _ 0 rfl (by decide +kernel), _, rfl, b, d.cVaried, dxb, _, _, rfl, hb, T.kVaried.cl, T.kVaried.no.2.1, look_at _ _ _ 1 rfl (by decide +kernel), _, rfl, b, d.cVaried, dxb, _, _, rfl, hb, T.kVaried.cl, T.kVaried.no.2.2.1, look_at _ _ _ 2 rfl (by decide +kernel), _, rfl, b, d.cVaried, dxb, _, _, rfl, hb, T.kVaried.cl, T.kVaried.no.2.2.2.1, look_at _ _ _ 3 rfl (by decide +kernel), _, rfl, b, d.cVaried, dxb, _, _, rfl, hb, T.kVaried.cl, T.kVaried.no.2.2.2.2.1, look_at _ _ _ 4 rfl (by decide +kernel), fit (by show 6 ≤ _; decide), fun p np => new p _ np ?_⟩
      show _ = [V.int 2, V.int ((Sh.small wy).toNat : Int), V.int ((Sh.small n).toNat : Int), V.int ((Sh.small l).toNat : Int), V.int ((Sh.small a).toNat : Int), V.int ((Sh.small c).toNat : Int)]
      rw [vsm (Nat.le_trans h1 (by decide)), vsm (Nat.le_trans h6 (by decide)), vsm (Nat.le_trans h2 (by decide)), vsm (Nat.le_trans h3 (by decide)), vsm (Nat.le_trans h4 (by decide))]
theorem sc_fill_bytes : FnScope ["fill"] ["fill"] (defScope s_fill_bytes) := ⟨rfl, rfl, rfl, by decide +kernel, rfl, by decide +kernel, by decide +kernel⟩
theorem ok_fill_bytes (T : Txt K mg d) : OkD P w K mg base CX0 2 d.f_fill_bytes ["fill"] (spBy (RFill d) VFill Sh.Fill.bytes) := by
  obtain ⟨fd, F, B⟩ := T.k_fill_bytes.ex
  obtain ⟨⟨fd_field_bytes, G_field_bytes, B_field_bytes⟩, kp_field_bytes⟩ := ok_field_bytes (P := P) (w := w) (base := base) T
  refine ⟨⟨fd, F.ok sc_fill_bytes (fun vs H Q E h => ?_) (fun cdv A outer s H vs Q E hr h => ?_), B⟩, F.kp⟩
  · obtain ⟨v, f, H0, rfl, _⟩ := h
    rfl
  · obtain ⟨v, f, H0, rfl, hf, hw, k⟩ := h
    have hr_field_bytes : Room 1 _ := hr.mono (by decide)
    refine ⟨_, pss_one (ps_ret (pe_ifExp (pt_cmp (pc_isN (pv 0))) (pe_lst (pa_cons pe_int pa_nil)) (pe_op op_cat (pe_lst (pa_cons pe_int pa_nil)) (pe_call G_field_bytes hr_field_bytes rfl T.k_field_bytes.gl kp_field_bytes B_field_bytes .nil pass0 (pa_cons (pv 0) pa_nil))))), ?_⟩
    cases f with
    | counter =>
      cases hf
      refine ⟨_, rfl, _, rfl, ?_⟩
      refine iteT ?_
      exact ⟨fit (by show 1 ≤ _; decide), fun p np => k _ p (new_same np) np upd_same⟩
    | solid f =>
      have hn : v ≠ .non := by
        cases f <;> (obtain ⟨b, dxb, rfl, _⟩ := hf; intro z; cases z)
      refine ⟨_, rfl, _, rfl, ?_⟩
      dsimp only
      rw [decide_eq_false hn]
      refine iteF ?_
      refine ⟨fit (by show 1 ≤ _; decide), fun p np => ?_⟩
      have s1 : Same H (upd H p (.lst [V.int 0])) := new_same np
      refine ⟨_, rfl, v, f, H0, rfl, RField.mv hf (Mv.here s1), hw, fun H2 q s2 nq hq => ?_⟩
      refine ⟨p, q, _, _, rfl, rfl, s2 _ _ upd_same, hq, fit ?_, fun r nr => ?_⟩
      · have := field_blen f
        rw [vals_len]
        show 1 + _ ≤ _
        omega
      · have s3 := s1.trans s2
        exact k _ r (s3.trans (new_same nr)) (s3.free nr) upd_same
theorem sc_layer_bytes : FnScope ["layer"] ["layer"] (defScope s_layer_bytes) := ⟨rfl, rfl, rfl, by decide +kernel, rfl, by decide +kernel, by decide +kernel⟩
theorem ok_layer_bytes (T : Txt K mg d) : OkD P w K mg base CX0 3 d.f_layer_bytes ["layer"] (spBy (RLayer d) VLayer Sh.Layer.bytes) := by
  obtain ⟨fd, F, B⟩ := T.k_layer_bytes.ex
  obtain ⟨⟨fd_fill_bytes, G_fill_bytes, B_fill_bytes⟩, kp_fill_bytes⟩ := ok_fill_bytes (P := P) (w := w) (base := base) T
  refine ⟨⟨fd, F.ok sc_layer_bytes (fun vs H Q E h => ?_) (fun cdv A outer s H vs Q E hr h => ?_), B⟩, F.kp⟩
  · obtain ⟨v, f, H0, rfl, _⟩ := h
    rfl
  · obtain ⟨v, f, H0, rfl, hf, hw, k⟩ := h
    have hr_fill_bytes : Room 2 _ := hr.mono (by decide)
    refine ⟨_, pss_cons (ps_if (pt_val (pe_callB call_isi (by rfl) T.b_isinstance (by decide +kernel) (pa_cons (pv 0) (pa_cons (pe_glob (v := .ref d.cOrdinary) rfl T.kOrdinary.gl rfl) pa_nil))))
        (pss_one (ps_ret (pe_op op_cat (pe_lst (pa_cons pe_int (pa_cons (pe_fld (pv 0) rfl) (pa_cons (pe_fld (pv 0) rfl) pa_nil)))) (pe_call G_fill_bytes hr_fill_bytes rfl T.k_fill_bytes.gl kp_fill_bytes B_fill_bytes .nil pass0 (pa_cons (pe_fld (pv 0) rfl) pa_nil)))))
        pss_nil)
      (pss_one (ps_ret (pe_op op_cat (pe_lst (pa_cons pe_int (pa_cons (pe_fld (pv 0) rfl) (pa_cons (pe_fld (pv 0) rfl) (pa_cons (pe_fld (pv 0) rfl) (pa_cons (pe_fld (pv 0) rfl) pa_nil)))))) (pe_call G_fill_bytes hr_fill_bytes rfl T.k_fill_bytes.gl kp_fill_bytes B_fill_bytes .nil pass0 (pa_cons (pe_fld (pv 0) rfl) pa_nil))))), ?_⟩
    cases f with
    | ord o l f =>
      obtain ⟨u, ⟨b, dxb, rfl, _, hb⟩, hu⟩ := hf
      obtain ⟨h1, h2, h3⟩ : o ≤ 30 ∧ l ≤ 30 ∧ VFill f := hw
      refine ⟨_, rfl, _, _, _, _, _, rfl, ClsV.own _, .base (.ins hb T.kOrdinary.cl T.kOrdinary.cla T.gs T.tk T.kOrdinary.mro), T.iOrdinary_Ordinary, _, rfl, ?_⟩
      refine iteT ?_
      refine ⟨_, rfl, b, d.cOrdinary, dxb, _, _, rfl, hb, T.kOrdinary.cl, T.kOrdinary.no.1, look_at _ _ _ 0 rfl (by decide +kernel), _, rfl, b, d.cOrdinary, dxb, _, _, rfl, hb, T.kOrdinary.cl, T.kOrdinary.no.2.1, look_at _ _ _ 1 rfl (by decide +kernel), fit (by show 3 ≤ _; decide), fun p np => ?_⟩
      have s1 : Same H (upd H p (.lst [V.int 0, vN o, vN l])) := new_same np
      replace hb := s1 _ _ hb
      refine ⟨_, rfl, b, d.cOrdinary, dxb, _, _, rfl, hb, T.kOrdinary.cl, T.kOrdinary.no.2.2.1, look_at _ _ _ 2 rfl (by decide +kernel), u, f, H0, rfl, RFill.mv hu (Mv.here s1), h3, fun H2 q s2 nq hq => ?_⟩
      refine ⟨p, q, _, _, rfl, rfl, s2 _ _ upd_same, hq, fit ?_, fun r nr => ?_⟩
      · have := fill_blen f
        rw [vals_len]
        show 3 + _ ≤ _
        omega
      · have s3 := s1.trans s2
        refine k _ r (s3.trans (new_same nr)) (s3.free nr) ?_
        rw [upd_same]
        show _ = some (HO.lst (V.int 0 :: V.int ((Sh.small o).toNat : Int) :: V.int ((Sh.small l).toNat : Int) :: vals f.bytes))
        rw [vsm (Nat.le_trans h1 (by decide)), vsm (Nat.le_trans h2 (by decide))]
        rfl
    | group c n m s f =>
      obtain ⟨u, ⟨b, dxb, rfl, _, hb⟩, hu⟩ := hf
      obtain ⟨h1, h3, h4, h6, h7⟩ : c ≤ 30 ∧ n ≤ 30 ∧ m ≤ 30 ∧ s ≤ 30 ∧ VFill f := hw
      refine ⟨_, rfl, _, _, _, _, _, rfl, ClsV.own _, .base (.ins hb T.kGroup.cl T.kGroup.cla T.gs T.tk T.kGroup.mro), T.iGroup_Ordinary, _, rfl, ?_⟩
      refine iteF ?_
      refine ⟨_, rfl, b, d.cGroup, dxb, _, _, rfl, hb, T.kGroup.cl, T.kGroup.no.1, look_at _ _ _ 0 rfl (by decide +kernel), _, rfl, b, d.cGroup, dxb, _, _, rfl, hb, T.kGroup.cl, T.kGroup.no.2.1, look_at _ _ _ 1 rfl (by decide +kernel), _, rfl, b, d.cGroup, dxb, _, _, rfl, hb, T.kGroup.cl, T.kGroup.no.2.2.1, look_at _ _ _ 2 rfl (by decide +kernel), _, rfl, b, d.cGroup, dxb, _, _, rfl, hb, T.kGroup.cl, T.kGroup.no.2.2.2.1, look_at _ _ _ 3 rfl (by decide +kernel), fit (by show 5 ≤ _; decide), fun p np => ?_⟩
      have s1 : Same H (upd H p (.lst [V.int 1, vN c, vN n, vN m, vN s])) := new_same np
      replace hb := s1 _ _ hb
      refine ⟨_, rfl, b, d.cGroup, dxb, _, _, rfl, hb, T.kGroup.cl, T.kGroup.no.2.2.2.2.1, look_at _ _ _ 4 rfl (by decide +kernel), u, f, H0, rfl, RFill.mv hu (Mv.here s1), h7, fun H2 q s2 nq hq => ?_⟩
      refine ⟨p, q, _, _, rfl, rfl, s2 _ _ upd_same, hq, fit ?_, fun r nr => ?_⟩
      · have := fill_blen f
        rw [vals_len]
        show 5 + _ ≤ _
        omega
      · have s3 := s1.trans s2
        refine k _ r (s3.trans (new_same nr)) (s3.free nr) ?_
        rw [upd_same]
        show _ = some (HO.lst (V.int 1 :: V.int ((Sh.small c).toNat : Int) :: V.int ((Sh.small n).toNat : Int) :: V.int ((Sh.small m).toNat : Int) :: V.int ((Sh.small s).toNat : Int) :: vals f.bytes))
        rw [vsm (Nat.le_trans h1 (by decide)), vsm (Nat.le_trans h3 (by decide)), vsm (Nat.le_trans h4 (by decide)), vsm (Nat.le_trans h6 (by decide))]
        rfl
theorem sc_arms_bytes : FnScope ["arms", "numbers", "layer"] ["arms"] (defScope s_arms_bytes) := ⟨rfl, rfl, rfl, by decide +kernel, rfl, by decide +kernel, by decide +kernel⟩
theorem ok_arms_bytes (T : Txt K mg d) : OkD P w K mg base CX0 4 d.f_arms_bytes ["arms"] (spBy (RArms d) VArms Sh.Arms.bytes) := by
  obtain ⟨fd, F, B⟩ := T.k_arms_bytes.ex
  obtain ⟨⟨fd_field_bytes, G_field_bytes, B_field_bytes⟩, kp_field_bytes⟩ := ok_field_bytes (P := P) (w := w) (base := base) T
  obtain ⟨⟨fd_layer_bytes, G_layer_bytes, B_layer_bytes⟩, kp_layer_bytes⟩ := ok_layer_bytes (P := P) (w := w) (base := base) T
  refine ⟨⟨fd, F.ok sc_arms_bytes (fun vs H Q E h => ?_) (fun cdv A outer s H vs Q E hr h => ?_), B⟩, F.kp⟩
  · obtain ⟨v, f, H0, rfl, _⟩ := h
    rfl
  · obtain ⟨v, a, H0, rfl, hv, ha, k⟩ := h
    have hr_field_bytes : Room 1 _ := hr.mono (by decide)
    have hr_layer_bytes : Room 3 _ := hr.mono (by decide)
    refine ⟨_, pss_cons (ps_set (i := 1) sc_arms_bytes.nd rfl (Or.inl rfl) (pe_op op_cat (pe_call G_field_bytes hr_field_bytes rfl T.k_field_bytes.gl kp_field_bytes B_field_bytes .nil pass0 (pa_cons (pe_fld (pv 0) rfl) pa_nil)) (pe_lst (pa_cons (pe_callB call_len_seq (by rfl) T.b_len PySem.boot_len (pa_cons (pe_fld (pv 0) rfl) pa_nil)) pa_nil))))
      (pss_cons (ps_for PassesOwn.never rfl (pi_list (pe_fld (pv 0) rfl)) (pg_name (i := 2) sc_arms_bytes.nd rfl (Or.inl rfl))
        (pss_one (ps_expr (pe_bm PySem.F.plainAttrs_list PySem.F.slot_list_extend PySem.F.type_list_extend mt_extend (pv 1) (pa_cons (pe_call G_layer_bytes hr_layer_bytes rfl T.k_layer_bytes.gl kp_layer_bytes B_layer_bytes .nil pass0 (pa_cons (pv 2) pa_nil)) pa_nil)))))
      (pss_one (ps_ret (pv 1)))), ?_⟩
    obtain ⟨u, l, us, ⟨b, dxb, rfl, nb, hb0⟩, hu, ⟨nl, hl⟩, hall⟩ := hv
    have hlen := hall.length
    have hb := hb0
    have hn := ha.2.1
    refine ⟨_, rfl, b, d.cArms, dxb, _, _, rfl, hb, T.kArms.cl, T.kArms.no.1, look_at _ _ _ 0 rfl (by decide +kernel), u, a.field, H0, rfl, hu, ha.1, fun H1 p1 s1 n1 h1 => ?_⟩
    replace hb := s1 _ _ hb0
    refine ⟨_, rfl, b, d.cArms, dxb, _, _, rfl, hb, T.kArms.cl, T.kArms.no.2.1, look_at _ _ _ 1 rfl (by decide +kernel), l, us, rfl, .inl (SqL.of (s1 _ _ hl)), fit (by show 1 ≤ _; decide), fun p2 n2 => ?_⟩
    have s2 : Same H (upd H1 p2 (.lst [vN us.length])) := s1.trans (new_same n2)
    refine ⟨p1, p2, _, _, rfl, rfl, new_same n2 _ _ h1, upd_same, fit ?_, fun p n3 => ?_⟩
    · have := field_blen a.field
      rw [vals_len]
      show _ + 1 ≤ _
      omega
    have s3 := s2.trans (new_same n3 (o := .lst (vals a.field.bytes ++ [vN us.length])))
    have np : H p = none := s2.free n3
    have c0 : Cm H p (vals (a.field.bytes ++ (Sh.small a.layers.length :: (a.layers.take 0).flatMap Sh.Layer.bytes))) (upd (upd H1 p2 (.lst [vN us.length])) p (.lst (vals a.field.bytes ++ [vN us.length]))) := by
      refine ⟨s3, ?_⟩
      rw [upd_same, vals_app, vals_cons, vsm (by omega), hlen]
      rfl
    replace hb := c0.sm _ _ hb0
    refine ⟨_, rfl, b, d.cArms, dxb, _, _, rfl, hb, T.kArms.cl, T.kArms.no.2.1, look_at _ _ _ 1 rfl (by decide +kernel), l, rfl, ⟨us, SqL.of (c0.sm _ _ hl)⟩, ?_⟩
    refine for_list (xs := us) (fun i σ' H' => (∃ z, σ' = [some (.ref b), some (.ref p), z]) ∧ Cm H p (vals (a.field.bytes ++ (Sh.small a.layers.length :: (a.layers.take i).flatMap Sh.Layer.bytes))) H') ⟨⟨_, rfl⟩, c0⟩ (fun i σ' H' _ q => SqL.of (q.2.sm _ _ hl)) (fun i x σ' H' hx q => ?_) (fun σ' H' q => ?_)
    · obtain ⟨⟨z, rfl⟩, cm⟩ := q
      obtain ⟨y, hy, ry⟩ := hall.at_ hx
      have mem : y ∈ a.layers := List.mem_of_getElem? hy
      refine ⟨_, rfl, .inl ⟨rfl, _, SqL.of cm.ac⟩, _, rfl, x, y, H0, rfl, RLayer.mv ry (Mv.here cm.sm), ha.2.2 y mem, fun H4 q4 s4 n4 h4 => ?_⟩
      obtain ⟨t1, t2⟩ := cm.ext np s4 (vals y.bytes)
      refine ⟨p, q4, _, _, rfl, rfl, t1, h4, fit ?_, ⟨_, rfl⟩, ?_⟩
      · rw [vals_len, vals_len, List.length_append, List.length_cons]
        have f1 := field_blen a.field
        have f2 := layer_blen y
        have f3 := flat_ble Sh.Layer.bytes 12 (a.layers.take i) fun x _ => layer_blen x
        have f4 : (a.layers.take i).length ≤ 8 := by rw [List.length_take]; omega
        omega
      · rw [List.take_add_one, hy, Option.toList_some, List.flatMap_append, List.flatMap_singleton]
        rw [← vals_app, List.append_assoc, List.cons_append] at t2
        rw [← vals_app, List.append_assoc, List.cons_append]
        exact t2
    · obtain ⟨⟨z, rfl⟩, cm⟩ := q
      rw [hlen, List.take_length] at cm
      exact ⟨_, rfl, k _ p cm.sm np cm.ac⟩
theorem sc_canton_bytes : FnScope ["canton"] ["canton"] (defScope s_canton_bytes) := ⟨rfl, rfl, rfl, by decide +kernel, rfl, by decide +kernel, by decide +kernel⟩
theorem ok_canton_bytes (T : Txt K mg d) : OkD P w K mg base CX0 5 d.f_canton_bytes ["canton"] (spBy (ROpt d) VOpt canB) := by
  obtain ⟨fd, F, B⟩ := T.k_canton_bytes.ex
  obtain ⟨⟨fd_arms_bytes, G_arms_bytes, B_arms_bytes⟩, kp_arms_bytes⟩ := ok_arms_bytes (P := P) (w := w) (base := base) T
  refine ⟨⟨fd, F.ok sc_canton_bytes (fun vs H Q E h => ?_) (fun cdv A outer s H vs Q E hr h => ?_), B⟩, F.kp⟩
  · obtain ⟨v, f, H0, rfl, _⟩ := h
    rfl
  · obtain ⟨v, f, H0, rfl, hf, hw, k⟩ := h
    have hr_arms_bytes : Room 4 _ := hr.mono (by decide)
    refine ⟨_, pss_one (ps_ret (pe_ifExp (pt_cmp (pc_isN (pv 0))) (pe_lst (pa_cons pe_int pa_nil)) (pe_op op_cat (pe_lst (pa_cons pe_int pa_nil)) (pe_call G_arms_bytes hr_arms_bytes rfl T.k_arms_bytes.gl kp_arms_bytes B_arms_bytes .nil pass0 (pa_cons (pv 0) pa_nil))))), ?_⟩
    cases f with
    | none =>
      cases hf
      refine ⟨_, rfl, _, rfl, ?_⟩
      refine iteT ?_
      exact ⟨fit (by show 1 ≤ _; decide), fun p np => k _ p (new_same np) np upd_same⟩
    | some a =>
      have hn : v ≠ .non := by
        obtain ⟨z1, z2, z3, ⟨z4, z5, rfl, _⟩, _⟩ := hf
        intro z
        cases z
      refine ⟨_, rfl, _, rfl, ?_⟩
      dsimp only
      rw [decide_eq_false hn]
      refine iteF ?_
      refine ⟨fit (by show 1 ≤ _; decide), fun p np => ?_⟩
      have s1 : Same H (upd H p (.lst [V.int 1])) := new_same np
      refine ⟨_, rfl, v, a, H0, rfl, RArms.mv hf (Mv.here s1), hw, fun H2 q s2 nq hq => ?_⟩
      refine ⟨p, q, _, _, rfl, rfl, s2 _ _ upd_same, hq, fit ?_, fun r nr => ?_⟩
      · have := arms_blen (a := a) hw
        rw [vals_len]
        show 1 + _ ≤ _
        omega
      · have s3 := s1.trans s2
        exact k _ r (s3.trans (new_same nr)) (s3.free nr) upd_same
end
end HC


namespace HC
open PySem PySem.Spec PyProof.Rows L2
/-- objects that are new behind H0 and stand there stay -/
structure Mw (H0 H H0' H' : Hp) : Prop where
  nw : ∀ b o, H0 b = none → H b = some o → H0' b = none
  st : ∀ b o, H0 b = none → H b = some o → H' b = some o
theorem Obj1.mw {C : Addr} {ns : List Str} {as : List V} {H0 H H0' H' : Hp} {v : V} (h : Obj1 C ns as H0 H v) (m : Mw H0 H H0' H') : Obj1 C ns as H0' H' v := by
  obtain ⟨b, dx, e, n, o⟩ := h
  exact ⟨b, dx, e, m.nw b _ n o, m.st b _ n o⟩
theorem Lst1.mw {vs : List V} {H0 H H0' H' : Hp} {l : Addr} (h : Lst1 vs H0 H l) (m : Mw H0 H H0' H') : Lst1 vs H0' H' l := ⟨m.nw l _ h.1 h.2, m.st l _ h.1 h.2⟩
theorem RField.mw {d : Ad} {H0 H H0' H' : Hp} {v : V} {f : Sh.Field} (h : RField d H0 H v f) (m : Mw H0 H H0' H') : RField d H0' H' v f := by
  cases f <;> exact Obj1.mw h m
theorem RFill.mw {d : Ad} {H0 H H0' H' : Hp} {v : V} {f : Sh.Fill} (h : RFill d H0 H v f) (m : Mw H0 H H0' H') : RFill d H0' H' v f := by
  cases f with
  | solid f => exact RField.mw h m
  | counter => exact h
theorem RLayer.mw {d : Ad} {H0 H H0' H' : Hp} {v : V} {f : Sh.Layer} (h : RLayer d H0 H v f) (m : Mw H0 H H0' H') : RLayer d H0' H' v f := by
  cases f <;> exact let ⟨u, h1, h2⟩ := h; ⟨u, h1.mw m, h2.mw m⟩
theorem RArms.mw {d : Ad} {H0 H H0' H' : Hp} {v : V} {a : Sh.Arms} (h : RArms d H0 H v a) (m : Mw H0 H H0' H') : RArms d H0' H' v a := by
  obtain ⟨u, l, us, h1, h2, h3, h4⟩ := h
  exact ⟨u, l, us, h1.mw m, h2.mw m, h3.mw m, h4.mono fun _ _ z => z.mw m⟩
theorem ROpt.mw {d : Ad} {H0 H H0' H' : Hp} {v : V} {a : Option Sh.Arms} (h : ROpt d H0 H v a) (m : Mw H0 H H0' H') : ROpt d H0' H' v a := by
  cases a with
  | none => exact h
  | some a => exact RArms.mw h m
theorem RMark.mw {d : Ad} {H0 H H0' H' : Hp} {v : V} {x : Nat × Nat} (h : RMark d H0 H v x) (m : Mw H0 H H0' H') : RMark d H0' H' v x := Obj1.mw h m
theorem RMarks.mw {d : Ad} {H0 H H0' H' : Hp} {v : V} {x : List (Nat × Nat)} (h : RMarks d H0 H v x) (m : Mw H0 H H0' H') : RMarks d H0' H' v x := by
  obtain ⟨l, us, e, h1, h2⟩ := h
  exact ⟨l, us, e, h1.mw m, h2.mono fun _ _ z => z.mw m⟩
theorem RMarked.mw {d : Ad} {H0 H H0' H' : Hp} {v : V} {x : ShMarsh.Marked} (h : RMarked d H0 H v x) (m : Mw H0 H H0' H') : RMarked d H0' H' v x := by
  obtain ⟨u, c, k, h1, h2, h3, h4⟩ := h
  exact ⟨u, c, k, h1.mw m, h2.mw m, h3.mw m, h4.mw m⟩
mutual
theorem RCoat.mw {d : Ad} {H0 H H0' H' : Hp} (m : Mw H0 H H0' H') : ∀ (c : ShMarsh.Coat) (v : V), RCoat d H0 H c v → RCoat d H0' H' c v
  | .one x, v, h => RMarked.mw h m
  | .quarters l, v, h => by
    obtain ⟨p, us, h1, h2, h3⟩ := h
    exact ⟨p, us, h1.mw m, h2.mw m, RCoats.mw m l us h3⟩
  | .impaled x y, v, h => by
    obtain ⟨a, b, h1, h2, h3⟩ := h
    exact ⟨a, b, h1.mw m, RCoat.mw m x a h2, RCoat.mw m y b h3⟩
  | .pretence x y, v, h => by
    obtain ⟨a, b, h1, h2, h3⟩ := h
    exact ⟨a, b, h1.mw m, RCoat.mw m x a h2, RCoat.mw m y b h3⟩
theorem RCoats.mw {d : Ad} {H0 H H0' H' : Hp} (m : Mw H0 H H0' H') : ∀ (l : List ShMarsh.Coat) (us : List V), RCoats d H0 H l us → RCoats d H0' H' l us
  | [], us, h => h
  | x :: l, us, h => by
    obtain ⟨u, r, e, h1, h2⟩ := h
    exact ⟨u, r, e, RCoat.mw m x u h1, RCoats.mw m l r h2⟩
end
theorem RC.mw {d : Ad} {H0 H H0' H' : Hp} {v : V} {c : ShMarsh.Coat} (h : RC d H0 H v c) (m : Mw H0 H H0' H') : RC d H0' H' v c := RCoat.mw m c v h
/-- what does not stand in H is old -/
def cutH (H0 H : Hp) : Hp := fun b => match H b with
  | none => some (.lst [])
  | some _ => H0 b
theorem cutH_mw (H0 H : Hp) : Mw H0 H (cutH H0 H) H := ⟨fun b o n h => by unfold cutH; rw [h]; exact n, fun _ _ _ h => h⟩
theorem cutH_mv {H0 H H1 H' : Hp} (s1 : Same H H1) (s' : Same H H') : Mv (cutH H0 H) H1 (cutH H0 H) H' := by
  refine ⟨fun _ h => h, fun b o n h => ?_⟩
  unfold cutH at n
  cases e : H b with
  | none => rw [e] at n; cases n
  | some u =>
    have h1 := s1 _ _ e
    rw [h] at h1
    cases h1
    exact s' _ _ e
end HC
namespace HC
open PySem PySem.Spec PyProof.Rows L2
theorem vinn {c : ShMarsh.Coat} (h : VCoat c) : (inn c).length ≤ 9 ∧ ∀ x ∈ inn c, VCoat x := by
  cases c with
  | one m => exact ⟨Nat.zero_le _, fun x hx => nomatch hx⟩
  | quarters l =>
    obtain ⟨h1, h2, h3⟩ : 2 ≤ l.length ∧ l.length ≤ 9 ∧ VCoats l := h
    exact ⟨h2, fun x hx => vcoats_mem h3 hx⟩
  | impaled a b =>
    obtain ⟨h1, h2⟩ : VCoat a ∧ VCoat b := h
    refine ⟨by show 2 ≤ 9; decide, fun x hx => ?_⟩
    rcases List.mem_cons.mp hx with e | e
    · rw [e]; exact h1
    · rcases List.mem_cons.mp e with e | e
      · rw [e]; exact h2
      · cases e
  | pretence a b =>
    obtain ⟨h1, h2⟩ : VCoat a ∧ VCoat b := h
    refine ⟨by show 2 ≤ 9; decide, fun x hx => ?_⟩
    rcases List.mem_cons.mp hx with e | e
    · rw [e]; exact h1
    · rcases List.mem_cons.mp e with e | e
      · rw [e]; exact h2
      · cases e
theorem allB_flat : ∀ l : List ShMarsh.Coat, ShMarsh.allBytes l = l.flatMap ShMarsh.Coat.bytes
  | [] => rfl
  | x :: l => by
    show x.bytes ++ ShMarsh.allBytes l = _
    rw [allB_flat l, List.flatMap_cons]
def headB : ShMarsh.Coat → List UInt8
  | .one _ => []
  | .quarters l => [1, Sh.small l.length]
  | .impaled _ _ => [2]
  | .pretence _ _ => [3]
theorem bytes_is {c : ShMarsh.Coat} (h : isOne c = false) : c.bytes = headB c ++ (inn c).flatMap ShMarsh.Coat.bytes := by
  cases c with
  | one m => cases h
  | quarters l =>
    show 1 :: Sh.small l.length :: ShMarsh.allBytes l = _
    rw [allB_flat]
    rfl
  | impaled a b =>
    show 2 :: (a.bytes ++ b.bytes) = 2 :: (a.bytes ++ (b.bytes ++ []))
    rw [List.append_nil]
  | pretence a b =>
    show 3 :: (a.bytes ++ b.bytes) = 3 :: (a.bytes ++ (b.bytes ++ []))
    rw [List.append_nil]
theorem head_len (c : ShMarsh.Coat) : (headB c).length ≤ 2 := by
  cases c with
  | one m => show 0 ≤ 2; decide
  | quarters l => show 2 ≤ 2; decide
  | impaled a b => show 1 ≤ 2; decide
  | pretence a b => show 1 ≤ 2; decide
theorem marksB_len (l : List (Nat × Nat)) : (l.flatMap fun (x : Nat × Nat) => [Sh.small x.1, Sh.small x.2]).length ≤ l.length * 2 := flat_ble _ 2 l fun _ _ => Nat.le_refl 2
theorem can_blen {c : Option Sh.Arms} (h : VOpt c) : (canB c).length ≤ 104 := by
  cases c with
  | none => show 1 ≤ 104; decide
  | some a => exact Nat.succ_le_succ (arms_blen h)
theorem marked_b (m : ShMarsh.Marked) : m.bytes = m.arms.bytes ++ (canB m.canton ++ (Sh.small m.marks.length :: m.marks.flatMap fun (x : Nat × Nat) => [Sh.small x.1, Sh.small x.2])) := by
  unfold ShMarsh.Marked.bytes canB
  cases m.canton <;> rfl
theorem marked_blen {m : ShMarsh.Marked} (h : VMarked m) : m.bytes.length ≤ 328 := by
  obtain ⟨h1, h2, h3, h4⟩ := h
  have e1 := arms_blen h1
  have e2 := can_blen h2
  have e3 := marksB_len m.marks
  rw [marked_b, List.length_append, List.length_append, List.length_cons]
  omega
def bl : Nat → Nat
  | 0 => 330
  | n + 1 => 9 * bl n + 2
theorem bl_ge : ∀ n, 330 ≤ bl n
  | 0 => Nat.le_refl _
  | n + 1 => by
    have := bl_ge n
    show 330 ≤ 9 * bl n + 2
    omega
theorem bytes_len : ∀ (n : Nat) (c : ShMarsh.Coat), VCoat c → c.deep ≤ n + 1 → c.bytes.length ≤ bl n
  | n, .one m, h, _ => by
    have := marked_blen (m := m) h
    have := bl_ge n
    show m.bytes.length + 1 ≤ _
    omega
  | 0, .quarters l, h, hd => by
    obtain ⟨h1, h2, h3⟩ : 2 ≤ l.length ∧ l.length ≤ 9 ∧ VCoats l := h
    cases l with
    | nil => exact absurd h1 (by decide)
    | cons x r =>
      have h4 := inn_deep (c := .quarters (x :: r)) (x := x) List.mem_cons_self
      have h5 := deep_inn x
      omega
  | 0, .impaled a b, h, hd => by
    have h4 := inn_deep (c := .impaled a b) (x := a) List.mem_cons_self
    have h5 := deep_inn a
    omega
  | 0, .pretence a b, h, hd => by
    have h4 := inn_deep (c := .pretence a b) (x := a) List.mem_cons_self
    have h5 := deep_inn a
    omega
  | n + 1, .quarters l, h, hd => by
    obtain ⟨v1, v2⟩ := vinn h
    have h1 := flat_ble ShMarsh.Coat.bytes (bl n) (inn (.quarters l)) fun x hx => bytes_len n x (v2 x hx) (by have := inn_deep hx; omega)
    have h2 := head_len (.quarters l)
    rw [bytes_is rfl, List.length_append]
    have h3 : (inn (.quarters l)).length * bl n ≤ 9 * bl n := Nat.mul_le_mul_right _ v1
    show _ ≤ 9 * bl n + 2
    omega
  | n + 1, .impaled a b, h, hd => by
    obtain ⟨v1, v2⟩ := vinn h
    have h1 := flat_ble ShMarsh.Coat.bytes (bl n) (inn (.impaled a b)) fun x hx => bytes_len n x (v2 x hx) (by have := inn_deep hx; omega)
    have h2 := head_len (.impaled a b)
    rw [bytes_is rfl, List.length_append]
    have h3 : (inn (.impaled a b)).length * bl n ≤ 9 * bl n := Nat.mul_le_mul_right _ v1
    show _ ≤ 9 * bl n + 2
    omega
  | n + 1, .pretence a b, h, hd => by
    obtain ⟨v1, v2⟩ := vinn h
    have h1 := flat_ble ShMarsh.Coat.bytes (bl n) (inn (.pretence a b)) fun x hx => bytes_len n x (v2 x hx) (by have := inn_deep hx; omega)
    have h2 := head_len (.pretence a b)
    rw [bytes_is rfl, List.length_append]
    have h3 : (inn (.pretence a b)).length * bl n ≤ 9 * bl n := Nat.mul_le_mul_right _ v1
    show _ ≤ 9 * bl n + 2
    omega
section
variable {P : Program} {w : World} {K : PySem.W.Frag} {mg : Str → Option Value} {base : Heap} {d : Ad}
def mkdB (m : ShMarsh.Marked) : List UInt8 := 0 :: m.bytes
theorem sc_marked_bytes : FnScope ["marked", "numbers", "mark"] ["marked"] (defScope s_marked_bytes) := ⟨rfl, rfl, rfl, by decide +kernel, rfl, by decide +kernel, by decide +kernel⟩
theorem ok_marked_bytes (T : Txt K mg d) : OkD P w K mg base CX0 6 d.f_marked_bytes ["marked"] (spBy (RMarked d) VMarked mkdB) := by
  obtain ⟨fd, F, B⟩ := T.k_marked_bytes.ex
  obtain ⟨⟨fd_canton_bytes, G_canton_bytes, B_canton_bytes⟩, kp_canton_bytes⟩ := ok_canton_bytes (P := P) (w := w) (base := base) T
  obtain ⟨⟨fd_arms_bytes, G_arms_bytes, B_arms_bytes⟩, kp_arms_bytes⟩ := ok_arms_bytes (P := P) (w := w) (base := base) T
  refine ⟨⟨fd, F.ok sc_marked_bytes (fun vs H Q E h => ?_) (fun cdv A outer s H vs Q E hr h => ?_), B⟩, F.kp⟩
  · obtain ⟨v, f, H0, rfl, _⟩ := h
    rfl
  · obtain ⟨v, m, H0, rfl, hv, hm, k⟩ := h
    have hr_canton_bytes : Room 5 _ := hr.mono (by decide)
    have hr_arms_bytes : Room 4 _ := hr.mono (by decide)
    refine ⟨_, pss_cons (ps_set (i := 1) sc_marked_bytes.nd rfl (Or.inl rfl) (pe_op op_cat (pe_op op_cat (pe_op op_cat (pe_lst (pa_cons pe_int pa_nil)) (pe_call G_arms_bytes hr_arms_bytes rfl T.k_arms_bytes.gl kp_arms_bytes B_arms_bytes .nil pass0 (pa_cons (pe_fld (pv 0) rfl) pa_nil))) (pe_call G_canton_bytes hr_canton_bytes rfl T.k_canton_bytes.gl kp_canton_bytes B_canton_bytes .nil pass0 (pa_cons (pe_fld (pv 0) rfl) pa_nil))) (pe_lst (pa_cons (pe_callB call_len_seq (by rfl) T.b_len PySem.boot_len (pa_cons (pe_fld (pv 0) rfl) pa_nil)) pa_nil))))
      (pss_cons (ps_for PassesOwn.never rfl (pi_list (pe_fld (pv 0) rfl)) (pg_name (i := 2) sc_marked_bytes.nd rfl (Or.inl rfl))
        (pss_one (ps_expr (pe_bm PySem.F.plainAttrs_list PySem.F.slot_list_extend PySem.F.type_list_extend mt_extend (pv 1) (pa_cons (pe_lst (pa_cons (pe_fld (pv 2) rfl) (pa_cons (pe_fld (pv 2) rfl) pa_nil))) pa_nil)))))
      (pss_one (ps_ret (pv 1)))), ?_⟩
    obtain ⟨u, cn, mk, ⟨b, dxb, rfl, nb, hb0⟩, hu, hc, ⟨l, us, rfl, ⟨nl, hl⟩, hall⟩⟩ := hv
    have hlen := hall.length
    obtain ⟨v1, v2, v3, v4⟩ := _root_.id hm
    have e1 := arms_blen v1
    have e2 := can_blen v2
    refine ⟨fit (by show 1 ≤ _; decide), fun p1 n1 => ?_⟩
    have s1 : Same H (upd H p1 (.lst [V.int 0])) := new_same n1
    have hb := s1 _ _ hb0
    refine ⟨_, rfl, b, d.cMarked, dxb, _, _, rfl, hb, T.kMarked.cl, T.kMarked.no.1, look_at _ _ _ 0 rfl (by decide +kernel), u, m.arms, H0, rfl, RArms.mv hu (Mv.here s1), v1, fun H2 p2 s2 n2 h2 => ?_⟩
    refine ⟨p1, p2, _, _, rfl, rfl, s2 _ _ upd_same, h2, fit ?_, fun p3 n3 => ?_⟩
    · rw [vals_len]
      show 1 + _ ≤ _
      omega
    have s3 : Same H (upd H2 p3 (.lst ([V.int 0] ++ vals m.arms.bytes))) := (s1.trans s2).trans (new_same n3)
    replace hb := s3 _ _ hb0
    refine ⟨_, rfl, b, d.cMarked, dxb, _, _, rfl, hb, T.kMarked.cl, T.kMarked.no.2.1, look_at _ _ _ 1 rfl (by decide +kernel), cn, m.canton, H0, rfl, ROpt.mv hc (Mv.here s3), v2, fun H4 p4 s4 n4 h4 => ?_⟩
    refine ⟨p3, p4, _, _, rfl, rfl, s4 _ _ upd_same, h4, fit ?_, fun p5 n5 => ?_⟩
    · rw [List.length_append, vals_len, vals_len]
      show 1 + _ + _ ≤ _
      omega
    have s5 : Same H (upd H4 p5 (.lst (([V.int 0] ++ vals m.arms.bytes) ++ vals (canB m.canton)))) := (s3.trans s4).trans (new_same n5)
    replace hb := s5 _ _ hb0
    refine ⟨_, rfl, b, d.cMarked, dxb, _, _, rfl, hb, T.kMarked.cl, T.kMarked.no.2.2.1, look_at _ _ _ 2 rfl (by decide +kernel), l, us, rfl, .inl (SqL.of (s5 _ _ hl)), fit (by show 1 ≤ _; decide), fun p6 n6 => ?_⟩
    refine ⟨p5, p6, _, _, rfl, rfl, new_same n6 _ _ upd_same, upd_same, fit ?_, fun p n7 => ?_⟩
    · rw [List.length_append, List.length_append, vals_len, vals_len]
      show 1 + _ + _ + 1 ≤ _
      omega
    have s6 := s5.trans (new_same n6 (o := .lst [vN us.length]))
    have np : H p = none := s6.free n7
    have s7 := s6.trans (new_same n7 (o := .lst ((([V.int 0] ++ vals m.arms.bytes) ++ vals (canB m.canton)) ++ [vN us.length])))
    have c0 : Cm H p (vals (0 :: (m.arms.bytes ++ (canB m.canton ++ (Sh.small m.marks.length :: (m.marks.take 0).flatMap fun (x : Nat × Nat) => [Sh.small x.1, Sh.small x.2]))))) (upd (upd (upd H4 p5 (.lst (([V.int 0] ++ vals m.arms.bytes) ++ vals (canB m.canton)))) p6 (.lst [vN us.length])) p (.lst ((([V.int 0] ++ vals m.arms.bytes) ++ vals (canB m.canton)) ++ [vN us.length]))) := by
      refine ⟨s7, ?_⟩
      rw [upd_same, vals_cons, vals_app, vals_app, vals_cons, vsm (by omega), hlen, List.append_assoc, List.append_assoc]
      rfl
    replace hb := c0.sm _ _ hb0
    refine ⟨_, rfl, b, d.cMarked, dxb, _, _, rfl, hb, T.kMarked.cl, T.kMarked.no.2.2.1, look_at _ _ _ 2 rfl (by decide +kernel), l, rfl, ⟨us, SqL.of (c0.sm _ _ hl)⟩, ?_⟩
    refine for_list (xs := us) (fun i σ' H' => (∃ z, σ' = [some (.ref b), some (.ref p), z]) ∧ Cm H p (vals (0 :: (m.arms.bytes ++ (canB m.canton ++ (Sh.small m.marks.length :: (m.marks.take i).flatMap fun (x : Nat × Nat) => [Sh.small x.1, Sh.small x.2]))))) H') ⟨⟨_, rfl⟩, c0⟩ (fun i σ' H' _ q => SqL.of (q.2.sm _ _ hl)) (fun i x σ' H' hx q => ?_) (fun σ' H' q => ?_)
    · obtain ⟨⟨z, rfl⟩, cm⟩ := q
      obtain ⟨y, hy, ry⟩ := hall.at_ hx
      obtain ⟨w1, w2⟩ := v4 y (List.mem_of_getElem? hy)
      obtain ⟨bm, dxbm, rfl, nbm, hbm0⟩ := ry
      have hbm := cm.sm _ _ hbm0
      refine ⟨_, rfl, .inl ⟨rfl, _, SqL.of cm.ac⟩, _, rfl, bm, d.cMark, dxbm, _, _, rfl, hbm, T.kMark.cl, T.kMark.no.1, look_at _ _ _ 0 rfl (by decide +kernel), _, rfl, bm, d.cMark, dxbm, _, _, rfl, hbm, T.kMark.cl, T.kMark.no.2.1, look_at _ _ _ 1 rfl (by decide +kernel), fit (by show 2 ≤ _; decide), fun q4 n4 => ?_⟩
      obtain ⟨t1, t2⟩ := cm.ext np (new_same n4 (o := .lst [vN y.1, vN y.2])) [vN y.1, vN y.2]
      refine ⟨p, q4, _, _, rfl, rfl, t1, upd_same, fit ?_, ⟨_, rfl⟩, ?_⟩
      · rw [vals_len, List.length_cons, List.length_append, List.length_append, List.length_cons]
        have f3 := marksB_len (m.marks.take i)
        have f4 : (m.marks.take i).length ≤ 60 := by rw [List.length_take]; omega
        show _ + 2 ≤ _
        omega
      · have ev : [vN y.1, vN y.2] = vals [Sh.small y.1, Sh.small y.2] := by
          show _ = [V.int ((Sh.small y.1).toNat : Int), V.int ((Sh.small y.2).toNat : Int)]
          rw [vsm (by omega), vsm (by omega)]
        rw [List.take_add_one, hy, Option.toList_some, List.flatMap_append, List.flatMap_singleton]
        rw [ev, ← vals_app, List.cons_append, List.append_assoc, List.append_assoc, List.cons_append] at t2
        rw [ev, ← vals_app, List.cons_append, List.append_assoc, List.append_assoc, List.cons_append]
        exact t2
    · obtain ⟨⟨z, rfl⟩, cm⟩ := q
      rw [hlen, List.take_length, ← marked_b] at cm
      exact ⟨_, rfl, k _ p cm.sm np cm.ac⟩
theorem sc_head_bytes : FnScope ["coat"] ["coat"] (defScope s_head_bytes) := ⟨rfl, rfl, rfl, by decide +kernel, rfl, by decide +kernel, by decide +kernel⟩
theorem ok_head_bytes (T : Txt K mg d) : OkD P w K mg base CX0 1 d.f_head_bytes ["coat"] (spBy (RC d) (fun c => isOne c = false ∧ VCoat c) headB) := by
  obtain ⟨fd, F, B⟩ := T.k_head_bytes.ex
  refine ⟨⟨fd, F.ok sc_head_bytes (fun vs H Q E h => ?_) (fun cdv A outer s H vs Q E hr h => ?_), B⟩, F.kp⟩
  · obtain ⟨v, f, H0, rfl, _⟩ := h
    rfl
  · obtain ⟨v, c, H0, rfl, hv, ⟨ho, hw⟩, k⟩ := h
    refine ⟨_, pss_cons (ps_if (pt_val (pe_callB call_isi (by rfl) T.b_isinstance (by decide +kernel) (pa_cons (pv 0) (pa_cons (pe_glob (v := .ref d.cQuarterly) rfl T.kQuarterly.gl rfl) pa_nil))))
        (pss_one (ps_ret (pe_lst (pa_cons pe_int (pa_cons (pe_callB call_len_seq (by rfl) T.b_len PySem.boot_len (pa_cons (pe_fld (pv 0) rfl) pa_nil)) pa_nil)))))
        pss_nil)
      (pss_one (ps_ret (pe_ifExp (pt_val (pe_callB call_isi (by rfl) T.b_isinstance (by decide +kernel) (pa_cons (pv 0) (pa_cons (pe_glob (v := .ref d.cImpaled) rfl T.kImpaled.gl rfl) pa_nil)))) (pe_lst (pa_cons pe_int pa_nil)) (pe_lst (pa_cons pe_int pa_nil))))), ?_⟩
    cases c with
    | one m => cases ho
    | quarters l =>
      obtain ⟨q, us, ⟨b, dxb, rfl, _, hb⟩, ⟨_, hq⟩, hc⟩ := hv
      have hlen := (all_of hc).length
      obtain ⟨h1, h2, h3⟩ : 2 ≤ l.length ∧ l.length ≤ 9 ∧ VCoats l := hw
      refine ⟨_, rfl, _, _, _, _, _, rfl, ClsV.own _, .base (.ins hb T.kQuarterly.cl T.kQuarterly.cla T.gs T.tk T.kQuarterly.mro), T.iQuarterly_Quarterly, _, rfl, ?_⟩
      refine iteT ?_
      refine ⟨_, rfl, b, d.cQuarterly, dxb, _, _, rfl, hb, T.kQuarterly.cl, T.kQuarterly.no.1, look_at _ _ _ 0 rfl (by decide +kernel), q, us, rfl, .inl (SqL.of hq), fit (by show 2 ≤ _; decide), fun p np => k _ p (new_same np) np ?_⟩
      rw [upd_same]
      show _ = some (HO.lst [V.int 1, V.int ((Sh.small l.length).toNat : Int)])
      rw [vsm (by omega), hlen]
    | impaled x y =>
      obtain ⟨ux, uy, ⟨b, dxb, rfl, _, hb⟩, hx, hy⟩ := hv
      refine ⟨_, rfl, _, _, _, _, _, rfl, ClsV.own _, .base (.ins hb T.kImpaled.cl T.kImpaled.cla T.gs T.tk T.kImpaled.mro), T.iImpaled_Quarterly, _, rfl, ?_⟩
      refine iteF ?_
      refine ⟨_, rfl, _, _, _, _, _, rfl, ClsV.own _, .base (.ins hb T.kImpaled.cl T.kImpaled.cla T.gs T.tk T.kImpaled.mro), T.iImpaled_Impaled, _, rfl, ?_⟩
      refine iteT ?_
      exact ⟨fit (by show 1 ≤ _; decide), fun p np => k _ p (new_same np) np upd_same⟩
    | pretence x y =>
      obtain ⟨ux, uy, ⟨b, dxb, rfl, _, hb⟩, hx, hy⟩ := hv
      refine ⟨_, rfl, _, _, _, _, _, rfl, ClsV.own _, .base (.ins hb T.kPretence.cl T.kPretence.cla T.gs T.tk T.kPretence.mro), T.iPretence_Quarterly, _, rfl, ?_⟩
      refine iteF ?_
      refine ⟨_, rfl, _, _, _, _, _, rfl, ClsV.own _, .base (.ins hb T.kPretence.cl T.kPretence.cla T.gs T.tk T.kPretence.mro), T.iPretence_Impaled, _, rfl, ?_⟩
      refine iteF ?_
      exact ⟨fit (by show 1 ≤ _; decide), fun p np => k _ p (new_same np) np upd_same⟩
/-! ### coat_bytes -/
abbrev spCB (d : Ad) (n : Nat) : Sp := spBy (RC d) (fun c => VCoat c ∧ c.deep ≤ n ∧ c.deep ≤ 4) ShMarsh.Coat.bytes
theorem sc_coat_bytes : FnScope ["coat", "numbers", "inner"] ["coat"] (defScope s_coat_bytes) := ⟨rfl, rfl, rfl, by decide +kernel, rfl, by decide +kernel, by decide +kernel⟩
theorem okn_coat_bytes (T : Txt K mg d) : ∀ n : Nat, OkD P w K mg base CX0 (7 + n) d.f_coat_bytes ["coat"] (spCB d n)
  | 0 => by
    obtain ⟨fd, F, B⟩ := T.k_coat_bytes.ex
    refine ⟨⟨fd, ?_, B⟩, F.kp⟩
    refine F.ok (k := 6) sc_coat_bytes (fun vs H Q E h => ?_) (fun cdv A outer s H vs Q E hr h => ?_)
    · obtain ⟨v, c, H0, rfl, _⟩ := h
      rfl
    · obtain ⟨v, c, H0, rfl, _, ⟨_, hn, _⟩, _⟩ := h
      rw [deep_inn c] at hn
      omega
  | n + 1 => by
    obtain ⟨⟨fd_coat_bytes, G_coat_bytes, B_coat_bytes⟩, kp_coat_bytes⟩ := okn_coat_bytes T n
    obtain ⟨⟨fd_coats_in, G_coats_in, B_coats_in⟩, kp_coats_in⟩ := ok_coats_in (P := P) (w := w) (base := base) T
    obtain ⟨⟨fd_head_bytes, G_head_bytes, B_head_bytes⟩, kp_head_bytes⟩ := ok_head_bytes (P := P) (w := w) (base := base) T
    obtain ⟨⟨fd_marked_bytes, G_marked_bytes, B_marked_bytes⟩, kp_marked_bytes⟩ := ok_marked_bytes (P := P) (w := w) (base := base) T
    obtain ⟨fd, F, B⟩ := T.k_coat_bytes.ex
    refine ⟨⟨fd, ?_, B⟩, F.kp⟩
    refine F.ok (k := 7 + n) sc_coat_bytes (fun vs H Q E h => ?_) (fun cdv A outer s H vs Q E hr h => ?_)
    · obtain ⟨v, c, H0, rfl, _⟩ := h
      rfl
    · obtain ⟨v, c, H0, rfl, hv, ⟨hw, hn, h4⟩, k⟩ := h
      have hr_coat_bytes : Room (7 + n) _ := hr
      have hr_coats_in : Room 2 _ := hr.mono (by omega)
      have hr_head_bytes : Room 1 _ := hr.mono (by omega)
      have hr_marked_bytes : Room 6 _ := hr.mono (by omega)
      refine ⟨_, C8.pss_cut (ps_if (pt_val (pe_callB call_isi (by rfl) T.b_isinstance (by decide +kernel) (pa_cons (pv 0) (pa_cons (pe_glob (v := .ref d.cMarked) rfl T.kMarked.gl rfl) pa_nil))))
        (pss_one (ps_ret (pe_call G_marked_bytes hr_marked_bytes rfl T.k_marked_bytes.gl kp_marked_bytes B_marked_bytes .nil pass0 (pa_cons (pv 0) pa_nil))))
        pss_nil)
      (pss_cons (ps_set (i := 1) sc_coat_bytes.nd rfl (Or.inl rfl) (pe_call G_head_bytes hr_head_bytes rfl T.k_head_bytes.gl kp_head_bytes B_head_bytes .nil pass0 (pa_cons (pv 0) pa_nil)))
      (pss_cons (ps_for PassesOwn.never rfl (pi_list (pe_call G_coats_in hr_coats_in rfl T.k_coats_in.gl kp_coats_in B_coats_in .nil pass0 (pa_cons (pv 0) pa_nil))) (pg_name (i := 2) sc_coat_bytes.nd rfl (Or.inl rfl))
        (pss_one (ps_expr (pe_bm PySem.F.plainAttrs_list PySem.F.slot_list_extend PySem.F.type_list_extend mt_extend (pv 1) (pa_cons (pe_call G_coat_bytes hr_coat_bytes rfl T.k_coat_bytes.gl kp_coat_bytes B_coat_bytes .nil pass0 (pa_cons (pv 2) pa_nil)) pa_nil)))))
      (pss_one (ps_ret (pv 1))))), ?_⟩
      refine ⟨fun σ' H' => σ' = [some v, none, none] ∧ H' = H ∧ isOne c = false, ?_, ?_⟩
      · cases c with
        | one m =>
          obtain ⟨a1, a2, a3, ⟨b, dxb, rfl, nb, hb⟩, ht⟩ := _root_.id hv
          refine ⟨_, rfl, _, _, _, _, _, rfl, ClsV.own _, .base (.ins hb T.kMarked.cl T.kMarked.cla T.gs T.tk T.kMarked.mro), T.iMarked_Marked, _, rfl, ?_⟩
          refine iteT ?_
          exact ⟨_, rfl, _, m, H0, rfl, hv, hw, k⟩
        | quarters l =>
          obtain ⟨q, us, ⟨b, dxb, rfl, _, hb⟩, _⟩ := hv
          refine ⟨_, rfl, _, _, _, _, _, rfl, ClsV.own _, .base (.ins hb T.kQuarterly.cl T.kQuarterly.cla T.gs T.tk T.kQuarterly.mro), T.iQuarterly_Marked, _, rfl, ?_⟩
          exact iteF ⟨rfl, rfl, rfl⟩
        | impaled x y =>
          obtain ⟨ux, uy, ⟨b, dxb, rfl, _, hb⟩, _⟩ := hv
          refine ⟨_, rfl, _, _, _, _, _, rfl, ClsV.own _, .base (.ins hb T.kImpaled.cl T.kImpaled.cla T.gs T.tk T.kImpaled.mro), T.iImpaled_Marked, _, rfl, ?_⟩
          exact iteF ⟨rfl, rfl, rfl⟩
        | pretence x y =>
          obtain ⟨ux, uy, ⟨b, dxb, rfl, _, hb⟩, _⟩ := hv
          refine ⟨_, rfl, _, _, _, _, _, rfl, ClsV.own _, .base (.ins hb T.kPretence.cl T.kPretence.cla T.gs T.tk T.kPretence.mro), T.iPretence_Marked, _, rfl, ?_⟩
          exact iteF ⟨rfl, rfl, rfl⟩
      · rintro σ' H ⟨rfl, rfl, ho⟩
        have hv2 := RC.mw hv (cutH_mw H0 H)
        obtain ⟨v1, v2⟩ := vinn hw
        refine ⟨_, rfl, v, c, H0, rfl, hv, ⟨ho, hw⟩, fun H1 p s1 np h1 => ?_⟩
        refine ⟨_, rfl, v, c, cutH H0 H, rfl, RC.mv hv2 (Mv.here s1), fun H2 q us s2 nq hq hall => ⟨q, rfl, ⟨us, SqL.of hq⟩, ?_⟩⟩
        have hlen := hall.length
        have pq : p ≠ q := ne_of_none h1 nq
        have qn : ∀ {X : Hp} {zs : List V}, X q = some (.lst us) → upd X p (.lst zs) q = some (.lst us) := fun {X zs} e => by rw [upd_ne pq.symm]; exact e
        refine for_list (xs := us) (fun i σ' H' => (∃ z, σ' = [some v, some (.ref p), z]) ∧ Cm H p (vals (headB c ++ ((inn c).take i).flatMap ShMarsh.Coat.bytes)) H' ∧ H' q = some (.lst us)) ⟨⟨_, rfl⟩, ⟨s1.trans s2, ?_⟩, hq⟩ (fun i σ' H' _ q => SqL.of q.2.2) (fun i x σ' H' hx q => ?_) (fun σ' H' q => ?_)
        · rw [List.take_zero, List.flatMap_nil, List.append_nil]
          exact s2 _ _ h1
        · obtain ⟨⟨z, rfl⟩, cm, hq'⟩ := q
          obtain ⟨y, hy, ry⟩ := hall.at_ hx
          have mem : y ∈ inn c := List.mem_of_getElem? hy
          have hd' := inn_deep mem
          have hlt := get_lt hy
          refine ⟨_, rfl, .inl ⟨rfl, _, SqL.of cm.ac⟩, _, rfl, x, y, cutH H0 H, rfl, RC.mv ry (cutH_mv s1 cm.sm), ⟨v2 y mem, by omega, by omega⟩, fun H4 q4 s4 n4 h4 => ?_⟩
          obtain ⟨t1, t2⟩ := cm.ext np s4 (vals y.bytes)
          refine ⟨p, q4, _, _, rfl, rfl, t1, h4, fit ?_, ⟨_, rfl⟩, ?_, qn (s4 _ _ hq')⟩
          · rw [vals_len, vals_len, List.length_append]
            have f1 := head_len c
            have f2 := bytes_len 2 y (v2 y mem) (by omega)
            have f3 := flat_ble ShMarsh.Coat.bytes 26750 ((inn c).take i) fun x hx => by
              have hx' := List.mem_of_mem_take hx
              have h6 := inn_deep hx'
              exact Nat.le_trans (bytes_len 2 x (v2 x hx') (by omega)) (by decide)
            have f4 : ((inn c).take i).length ≤ 9 := by rw [List.length_take]; omega
            have f5 : bl 2 ≤ 26750 := by decide
            omega
          · rw [List.take_add_one, hy, Option.toList_some, List.flatMap_append, List.flatMap_singleton]
            rw [← vals_app, List.append_assoc] at t2
            rw [← vals_app, List.append_assoc]
            exact t2
        · obtain ⟨⟨z, rfl⟩, cm, _⟩ := q
          rw [hlen, List.take_length, ← bytes_is ho] at cm
          exact ⟨_, rfl, k _ p cm.sm np cm.ac⟩
theorem ok_coat_bytes (T : Txt K mg d) : OkD P w K mg base CX0 11 d.f_coat_bytes ["coat"] (spCB d 4) := okn_coat_bytes T 4
end
end HC


namespace HC
open PySem PySem.Spec PyProof.Rows L2
section
variable {P : Program} {w : World} {K : PySem.W.Frag} {mg : Str → Option Value} {base : Heap} {d : Ad}
/-! ### counted -/
def spCounted : Sp := fun vs H Q _ => ∃ (p : Addr) (xs : List V), vs = [.ref p] ∧ H p = some (.lst xs) ∧ xs.length ≤ 16000000 ∧ ∀ (H' : Hp) (q : Addr), H' q = some (.lst (V.int (xs.length : Int) :: xs)) → Q (.ref q) H'
theorem sc_counted : FnScope ["numbers"] ["numbers"] (defScope s_counted) := ⟨rfl, rfl, rfl, by decide +kernel, rfl, by decide +kernel, by decide +kernel⟩
theorem ok_counted (T : Txt K mg d) : OkD P w K mg base CX0 1 d.f_counted ["numbers"] (spCounted) := by
  obtain ⟨fd, F, B⟩ := T.k_counted.ex
  refine ⟨⟨fd, F.ok sc_counted (fun vs H Q E h => ?_) (fun cdv A outer s H vs Q E hr h => ?_), B⟩, F.kp⟩
  · obtain ⟨p, xs, rfl, _⟩ := h
    rfl
  · obtain ⟨p, xs, rfl, hp, hl, k⟩ := h
    refine ⟨_, pss_one (ps_ret (pe_op op_cat (pe_lst (pa_cons (pe_callB call_len_seq (by rfl) T.b_len PySem.boot_len (pa_cons (pv 0) pa_nil)) pa_nil)) (pv 0))), ?_⟩
    refine ⟨_, rfl, p, xs, rfl, .inl (SqL.of hp), (by show 1 ≤ sizeLine; decide), fun q nq => ?_⟩
    refine ⟨_, rfl, q, p, _, _, rfl, rfl, upd_same, (by rw [upd_ne (ne_of_none hp nq)]; exact hp), ?_, fun r nr => k _ r upd_same⟩
    show 1 + xs.length ≤ sizeLine
    have : (16777216 : Nat) = sizeLine := rfl
    omega
end
end HC

namespace HC
open PySem PySem.Spec PyProof.Rows L2 LamX NdefX
theorem readP_is {ns : List Int} (h : Byt ns) : PyWqaqbh.read ns = match ShMarsh.read (bytesOf ns) with
    | .error e => [-(e.1 : Int), (e.2 : Int)]
    | .ok c => ((c.bytes.length : Nat) : Int) :: c.bytes.map fun (b : UInt8) => (b.toNat : Int) := by
  have hc : CoatNeutral.callOf [[6], ns] = some (.read (bytesOf ns)) := by
    show (CoatNeutral.text? ns).map ShCoats.Call.read = _
    rw [text_some h]
    rfl
  show CoatNeutral.f [[6], ns] = _
  rw [f_of hc]
  unfold ShCoats.answer
  dsimp only
  cases ShMarsh.read (bytesOf ns) with
  | error e => rfl
  | ok c => rfl
section
variable {P : Program} {w : World} {K : PySem.W.Frag} {mg : Str → Option Value} {base : Heap} {d : Ad}
/-! ### read -/
def spTop (K : PySem.W.Frag) (cs : List (Addr × Addr)) : Sp := fun vs H Q _ => ∃ (a : Addr) (ns : List Int), vs = [.ref a] ∧ (∀ p ∈ cs, H p.2 = some (.tbl #[])) ∧ SqL K H a (ns.map V.int) ∧ ns.length ≤ 4096 ∧ Byt ns ∧
  ∀ (H' : Hp) (p : Addr), H' p = some (.lst ((PyWqaqbh.read ns).map V.int)) → Q (.ref p) H'
abbrev mainTabs (_ : Ad) : List (Addr × Addr) := []
def t_faultR (d : Ad) (i : Nat) : Addr → Value → Option Addr → TS := fun a cls x => tRet (tLst (tCons (tUn (rU fun i => .int (-i)) (tByLow d.xMisread a cls x "kind" (tVar i))) (tCons (tByLow d.xMisread a cls x "place" (tVar i)) tNil)))
theorem sc_read : FnScope ["t", "coat", "fault"] ["t"] (defScope s_read) := ⟨rfl, rfl, rfl, by decide +kernel, rfl, by decide +kernel, by decide +kernel⟩
theorem bytesOf_len (ns : List Int) : (bytesOf ns).length = ns.length := List.length_map ..
theorem ok_top (T : Txt K mg d) (TB : ∀ p ∈ mainTabs d, TabB base mg p.1 p.2) {fd : FuncData} (F : Fun K "read" "read" s_read d.f_read fd) : FnOk P w K mg base CX0 42 d.f_read fd ["t"] (spTop K (mainTabs d)) := by
  obtain ⟨⟨fd_read_words, G_read_words, B_read_words⟩, kp_read_words⟩ := ok_read_words (P := P) (w := w) (base := base) T
  obtain ⟨⟨fd_coat_bytes, G_coat_bytes, B_coat_bytes⟩, kp_coat_bytes⟩ := ok_coat_bytes (P := P) (w := w) (base := base) T
  obtain ⟨⟨fd_counted, G_counted, B_counted⟩, kp_counted⟩ := ok_counted (P := P) (w := w) (base := base) T
  refine F.ok (k := 41) sc_read (fun vs H Q E h => ?_) (fun cdv A outer s H vs Q E hr h => ?_)
  · obtain ⟨a, ns, rfl, _⟩ := h
    rfl
  · obtain ⟨a, ns, rfl, _, hS, hlen, hb, k⟩ := h
    have hr_read_words : Room 32 _ := hr.mono (by decide)
    have hr_coat_bytes : Room 11 _ := hr.mono (by decide)
    have hr_counted : Room 1 _ := hr.mono (by decide)
    refine ⟨_, pss_cons (ps_try_as (i := 2) (tb := fun W => tAsg (tCallS (spWords K d) (WE W) (tCons (tVar 0) tNil)) (gName 1)) (ts := t_faultR d 2) (Wout := fun _ _ _ _ => False) rfl rfl sc_read.nd rfl rfl ⟨rfl, by decide, Or.inl T.xMisread.gC⟩ L2.takes0
        (fun W pn xe tk _ => pss_one (ps_set (i := 1) sc_read.nd rfl (Or.inl rfl) (by exact (pe_callS G_read_words hr_read_words rfl T.k_read_words.gl kp_read_words B_read_words (fun σ => passAt tk σ) (by exact (pa_cons (pv 0) pa_nil))))))
        (fun a oe cls x pn hz hf => pss_one (ps_ret (by exact (pe_lst (pa_cons (pe_un un_neg (pe_byLow T.xMisread T.xMisread.noN hz hf (pv 2))) (pa_cons (pe_byLow T.xMisread T.xMisread.noP hz hf (pv 2)) pa_nil)))))))
      (pss_one (ps_ret (pe_call G_counted hr_counted rfl T.k_counted.gl kp_counted B_counted .nil pass0 (pa_cons (pe_call G_coat_bytes hr_coat_bytes rfl T.k_coat_bytes.gl kp_coat_bytes B_coat_bytes .nil pass0 (pa_cons (pv 1) pa_nil)) pa_nil)))), ?_⟩
    rw [← vals_of hb] at hS
    rw [readP_is hb] at k
    refine ⟨_, rfl, a, bytesOf ns, rfl, hS, by rw [bytesOf_len]; exact hlen, ?_⟩
    cases e : ShMarsh.read (bytesOf ns) with
    | error e' =>
      rw [e] at k
      intro x H1 hx
      refine ⟨true, T.xMisread.te, fun _ a0 _ => ?_, fun q => Bool.noConfusion q⟩
      refine ⟨_, rfl, rfl, rfl, x, _, _, rfl, hx, rfl, _, rfl, _, rfl, rfl, rfl, x, _, _, rfl, hx, rfl, ?_⟩
      exact ⟨(by show 2 ≤ sizeLine; decide), fun q hq => k _ q upd_same⟩
    | ok c =>
      rw [e] at k
      intro v H1 s1 t1
      obtain ⟨w1, w2⟩ := vread e
      refine ⟨_, rfl, v, c, H, rfl, t1, ⟨w1, w2, w2⟩, fun H2 p s2 np hp => ⟨p, _, rfl, hp, ?_, fun H' q hq => k H' q ?_⟩⟩
      · have := bytes_len 3 c w1 (by omega)
        rw [vals_len]
        exact Nat.le_trans this (by decide)
      · rw [hq, vals_len, List.map_cons, List.map_map]
        rfl
end
end HC


namespace HC
open PySem PySem.Spec PyProof.Rows L2
/-! ### the head by facts: a Hook of one's own over He's words (nothing of the heap is written out) -/
def excB (K : PySem.W.Frag) (C : Addr) : Bool := match K.lookup C with
  | some ⟨.type t, _, .cls cd, sl⟩ => decide (t = "type") && (decide (cd.mro = .ref C :: PySem.ESX.exTail) && (cd.hasDict && (!cd.hasDel && (match sl.toList with
    | [_, _, _, _, some (.builtin n), _] => decide (n = "Exception.__new__")
    | _ => false))))
  | _ => false
theorem excB_ok {K : PySem.W.Frag} {C : Addr} (hq : excB K C = true) : ∃ nm q N bs sn sub ab col dd k0 k1 k2 k3 k5, K.lookup C = some (excClassObj nm q C N bs PySem.ESX.exTail true sn sub ab col dd k0 k1 k2 k3 k5 "Exception.__new__") := by
  unfold excB at hq
  split at hq
  · rename_i t dd cd sl ho
    simp only [Bool.and_eq_true, decide_eq_true_eq, Bool.not_eq_true'] at hq
    obtain ⟨e1, e2, e3, e4, e5⟩ := hq
    split at e5
    · rename_i k0 k1 k2 k3 n k5 hs
      have e6 : n = "Exception.__new__" := of_decide_eq_true e5
      obtain ⟨nm, bs, mro, ns, qn, hd, sn, sub, ab, col, del⟩ := cd
      dsimp only at e2 e3 e4
      subst e1 e2 e3 e4 e6
      have hsl : sl = #[k0, k1, k2, k3, some (.builtin "Exception.__new__"), k5] := by
        obtain ⟨l⟩ := sl
        simp only at hs
        rw [hs]
      subst hsl
      exact ⟨nm, qn, ns, bs, sn, sub, ab, col, dd, k0, k1, k2, k3, k5, ho⟩
    · cases e5
  · cases hq
/-- the tuple at a is of these -/
def tupAtB (K : PySem.W.Frag) (a : Addr) (vs : List V) : Bool := match K.lookup a with
  | some ⟨.type c, _, .seq its _, _⟩ => decide (c = "tuple") && (decide (its.size ≤ sizeLine) && He.relAll vs its.toList)
  | _ => false
theorem tupAtB_ok {K : PySem.W.Frag} {a : Addr} {vs : List V} (hq : tupAtB K a vs = true) : TupK K a vs := by
  unfold tupAtB at hq
  split at hq
  · rename_i c dd its n sl ho
    simp only [Bool.and_eq_true, decide_eq_true_eq] at hq
    obtain ⟨e1, e2, e3⟩ := hq
    subst e1
    exact tup_mk ho e2 (He.relAll_ok e3)
  · cases hq
/-- the i-th item of the tuple that the module's name x stands for -/
def itemOf (K : PySem.W.Frag) (x : Str) (i : Nat) : Addr := match K.lookup (He.ga K x) with
  | some ⟨_, _, .seq its _, _⟩ => (match its.toList[i]? with
    | some (.ref b) => b
    | _ => 0)
  | _ => 0
abbrev AlH : Type := Bool × List He.FnV × List He.FnW
def obsH (fa : List He.Fa) (ex : PySem.W.Frag → List Bool) (fn : List He.FnD) (fw : List He.DefD) (K : PySem.W.Frag) : AlH := ((fa.all fun f => f.ok K) && ((ex K).all id && ((fn.all fun d => (He.Fa.code d.at_ d.qual).ok K) && fw.all fun d => d.ok K)), fn.map (fun d => He.fnObs K d.at_), fw.map fun d => He.fnW K d.at_)
def valH (fn : List He.FnD) (fw : List He.DefD) : AlH := (true, fn.map He.FnD.val, fw.map He.DefD.val)
/-- no table of code objects -/
def noTab : Obj → Bool
  | ⟨.none, _, .fields _, _⟩ => false
  | _ => true
/-- the objects from a on, so many, without the tables -/
def frR (g : Addr → Option Obj) : Nat → Nat → PySem.W.Frag
  | _, 0 => []
  | a, m + 1 => match g a with
    | some o => (match noTab o with
      | true => (a, o) :: frR g (a + 1) m
      | false => frR g (a + 1) m)
    | none => frR g (a + 1) m
def frA (g : Addr → Option Obj) (a m : Nat) : PySem.W.Frag := match g mainGlobals with
  | some o => (match noTab o with
    | true => (mainGlobals, o) :: frR g a m
    | false => frR g a m)
  | none => frR g a m
theorem frR_at {g : Addr → Option Obj} {b : Addr} {o : Obj} : ∀ (m a : Nat), (frR g a m).lookup b = some o → g b = some o ∧ noTab o = true
  | 0, _, e => nomatch (show (none : Option Obj) = some o from e)
  | m + 1, a, e => by
    unfold frR at e
    cases ga : g a with
    | none =>
      rw [ga] at e
      exact frR_at m _ e
    | some u =>
      rw [ga] at e
      cases hn : noTab u with
      | false =>
        simp only [hn] at e
        exact frR_at m _ e
      | true =>
        simp only [hn, List.lookup] at e
        cases q : (b == a) with
        | true =>
          rw [q] at e
          cases e
          rw [beq_iff_eq.mp q]
          exact ⟨ga, hn⟩
        | false =>
          rw [q] at e
          exact frR_at m _ e
theorem frA_at {g : Addr → Option Obj} {b : Addr} {o : Obj} {a m : Nat} (e : (frA g a m).lookup b = some o) : g b = some o ∧ noTab o = true := by
  unfold frA at e
  cases ga : g mainGlobals with
  | none =>
    rw [ga] at e
    exact frR_at m _ e
  | some u =>
    rw [ga] at e
    cases hn : noTab u with
    | false =>
      simp only [hn] at e
      exact frR_at m _ e
    | true =>
      simp only [hn, List.lookup] at e
      cases q : (b == mainGlobals) with
      | true =>
        rw [q] at e
        cases e
        rw [beq_iff_eq.mp q]
        exact ⟨ga, hn⟩
      | false =>
        rw [q] at e
        exact frR_at m _ e
/-- the code object of the def x, its table -/
def codeOf (K : PySem.W.Frag) (x : Str) : Addr := match K.lookup (He.ga K x) with
  | some ⟨_, _, .func fd, _⟩ => (match fd.code with
    | .ref c => c
    | _ => 0)
  | _ => 0
def tabOf (K : PySem.W.Frag) (x : Str) : Addr := match K.lookup (codeOf K x) with
  | some ⟨_, _, .fields vs, _⟩ => (match (vs[11]? : Option Value) with
    | some (.ref t) => t
    | _ => 0)
  | _ => 0
def isTab0 : Option Obj → Bool
  | some ⟨.none, none, .fields vs, sl⟩ => vs.isEmpty && sl.isEmpty
  | _ => false
theorem isTab0_ok {o : Option Obj} (h : isTab0 o = true) : o = some tab0 := by
  unfold isTab0 at h
  split at h
  · rename_i vs sl
    rw [Bool.and_eq_true, Array.isEmpty_iff, Array.isEmpty_iff] at h
    rw [h.1, h.2]
  · cases h
/-- a def that makes functions: its code object is known, its table is empty -/
def makB (K : PySem.W.Frag) (x : Str) : Bool := (match K.lookup (He.ga K x) with
  | some ⟨_, _, .func fd, _⟩ => (match fd.code with
    | .ref _ => true
    | _ => false)
  | _ => false) && PySem.W.codeHdIn K (codeOf K x) (tabOf K x)
def tabsB (g : Addr → Option Obj) (K : PySem.W.Frag) (tb : List Str) : Bool := tb.all fun x => isTab0 (g (tabOf K x))
/-- a part of the facts: one run of the top shows one part -/
structure Fx where
  fa : List He.Fa
  ex : PySem.W.Frag → List Bool
  fn : List He.FnD
  tb : List Str
  fw : List He.DefD
def Fx.ob (x : Fx) (a m : Nat) (g : Addr → Option Obj) : Bool × AlH := (tabsB g (frA g a m) x.tb, obsH x.fa x.ex x.fn x.fw (frA g a m))
def Fx.val (x : Fx) : Bool × AlH := (true, valH x.fn x.fw)
/-- what is known of the heap: its part without the tables, and that these are empty -/
structure SaysT (ps : List Fx) (K : PySem.W.Frag) (h : Heap) : Prop where
  kin : K.In h
  ob : ∀ x ∈ ps, obsH x.fa x.ex x.fn x.fw K = valH x.fn x.fw
  tab : ∀ x ∈ ps, ∀ y ∈ x.tb, h.get? (tabOf K y) = some tab0 ∧ K.lookup (tabOf K y) = none
theorem ob_each {ps : List Fx} {a m : Nat} {g : Addr → Option Obj} (e : (ps.map fun x => x.ob a m g) = ps.map Fx.val) : ∀ x ∈ ps, x.ob a m g = x.val := by
  induction ps with
  | nil => intro x hx; cases hx
  | cons y r ih =>
    rw [List.map_cons, List.map_cons] at e
    injection e with e1 e2
    intro x hx
    rcases List.mem_cons.mp hx with z | z
    · rw [z]
      exact e1
    · exact ih e2 x z
def hookT (a m : Nat) (ps : List Fx) : PySem.W.Hook where
  α := List (Bool × AlH)
  obs := fun s => ps.map fun x => x.ob a m s.heap.get?
  val := fun _ => ps.map Fx.val
  says := fun _ h => ∃ K : PySem.W.Frag, SaysT ps K h
  of := fun _ s e => ⟨frA s.heap.get? a m, fun _ _ z => (frA_at z).1, fun x hx => congrArg (fun y => y.2) (ob_each e x hx), fun x hx y hy => by
    have e1 : tabsB s.heap.get? (frA s.heap.get? a m) x.tb = true := congrArg (fun y => y.1) (ob_each e x hx)
    have e2 := isTab0_ok (List.all_eq_true.mp e1 y hy)
    refine ⟨e2, ?_⟩
    cases q : (frA s.heap.get? a m).lookup (tabOf (frA s.heap.get? a m) y) with
    | none => rfl
    | some o =>
      obtain ⟨z1, z2⟩ := frA_at q
      rw [e2] at z1
      cases z1
      cases z2⟩
  keeps := fun _ _ _ ⟨K, c⟩ kp => ⟨K, PySem.W.Frag.In.keeps c.kin kp, c.ob, fun x hx y hy => ⟨kp _ _ (c.tab x hx y hy).1, (c.tab x hx y hy).2⟩⟩
def obT (a m : Nat) (ps : List Fx) (g : Addr → Option Obj) : List (Bool × AlH) := ps.map fun x => x.ob a m g
theorem obT_eq {a m : Nat} {ps : List Fx} {g : Addr → Option Obj} {s : Shared} (hh : ∀ b, g b = s.heap.get? b) : obT a m ps g = (hookT a m ps).obs s := by
  obtain rfl : g = s.heap.get? := funext hh
  rfl
theorem two_maps {S A B : Type} {o : Option S} {f : S → A} {g : S → B} {u : A} {v : B} (h1 : o.map f = some u) (h2 : o.map g = some v) : o.map (fun s => (f s, g s)) = some (u, v) := by
  cases o with
  | none => cases h1
  | some z =>
    have e1 : f z = u := Option.some.inj h1
    have e2 : g z = v := Option.some.inj h2
    show some (f z, g z) = _
    rw [e1, e2]
/-- the runs, one for each part, put together -/
theorem runs_join {S A B : Type} {o : Option S} {f : S → A} {g : S → B} {u : A} {v : B} {ps : List Fx} {a m : Nat} {t : S → Addr → Option Obj} (h0 : o.map (fun s => (f s, g s)) = some (u, v)) (h : ∀ x ∈ ps, o.map (fun s => x.ob a m (t s)) = some x.val) :
    o.map (fun s => (f s, g s, obT a m ps (t s))) = some (u, v, ps.map Fx.val) := by
  cases o with
  | none => cases h0
  | some z =>
    have e0 : (f z, g z) = (u, v) := Option.some.inj h0
    have e1 : obT a m ps (t z) = ps.map Fx.val := List.map_congr_left fun x hx => Option.some.inj (h x hx)
    have e2 : f z = u := congrArg Prod.fst e0
    have e3 : g z = v := congrArg Prod.snd e0
    show some (f z, g z, obT a m ps (t z)) = _
    rw [e1, e2, e3]
section
variable {fa : List He.Fa} {ex : PySem.W.Frag → List Bool} {fn : List He.FnD} {fw : List He.DefD} {K : PySem.W.Frag} (c : obsH fa ex fn fw K = valH fn fw)
include c
theorem h_all : (fa.all fun f => f.ok K) = true ∧ (ex K).all id = true ∧ (fn.all fun d => (He.Fa.code d.at_ d.qual).ok K) = true ∧ (fw.all fun d => d.ok K) = true := by
  have e : ((fa.all fun f => f.ok K) && ((ex K).all id && ((fn.all fun d => (He.Fa.code d.at_ d.qual).ok K) && fw.all fun d => d.ok K))) = true := congrArg (fun z : AlH => z.1) c
  rw [Bool.and_eq_true, Bool.and_eq_true, Bool.and_eq_true] at e
  exact e
theorem h_fact (i : Nat) {f : He.Fa} (hi : fa[i]? = some f) : f.ok K = true := List.all_eq_true.mp (h_all c).1 f (List.mem_of_getElem? hi)
theorem h_ex (i : Nat) {b : Bool} (hi : (ex K)[i]? = some b) : b = true := List.all_eq_true.mp (h_all c).2.1 b (List.mem_of_getElem? hi)
theorem h_def (i : Nat) {d : He.FnD} (hi : fn[i]? = some d) :
    ∃ oc od osl kV doc pm an cdv ct, K.lookup (He.fAd K d.at_) = some ⟨oc, od, .func (PySem.W.fnOf d.name d.qual d.params d.body d.scope .none kV doc pm an cdv ct), osl⟩ ∧ PySem.W.codeIn K cdv d.qual = true := by
  have e : fn.map (fun d => He.fnObs K d.at_) = fn.map He.FnD.val := congrArg (fun z : AlH => z.2.1) c
  have e2 : (fn.map fun d => He.fnObs K d.at_)[i]? = (fn.map He.FnD.val)[i]? := by rw [e]
  rw [List.getElem?_map, List.getElem?_map, hi] at e2
  exact He.fn_ok (Option.some.inj e2) (List.all_eq_true.mp (h_all c).2.2.1 d (List.mem_of_getElem? hi))
theorem h_dfl (i : Nat) {d : He.DefD} (hi : fw[i]? = some d) : ∃ fd, FunD K d.name d.qual d.params d.body d.scope (d.dvs K) (d.kws K) (He.fAd K d.at_) fd := by
  have e : fw.map (fun d => He.fnW K d.at_) = fw.map He.DefD.val := congrArg (fun z : AlH => z.2.2) c
  have e2 : (fw.map fun d => He.fnW K d.at_)[i]? = (fw.map He.DefD.val)[i]? := by rw [e]
  rw [List.getElem?_map, List.getElem?_map, hi] at e2
  exact He.DefD.funD (Option.some.inj e2) (List.all_eq_true.mp (h_all c).2.2.2 d (List.mem_of_getElem? hi))
end
/-- what is known of a def's object -/
abbrev FnAtK (K : PySem.W.Frag) (f : Addr) (x qual : Str) (st : Stmt) : Prop :=
  ∃ oc od osl kV doc pm an cdv ct, K.lookup f = some ⟨oc, od, .func (PySem.W.fnOf x qual (defArgs st) (defBody st) (defScope st) .none kV doc pm an cdv ct), osl⟩ ∧ PySem.W.codeIn K cdv qual = true
abbrev BindK (x qual : Str) (st : Stmt) (ps : List Str) : Prop :=
  ∀ (kV doc pm : Value) (an : Option Addr) (cdv ct : Value) (us : List Value), us.length = ps.length → bindArgs (PySem.W.fnOf x qual (defArgs st) (defBody st) (defScope st) .none kV doc pm an cdv ct) ⟨us, []⟩ = pure (ps.zip us)
section
variable {K : PySem.W.Frag} {h : Heap} {mg : Str → Option Value}
theorem cls_h {x qual : Str} {ns : List Str} {st : Stmt} {ps : List Str} (X : K.In h) (G : h.Ns mainGlobals mg) (g : (He.Fa.glo x).ok K = true) (cl : (He.Fa.cls x).ok K = true) (mk : (He.Fa.mkr x).ok K = true) (me : (He.Fa.meth x "__init__").ok K = true)
    (no : NoAll K (He.ga K x) ns) (cla : He.eqO (PySem.W.findIn K (.ref (He.ga K x)) "__class__") (some (some (.builtin "object.__class__"))) = true) (mro : decide (PySem.W.mroIn K (He.ga K x) (.type "object") = some true) = true)
    (fn : FnAtK K (He.ma K (He.ga K x) "__init__") "__init__" qual st) (b : BindK "__init__" qual st ps) : ClsT K mg x qual (He.ga K x) (He.ma K (He.ga K x) "__init__") ns st ps := by
  obtain ⟨oc, od, osl, kV, doc, pm, an, cdv, ct, lk, cd⟩ := fn
  have kp := (He.meth_ok me).kp
  exact ⟨He.cls_ok cl, no, He.mkr_ok mk, He.glo_ok X G g, ⟨_, fun_mk (st := st) lk cd kp, (fun_mk (st := st) lk cd kp).binds b⟩, He.eqO_ok cla, of_decide_eq_true mro⟩
theorem met_h {x m qual : Str} {st : Stmt} {ps : List Str} (me : (He.Fa.meth x m).ok K = true) (fn : FnAtK K (He.ma K (He.ga K x) m) m qual st) (b : BindK m qual st ps) : MetT K (He.ga K x) m qual st (He.ma K (He.ga K x) m) ps := by
  obtain ⟨oc, od, osl, kV, doc, pm, an, cdv, ct, lk, cd⟩ := fn
  have kp := (He.meth_ok me).kp
  exact ⟨⟨_, fun_mk (st := st) lk cd kp, (fun_mk (st := st) lk cd kp).binds b⟩, He.meth_ok me⟩
theorem def_h {x : Str} {st : Stmt} {ps : List Str} (X : K.In h) (G : h.Ns mainGlobals mg) (g : (He.Fa.glo x).ok K = true) (kp : (He.Fa.keep x).ok K = true) (fn : FnAtK K (He.ga K x) x x st) (b : BindK x x st ps) : DefT K mg x st (He.ga K x) ps := by
  obtain ⟨oc, od, osl, kV, doc, pm, an, cdv, ct, lk, cd⟩ := fn
  exact ⟨⟨_, fun_mk (st := st) lk cd kp, (fun_mk (st := st) lk cd kp).binds b⟩, He.glo_ok X G g⟩
theorem defa_h {g x : Str} {st : Stmt} {ps : List Str} (X : K.In h) (G : h.Ns mainGlobals mg) (gl : (He.Fa.glo g).ok K = true) (kp : (He.Fa.keep g).ok K = true) (fn : FnAtK K (He.ga K g) x x st) (b : BindK x x st ps) : DefA K mg g x st (He.ga K g) ps := by
  obtain ⟨oc, od, osl, kV, doc, pm, an, cdv, ct, lk, cd⟩ := fn
  exact ⟨⟨_, fun_mk (st := st) lk cd kp, (fun_mk (st := st) lk cd kp).binds b⟩, He.glo_ok X G gl⟩
theorem dfl_h {x : Str} {st : Stmt} {ps : List Str} {dvs : List V} {n : Nat} (X : K.In h) (G : h.Ns mainGlobals mg) (gl : (He.Fa.glo x).ok K = true) (fn : ∃ fd, FunD K x x (defArgs st) (defBody st) (defScope st) dvs [] (He.ga K x) fd)
    (b0 : ∀ (T : Addr) (kV doc pm : Value) (an : Option Addr) (cdv ct : Value) (us its : List Value), us.length = ps.length → its.length = dvs.length →
      ∃ k, bindArgs (PySem.W.fnOf x x (defArgs st) (defBody st) (defScope st) (.ref T) kV doc pm an cdv ct) ⟨us, []⟩ = seqItems? (.ref T) >>= k ∧ k (some its.toArray) = pure (ps.zip (us ++ its.drop dvs.length)))
    (b1 : ∀ (T : Addr) (kV doc pm : Value) (an : Option Addr) (cdv ct : Value) (us its : List Value), us.length = n → its.length = dvs.length →
      ∃ k, bindArgs (PySem.W.fnOf x x (defArgs st) (defBody st) (defScope st) (.ref T) kV doc pm an cdv ct) ⟨us, []⟩ = seqItems? (.ref T) >>= k ∧ k (some its.toArray) = pure (ps.zip (us ++ its.drop 0)))
    (hd : dvs ≠ [] := by intro z; cases z) (hn : n + (dvs.length - 0) = ps.length := by rfl) : DflT K mg x st (He.ga K x) ps dvs := by
  obtain ⟨fd, F⟩ := fn
  obtain ⟨d0, r0, B0⟩ := F.binds1 ps.length dvs.length hd (by rw [Nat.sub_self]; rfl) b0
  rw [List.drop_length] at r0
  cases r0
  obtain ⟨d1, r1, B1⟩ := F.binds1 n 0 hd hn b1
  exact ⟨⟨fd, F, B0, d1, r1, B1⟩, He.glo_ok X G gl⟩
theorem low_h {p1 p2 p3 q1 q2 q3 q4 r1 r2 r3 r4 : Pos} (X : K.In h) (G : h.Ns mainGlobals mg) (g : (He.Fa.glo "Misread").ok K = true) (kp : (He.Fa.keep "Misread").ok K = true) (ec : excB K (He.ga K "Misread") = true) (em : (He.Fa.exm "Misread" "Misread" true).ok K = true) (nk : (He.Fa.noat "Misread" "kind").ok K = true) (np : (He.Fa.noat "Misread" "place").ok K = true)
    (sa : He.eqO (PySem.W.findIn K (.ref (He.ga K "Misread")) "__setattr__") (some (some (.builtin "object.__setattr__"))) = true) (gt : He.eqO (PySem.W.findIn K (.ref (He.ga K "Misread")) "__getattribute__") (some (some (.builtin "BaseException.__getattribute__"))) = true)
    (gg : He.eqO (PySem.W.findIn K (.ref (He.ga K "Misread")) "__getattr__") (some none) = true) (me : (He.Fa.meth "Misread" "__init__").ok K = true) (sb : decide (PySem.W.subIn K (.ref (He.ga K "Misread")) (.type "BaseException") = some true) = true)
    (ty : decide (PySem.W.typeIn K (.ref (He.ga K "Misread")) = some (.type "type")) = true) (hd : PySem.W.hasDictIn K (He.ga K "Misread") = true)
    (fn : ∃ oc od osl kV doc pm an cdv ct, K.lookup (He.ma K (He.ga K "Misread") "__init__") = some ⟨oc, od, .func (PySem.W.fnOf "__init__" "Misread.__init__" (PySem.LowX.iA p1 p2 p3) (PySem.LowX.iB q1 q2 q3 q4 r1 r2 r3 r4) PySem.LowX.iS .none kV doc pm an cdv ct), osl⟩ ∧ PySem.W.codeIn K cdv "Misread.__init__" = true)
    (kn : (match K.lookup (He.ma K (He.ga K "Misread") "__init__") with
      | some ⟨_, _, .func fd, _⟩ => decide (fd.kwdefaults = .none)
      | _ => false) = true) : PySem.LowX.LowTxt K mg (He.ga K "Misread") (He.ma K (He.ga K "Misread") "__init__") := by
  obtain ⟨oc, od, osl, kV, doc, pm, an, cdv, ct, lk, cd⟩ := fn
  have mm := He.meth_ok me
  rw [lk] at kn
  have ek : kV = .none := of_decide_eq_true kn
  subst ek
  exact ⟨He.glo_ok X G g, excB_ok ec, He.eqO_ok sa, He.eqO_ok gt, He.eqO_ok gg, He.noat_ok nk, He.noat_ok np, mm.at_, beq_iff_eq.mp mm.fn, He.keep_ok kp, of_decide_eq_true sb, of_decide_eq_true ty, hd, He.exm_ok em, oc, od, doc, pm, an, cdv, ct, osl, p1, p2, p3, q1, q2, q3, q4, r1, r2, r3, r4, lk, cd⟩
end
theorem mak_h {K : PySem.W.Frag} {x : Str} {st : Stmt} (fn : FnAtK K (He.ga K x) x x st) (mb : makB K x = true) : MakT K x st (He.ga K x) (codeOf K x) (tabOf K x) := by
  obtain ⟨oc, od, osl, kV, doc, pm, an, cdv, ct, lk, cd⟩ := fn
  unfold makB at mb
  rw [Bool.and_eq_true] at mb
  obtain ⟨m1, m2⟩ := mb
  have hc : cdv = .ref (codeOf K x) := by
    rw [lk] at m1
    unfold codeOf
    rw [lk]
    dsimp only at m1 ⊢
    cases cdv with
    | ref c => rfl
    | _ => cases m1
  subst hc
  exact ⟨⟨oc, od, kV, doc, pm, an, ct, osl, lk, cd⟩, m2⟩
end HC
namespace HC
open PySem PySem.Spec PyProof.Rows L2
def hfa0_0 : List He.Fa := [.glo "Plain",
  .cls "Plain",
  .mkr "Plain",
  .meth "Plain" "__init__",
  .noat "Plain" "tincture",
  .glo "Parted",
  .cls "Parted",
  .mkr "Parted",
  .meth "Parted" "__init__",
  .noat "Parted" "way",
  .noat "Parted" "line",
  .noat "Parted" "first",
  .noat "Parted" "second",
  .glo "Varied",
  .cls "Varied",
  .mkr "Varied",
  .meth "Varied" "__init__",
  .noat "Varied" "way",
  .noat "Varied" "pieces",
  .noat "Varied" "line",
  .noat "Varied" "first",
  .noat "Varied" "second",
  .glo "Ordinary",
  .cls "Ordinary",
  .mkr "Ordinary",
  .meth "Ordinary" "__init__",
  .noat "Ordinary" "figure",
  .noat "Ordinary" "line",
  .noat "Ordinary" "fill",
  .glo "Group"]
def hfa0_1 : List He.Fa := [.cls "Group",
  .mkr "Group",
  .meth "Group" "__init__",
  .noat "Group" "charge",
  .noat "Group" "many",
  .noat "Group" "manner",
  .noat "Group" "size",
  .noat "Group" "fill",
  .glo "Arms",
  .cls "Arms",
  .mkr "Arms",
  .meth "Arms" "__init__",
  .noat "Arms" "field",
  .noat "Arms" "layers",
  .glo "Mark",
  .cls "Mark",
  .mkr "Mark",
  .meth "Mark" "__init__",
  .noat "Mark" "g",
  .noat "Mark" "k",
  .glo "Marked",
  .cls "Marked",
  .mkr "Marked",
  .meth "Marked" "__init__",
  .noat "Marked" "arms",
  .noat "Marked" "canton",
  .noat "Marked" "marks",
  .glo "Quarterly",
  .cls "Quarterly",
  .mkr "Quarterly"]
def hfa0_2 : List He.Fa := [.meth "Quarterly" "__init__",
  .noat "Quarterly" "coats",
  .glo "Impaled",
  .cls "Impaled",
  .mkr "Impaled",
  .meth "Impaled" "__init__",
  .noat "Impaled" "dexter",
  .noat "Impaled" "sinister",
  .glo "Pretence",
  .cls "Pretence",
  .mkr "Pretence",
  .meth "Pretence" "__init__",
  .noat "Pretence" "below",
  .noat "Pretence" "upon",
  .glo "Cursor",
  .cls "Cursor",
  .mkr "Cursor",
  .meth "Cursor" "__init__",
  .noat "Cursor" "text",
  .noat "Cursor" "place",
  .meth "Cursor" "sign",
  .meth "Cursor" "skip_blanks",
  .meth "Cursor" "take_sign",
  .meth "Cursor" "take_letters",
  .meth "Cursor" "take_digits",
  .glo "Token",
  .cls "Token",
  .mkr "Token",
  .meth "Token" "__init__",
  .noat "Token" "content"]
def hfa0_3 : List He.Fa := [.noat "Token" "place",
  .glo "Tokens",
  .cls "Tokens",
  .mkr "Tokens",
  .meth "Tokens" "__init__",
  .noat "Tokens" "cursor",
  .noat "Tokens" "ahead",
  .meth "Tokens" "peek",
  .meth "Tokens" "take",
  .glo "Misread",
  .keep "Misread",
  .exm "Misread" "Misread" true,
  .noat "Misread" "kind",
  .noat "Misread" "place",
  .meth "Misread" "__init__",
  .glo "coats_in",
  .keep "coats_in",
  .glo "field_bytes",
  .keep "field_bytes",
  .glo "fill_bytes",
  .keep "fill_bytes",
  .glo "layer_bytes",
  .keep "layer_bytes",
  .glo "arms_bytes",
  .keep "arms_bytes",
  .glo "canton_bytes",
  .keep "canton_bytes",
  .glo "marked_bytes",
  .keep "marked_bytes",
  .glo "head_bytes"]
def hfa0_4 : List He.Fa := [.keep "head_bytes",
  .glo "coat_bytes",
  .keep "coat_bytes",
  .glo "article_before"]
def hfa0_ : List He.Fa := hfa0_0 ++ (hfa0_1 ++ (hfa0_2 ++ (hfa0_3 ++ (hfa0_4))))
def hex0_0 (K : PySem.W.Frag) : List Bool := [He.eqO (PySem.W.findIn K (.ref (He.ga K "Plain")) "__class__") (some (some (.builtin "object.__class__"))),
  decide (PySem.W.mroIn K (He.ga K "Plain") (.type "object") = some true),
  He.eqO (PySem.W.findIn K (.ref (He.ga K "Parted")) "__class__") (some (some (.builtin "object.__class__"))),
  decide (PySem.W.mroIn K (He.ga K "Parted") (.type "object") = some true),
  He.eqO (PySem.W.findIn K (.ref (He.ga K "Varied")) "__class__") (some (some (.builtin "object.__class__"))),
  decide (PySem.W.mroIn K (He.ga K "Varied") (.type "object") = some true),
  He.eqO (PySem.W.findIn K (.ref (He.ga K "Ordinary")) "__class__") (some (some (.builtin "object.__class__"))),
  decide (PySem.W.mroIn K (He.ga K "Ordinary") (.type "object") = some true),
  He.eqO (PySem.W.findIn K (.ref (He.ga K "Group")) "__class__") (some (some (.builtin "object.__class__"))),
  decide (PySem.W.mroIn K (He.ga K "Group") (.type "object") = some true),
  He.eqO (PySem.W.findIn K (.ref (He.ga K "Arms")) "__class__") (some (some (.builtin "object.__class__"))),
  decide (PySem.W.mroIn K (He.ga K "Arms") (.type "object") = some true),
  He.eqO (PySem.W.findIn K (.ref (He.ga K "Mark")) "__class__") (some (some (.builtin "object.__class__"))),
  decide (PySem.W.mroIn K (He.ga K "Mark") (.type "object") = some true),
  He.eqO (PySem.W.findIn K (.ref (He.ga K "Marked")) "__class__") (some (some (.builtin "object.__class__"))),
  decide (PySem.W.mroIn K (He.ga K "Marked") (.type "object") = some true),
  He.eqO (PySem.W.findIn K (.ref (He.ga K "Quarterly")) "__class__") (some (some (.builtin "object.__class__"))),
  decide (PySem.W.mroIn K (He.ga K "Quarterly") (.type "object") = some true),
  He.eqO (PySem.W.findIn K (.ref (He.ga K "Impaled")) "__class__") (some (some (.builtin "object.__class__"))),
  decide (PySem.W.mroIn K (He.ga K "Impaled") (.type "object") = some true),
  He.eqO (PySem.W.findIn K (.ref (He.ga K "Pretence")) "__class__") (some (some (.builtin "object.__class__"))),
  decide (PySem.W.mroIn K (He.ga K "Pretence") (.type "object") = some true),
  He.eqO (PySem.W.findIn K (.ref (He.ga K "Cursor")) "__class__") (some (some (.builtin "object.__class__"))),
  decide (PySem.W.mroIn K (He.ga K "Cursor") (.type "object") = some true),
  He.eqO (PySem.W.findIn K (.ref (He.ga K "Token")) "__class__") (some (some (.builtin "object.__class__"))),
  decide (PySem.W.mroIn K (He.ga K "Token") (.type "object") = some true),
  He.eqO (PySem.W.findIn K (.ref (He.ga K "Tokens")) "__class__") (some (some (.builtin "object.__class__"))),
  decide (PySem.W.mroIn K (He.ga K "Tokens") (.type "object") = some true),
  excB K (He.ga K "Misread"),
  He.eqO (PySem.W.findIn K (.ref (He.ga K "Misread")) "__setattr__") (some (some (.builtin "object.__setattr__")))]
def hex0_1 (K : PySem.W.Frag) : List Bool := [He.eqO (PySem.W.findIn K (.ref (He.ga K "Misread")) "__getattribute__") (some (some (.builtin "BaseException.__getattribute__"))),
  He.eqO (PySem.W.findIn K (.ref (He.ga K "Misread")) "__getattr__") (some none),
  decide (PySem.W.subIn K (.ref (He.ga K "Misread")) (.type "BaseException") = some true),
  decide (PySem.W.typeIn K (.ref (He.ga K "Misread")) = some (.type "type")),
  PySem.W.hasDictIn K (He.ga K "Misread"),
  (match K.lookup (He.ma K (He.ga K "Misread") "__init__") with
      | some ⟨_, _, .func fd, _⟩ => decide (fd.kwdefaults = .none)
      | _ => false),
  tupAtB K (He.ga K "TINCTURES") (wTINCTURES.map V.str),
  tupAtB K (He.ga K "LINES") (wLINES.map V.str),
  tupAtB K (He.ga K "PARTED_WAYS") (wPARTED_WAYS.map V.str),
  tupAtB K (He.ga K "VARIED_WAYS") (wVARIED_WAYS.map V.str),
  tupAtB K (He.ga K "ORDINARIES") (wORDINARIES.map V.str),
  tupAtB K (He.ga K "CHARGES") (wCHARGES.map V.str),
  tupAtB K (He.ga K "MANNERS") (wMANNERS.map V.str),
  tupAtB K (He.ga K "SIZES") (wSIZES.map V.str),
  tupAtB K (He.ga K "COUNTS") (wCOUNTS.map V.str),
  He.eqO (PySem.W.specialIn K (.builtin "object.__class__") "__get__") (some (some (.builtin "getset_descriptor.__get__"))),
  decide (PySem.W.takesIn K (.builtin "object.__class__") = some true),
  decide (PySem.W.kitOne K (.ref (He.ga K "Marked")) (.ref (He.ga K "Impaled")) = some false),
  decide (PySem.W.kitOne K (.ref (He.ga K "Quarterly")) (.ref (He.ga K "Impaled")) = some false),
  decide (PySem.W.kitOne K (.ref (He.ga K "Impaled")) (.ref (He.ga K "Impaled")) = some true),
  decide (PySem.W.kitOne K (.ref (He.ga K "Pretence")) (.ref (He.ga K "Impaled")) = some false),
  decide (PySem.W.kitOne K (.ref (He.ga K "Marked")) (.ref (He.ga K "Marked")) = some true),
  decide (PySem.W.kitOne K (.ref (He.ga K "Quarterly")) (.ref (He.ga K "Marked")) = some false),
  decide (PySem.W.kitOne K (.ref (He.ga K "Impaled")) (.ref (He.ga K "Marked")) = some false),
  decide (PySem.W.kitOne K (.ref (He.ga K "Pretence")) (.ref (He.ga K "Marked")) = some false),
  decide (PySem.W.kitOne K (.ref (He.ga K "Ordinary")) (.ref (He.ga K "Ordinary")) = some true),
  decide (PySem.W.kitOne K (.ref (He.ga K "Group")) (.ref (He.ga K "Ordinary")) = some false),
  decide (PySem.W.kitOne K (.ref (He.ga K "Parted")) (.ref (He.ga K "Parted")) = some true),
  decide (PySem.W.kitOne K (.ref (He.ga K "Varied")) (.ref (He.ga K "Parted")) = some false),
  decide (PySem.W.kitOne K (.ref (He.ga K "Plain")) (.ref (He.ga K "Plain")) = some true)]
def hex0_2 (K : PySem.W.Frag) : List Bool := [decide (PySem.W.kitOne K (.ref (He.ga K "Parted")) (.ref (He.ga K "Plain")) = some false),
  decide (PySem.W.kitOne K (.ref (He.ga K "Varied")) (.ref (He.ga K "Plain")) = some false),
  decide (PySem.W.kitOne K (.ref (He.ga K "Marked")) (.ref (He.ga K "Quarterly")) = some false),
  decide (PySem.W.kitOne K (.ref (He.ga K "Quarterly")) (.ref (He.ga K "Quarterly")) = some true),
  decide (PySem.W.kitOne K (.ref (He.ga K "Impaled")) (.ref (He.ga K "Quarterly")) = some false),
  decide (PySem.W.kitOne K (.ref (He.ga K "Pretence")) (.ref (He.ga K "Quarterly")) = some false)]
def hex0_ (K : PySem.W.Frag) : List Bool := hex0_0 K ++ (hex0_1 K ++ (hex0_2 K))
def hp0 : Fx := ⟨hfa0_, hex0_, [], [], []⟩
def hfa1_0 : List He.Fa := [.keep "article_before",
  .glo "several",
  .keep "several",
  .glo "text_of",
  .keep "text_of",
  .glo "is_number",
  .keep "is_number",
  .glo "take_content",
  .keep "take_content",
  .glo "take_word",
  .keep "take_word",
  .glo "pass_word_blazons",
  .keep "pass_word_blazons",
  .glo "take_name",
  .glo "take_tincture",
  .keep "take_tincture",
  .glo "take_second_tincture",
  .keep "take_second_tincture",
  .glo "take_pieces",
  .keep "take_pieces",
  .glo "take_line",
  .keep "take_line",
  .glo "read_parted",
  .keep "read_parted",
  .glo "read_varied",
  .keep "read_varied",
  .glo "read_field",
  .keep "read_field",
  .glo "read_fill",
  .keep "read_fill"]
def hfa1_1 : List He.Fa := [.glo "take_size",
  .keep "take_size",
  .glo "take_manner",
  .keep "take_manner",
  .glo "read_ordinary",
  .keep "read_ordinary",
  .glo "read_group",
  .keep "read_group",
  .glo "check_article",
  .keep "check_article",
  .glo "read_behind_article",
  .keep "read_behind_article",
  .glo "read_layer",
  .keep "read_layer",
  .glo "read_arms",
  .keep "read_arms",
  .glo "want_sign",
  .keep "want_sign",
  .glo "want_sign_behind_blanks",
  .keep "want_sign_behind_blanks",
  .glo "pass_sign",
  .keep "pass_sign",
  .glo "pass_word_reading",
  .keep "pass_word_reading",
  .glo "read_blazon",
  .keep "read_blazon",
  .glo "take_mark_number",
  .keep "take_mark_number",
  .glo "read_mark",
  .keep "read_mark"]
def hfa1_2 : List He.Fa := [.glo "read_marks",
  .keep "read_marks",
  .glo "read_marked",
  .keep "read_marked",
  .glo "read_quarterly",
  .keep "read_quarterly",
  .glo "read_two",
  .keep "read_two",
  .glo "read_coats",
  .keep "read_coats",
  .glo "read_coat",
  .keep "read_coat",
  .glo "read_words",
  .keep "read_words",
  .glo "counted",
  .keep "counted",
  .glo "read",
  .keep "read",
  .int "FEWEST_PIECES" 2,
  .int "MOST_PIECES" 24,
  .int "FIRST_STRAIGHT_WAY" 5,
  .int "MOST_LAYERS" 8,
  .int "MOST_MARKS" 60,
  .int "MOST_G" 127,
  .int "LEAST_K" 1,
  .int "MOST_K" 255,
  .int "FEWEST_QUARTERS" 2,
  .int "MOST_QUARTERS" 9,
  .int "MOST_DEEP" 4,
  .int "FOREIGN_BYTE" 1]
def hfa1_3 : List He.Fa := [.int "NO_NUMBER" 2,
  .int "OTHER_TOKEN" 3,
  .int "WRONG_PIECES" 4,
  .int "SAME_TINCTURE" 5,
  .int "CHANGED_OVER_PLAIN" 6,
  .int "WRONG_ARTICLE" 7,
  .int "NINTH_LAYER" 8,
  .int "OTHER_SIGN" 10,
  .int "MARK_OUT_OF_BOUNDS" 11,
  .int "MARK_TOO_MANY" 12,
  .int "TOO_DEEP" 13,
  .int "WRONG_QUARTERS" 14,
  .int "FIRST_SIZE" 1,
  .int "FIRST_COUNT" 2,
  .int "STRAIGHT" 0,
  .int "BY_ROWS" 0,
  .int "USUAL_SIZE" 3,
  .str "SIGNS" "\n abcdefghijklmnopqrstuvwxyz0123456789,.;()[]",
  .str "FOREIGN_SIGN" "?",
  .str "COMMA" ",",
  .str "END" ")",
  .glo "TINCTURES",
  .glo "LINES",
  .glo "PARTED_WAYS",
  .glo "VARIED_WAYS",
  .glo "ORDINARIES",
  .glo "CHARGES",
  .glo "MANNERS",
  .glo "SIZES",
  .glo "COUNTS"]
def hfa1_4 : List He.Fa := [.free "len",
  .free "isinstance",
  .free "list",
  .free "ord",
  .free "int"]
def hfa1_ : List He.Fa := hfa1_0 ++ (hfa1_1 ++ (hfa1_2 ++ (hfa1_3 ++ (hfa1_4))))
def hp1 : Fx := ⟨hfa1_, fun _ => [], [], [], []⟩
def hfn2_0 : List He.FnD := [⟨("Plain", some "__init__"), "__init__", "Plain.__init__", defArgs s_Plain_init, defBody s_Plain_init, defScope s_Plain_init⟩,
  ⟨("Parted", some "__init__"), "__init__", "Parted.__init__", defArgs s_Parted_init, defBody s_Parted_init, defScope s_Parted_init⟩,
  ⟨("Varied", some "__init__"), "__init__", "Varied.__init__", defArgs s_Varied_init, defBody s_Varied_init, defScope s_Varied_init⟩,
  ⟨("Ordinary", some "__init__"), "__init__", "Ordinary.__init__", defArgs s_Ordinary_init, defBody s_Ordinary_init, defScope s_Ordinary_init⟩,
  ⟨("Group", some "__init__"), "__init__", "Group.__init__", defArgs s_Group_init, defBody s_Group_init, defScope s_Group_init⟩,
  ⟨("Arms", some "__init__"), "__init__", "Arms.__init__", defArgs s_Arms_init, defBody s_Arms_init, defScope s_Arms_init⟩,
  ⟨("Mark", some "__init__"), "__init__", "Mark.__init__", defArgs s_Mark_init, defBody s_Mark_init, defScope s_Mark_init⟩,
  ⟨("Marked", some "__init__"), "__init__", "Marked.__init__", defArgs s_Marked_init, defBody s_Marked_init, defScope s_Marked_init⟩,
  ⟨("Quarterly", some "__init__"), "__init__", "Quarterly.__init__", defArgs s_Quarterly_init, defBody s_Quarterly_init, defScope s_Quarterly_init⟩,
  ⟨("Impaled", some "__init__"), "__init__", "Impaled.__init__", defArgs s_Impaled_init, defBody s_Impaled_init, defScope s_Impaled_init⟩,
  ⟨("Pretence", some "__init__"), "__init__", "Pretence.__init__", defArgs s_Pretence_init, defBody s_Pretence_init, defScope s_Pretence_init⟩,
  ⟨("Cursor", some "__init__"), "__init__", "Cursor.__init__", defArgs s_Cursor_init, defBody s_Cursor_init, defScope s_Cursor_init⟩,
  ⟨("Cursor", some "sign"), "sign", "Cursor.sign", defArgs s_Cursor_sign, defBody s_Cursor_sign, defScope s_Cursor_sign⟩,
  ⟨("Cursor", some "skip_blanks"), "skip_blanks", "Cursor.skip_blanks", defArgs s_Cursor_skip_blanks, defBody s_Cursor_skip_blanks, defScope s_Cursor_skip_blanks⟩,
  ⟨("Cursor", some "take_sign"), "take_sign", "Cursor.take_sign", defArgs s_Cursor_take_sign, defBody s_Cursor_take_sign, defScope s_Cursor_take_sign⟩,
  ⟨("Cursor", some "take_letters"), "take_letters", "Cursor.take_letters", defArgs s_Cursor_take_letters, defBody s_Cursor_take_letters, defScope s_Cursor_take_letters⟩,
  ⟨("Cursor", some "take_digits"), "take_digits", "Cursor.take_digits", defArgs s_Cursor_take_digits, defBody s_Cursor_take_digits, defScope s_Cursor_take_digits⟩,
  ⟨("Token", some "__init__"), "__init__", "Token.__init__", defArgs s_Token_init, defBody s_Token_init, defScope s_Token_init⟩,
  ⟨("Tokens", some "__init__"), "__init__", "Tokens.__init__", defArgs s_Tokens_init, defBody s_Tokens_init, defScope s_Tokens_init⟩,
  ⟨("Tokens", some "peek"), "peek", "Tokens.peek", defArgs s_Tokens_peek, defBody s_Tokens_peek, defScope s_Tokens_peek⟩,
  ⟨("Tokens", some "take"), "take", "Tokens.take", defArgs s_Tokens_take, defBody s_Tokens_take, defScope s_Tokens_take⟩,
  ⟨("Misread", some "__init__"), "__init__", "Misread.__init__", defArgs s_Misread_init, defBody s_Misread_init, defScope s_Misread_init⟩,
  ⟨("coats_in", none), "coats_in", "coats_in", defArgs s_coats_in, defBody s_coats_in, defScope s_coats_in⟩]
def hfn2_ : List He.FnD := hfn2_0
def hp2 : Fx := ⟨[], fun _ => [], hfn2_, [], []⟩
def hfn3_0 : List He.FnD := [⟨("field_bytes", none), "field_bytes", "field_bytes", defArgs s_field_bytes, defBody s_field_bytes, defScope s_field_bytes⟩,
  ⟨("fill_bytes", none), "fill_bytes", "fill_bytes", defArgs s_fill_bytes, defBody s_fill_bytes, defScope s_fill_bytes⟩,
  ⟨("layer_bytes", none), "layer_bytes", "layer_bytes", defArgs s_layer_bytes, defBody s_layer_bytes, defScope s_layer_bytes⟩,
  ⟨("arms_bytes", none), "arms_bytes", "arms_bytes", defArgs s_arms_bytes, defBody s_arms_bytes, defScope s_arms_bytes⟩,
  ⟨("canton_bytes", none), "canton_bytes", "canton_bytes", defArgs s_canton_bytes, defBody s_canton_bytes, defScope s_canton_bytes⟩,
  ⟨("marked_bytes", none), "marked_bytes", "marked_bytes", defArgs s_marked_bytes, defBody s_marked_bytes, defScope s_marked_bytes⟩,
  ⟨("head_bytes", none), "head_bytes", "head_bytes", defArgs s_head_bytes, defBody s_head_bytes, defScope s_head_bytes⟩,
  ⟨("coat_bytes", none), "coat_bytes", "coat_bytes", defArgs s_coat_bytes, defBody s_coat_bytes, defScope s_coat_bytes⟩,
  ⟨("article_before", none), "article_before", "article_before", defArgs s_article_before, defBody s_article_before, defScope s_article_before⟩,
  ⟨("several", none), "several", "several", defArgs s_several, defBody s_several, defScope s_several⟩,
  ⟨("text_of", none), "text_of", "text_of", defArgs s_text_of, defBody s_text_of, defScope s_text_of⟩,
  ⟨("is_number", none), "is_number", "is_number", defArgs s_is_number, defBody s_is_number, defScope s_is_number⟩,
  ⟨("take_content", none), "take_content", "take_content", defArgs s_take_content, defBody s_take_content, defScope s_take_content⟩,
  ⟨("take_word", none), "take_word", "take_word", defArgs s_take_word, defBody s_take_word, defScope s_take_word⟩,
  ⟨("pass_word_blazons", none), "pass_word", "pass_word", defArgs s_pass_word_blazons, defBody s_pass_word_blazons, defScope s_pass_word_blazons⟩,
  ⟨("take_tincture", none), "take_tincture", "take_tincture", defArgs s_take_tincture, defBody s_take_tincture, defScope s_take_tincture⟩,
  ⟨("take_second_tincture", none), "take_second_tincture", "take_second_tincture", defArgs s_take_second_tincture, defBody s_take_second_tincture, defScope s_take_second_tincture⟩,
  ⟨("take_pieces", none), "take_pieces", "take_pieces", defArgs s_take_pieces, defBody s_take_pieces, defScope s_take_pieces⟩,
  ⟨("take_line", none), "take_line", "take_line", defArgs s_take_line, defBody s_take_line, defScope s_take_line⟩,
  ⟨("read_parted", none), "read_parted", "read_parted", defArgs s_read_parted, defBody s_read_parted, defScope s_read_parted⟩,
  ⟨("read_varied", none), "read_varied", "read_varied", defArgs s_read_varied, defBody s_read_varied, defScope s_read_varied⟩,
  ⟨("read_field", none), "read_field", "read_field", defArgs s_read_field, defBody s_read_field, defScope s_read_field⟩,
  ⟨("read_fill", none), "read_fill", "read_fill", defArgs s_read_fill, defBody s_read_fill, defScope s_read_fill⟩]
def hfn3_ : List He.FnD := hfn3_0
def hp3 : Fx := ⟨[], fun _ => [], hfn3_, [], []⟩
def hfn4_0 : List He.FnD := [⟨("take_size", none), "take_size", "take_size", defArgs s_take_size, defBody s_take_size, defScope s_take_size⟩,
  ⟨("take_manner", none), "take_manner", "take_manner", defArgs s_take_manner, defBody s_take_manner, defScope s_take_manner⟩,
  ⟨("read_ordinary", none), "read_ordinary", "read_ordinary", defArgs s_read_ordinary, defBody s_read_ordinary, defScope s_read_ordinary⟩,
  ⟨("read_group", none), "read_group", "read_group", defArgs s_read_group, defBody s_read_group, defScope s_read_group⟩,
  ⟨("check_article", none), "check_article", "check_article", defArgs s_check_article, defBody s_check_article, defScope s_check_article⟩,
  ⟨("read_behind_article", none), "read_behind_article", "read_behind_article", defArgs s_read_behind_article, defBody s_read_behind_article, defScope s_read_behind_article⟩,
  ⟨("read_layer", none), "read_layer", "read_layer", defArgs s_read_layer, defBody s_read_layer, defScope s_read_layer⟩,
  ⟨("read_arms", none), "read_arms", "read_arms", defArgs s_read_arms, defBody s_read_arms, defScope s_read_arms⟩,
  ⟨("want_sign", none), "want_sign", "want_sign", defArgs s_want_sign, defBody s_want_sign, defScope s_want_sign⟩,
  ⟨("want_sign_behind_blanks", none), "want_sign_behind_blanks", "want_sign_behind_blanks", defArgs s_want_sign_behind_blanks, defBody s_want_sign_behind_blanks, defScope s_want_sign_behind_blanks⟩,
  ⟨("pass_sign", none), "pass_sign", "pass_sign", defArgs s_pass_sign, defBody s_pass_sign, defScope s_pass_sign⟩,
  ⟨("pass_word_reading", none), "pass_word", "pass_word", defArgs s_pass_word_reading, defBody s_pass_word_reading, defScope s_pass_word_reading⟩,
  ⟨("read_blazon", none), "read_blazon", "read_blazon", defArgs s_read_blazon, defBody s_read_blazon, defScope s_read_blazon⟩,
  ⟨("take_mark_number", none), "take_mark_number", "take_mark_number", defArgs s_take_mark_number, defBody s_take_mark_number, defScope s_take_mark_number⟩,
  ⟨("read_mark", none), "read_mark", "read_mark", defArgs s_read_mark, defBody s_read_mark, defScope s_read_mark⟩,
  ⟨("read_marks", none), "read_marks", "read_marks", defArgs s_read_marks, defBody s_read_marks, defScope s_read_marks⟩,
  ⟨("read_marked", none), "read_marked", "read_marked", defArgs s_read_marked, defBody s_read_marked, defScope s_read_marked⟩,
  ⟨("read_quarterly", none), "read_quarterly", "read_quarterly", defArgs s_read_quarterly, defBody s_read_quarterly, defScope s_read_quarterly⟩,
  ⟨("read_two", none), "read_two", "read_two", defArgs s_read_two, defBody s_read_two, defScope s_read_two⟩,
  ⟨("read_coats", none), "read_coats", "read_coats", defArgs s_read_coats, defBody s_read_coats, defScope s_read_coats⟩,
  ⟨("read_coat", none), "read_coat", "read_coat", defArgs s_read_coat, defBody s_read_coat, defScope s_read_coat⟩,
  ⟨("read_words", none), "read_words", "read_words", defArgs s_read_words, defBody s_read_words, defScope s_read_words⟩,
  ⟨("counted", none), "counted", "counted", defArgs s_counted, defBody s_counted, defScope s_counted⟩,
  ⟨("read", none), "read", "read", defArgs s_read, defBody s_read, defScope s_read⟩]
def hfn4_ : List He.FnD := hfn4_0
def hp4 : Fx := ⟨[], fun _ => [], hfn4_, [], [⟨("take_name", none), "take_name", "take_name", defArgs s_take_name, defBody s_take_name, defScope s_take_name, [.str ""], []⟩]⟩
abbrev hparts : List Fx := [hp0, hp1, hp2, hp3, hp4]
def adOf (K : PySem.W.Frag) : Ad := ⟨He.ga K "Plain", He.ma K (He.ga K "Plain") "__init__", He.ga K "Parted", He.ma K (He.ga K "Parted") "__init__", He.ga K "Varied", He.ma K (He.ga K "Varied") "__init__", He.ga K "Ordinary", He.ma K (He.ga K "Ordinary") "__init__", He.ga K "Group", He.ma K (He.ga K "Group") "__init__", He.ga K "Arms", He.ma K (He.ga K "Arms") "__init__", He.ga K "Mark", He.ma K (He.ga K "Mark") "__init__", He.ga K "Marked", He.ma K (He.ga K "Marked") "__init__", He.ga K "Quarterly", He.ma K (He.ga K "Quarterly") "__init__", He.ga K "Impaled", He.ma K (He.ga K "Impaled") "__init__", He.ga K "Pretence", He.ma K (He.ga K "Pretence") "__init__", He.ga K "Cursor", He.ma K (He.ga K "Cursor") "__init__", He.ma K (He.ga K "Cursor") "sign", He.ma K (He.ga K "Cursor") "skip_blanks", He.ma K (He.ga K "Cursor") "take_sign", He.ma K (He.ga K "Cursor") "take_letters", He.ma K (He.ga K "Cursor") "take_digits", He.ga K "Token", He.ma K (He.ga K "Token") "__init__", He.ga K "Tokens", He.ma K (He.ga K "Tokens") "__init__", He.ma K (He.ga K "Tokens") "peek", He.ma K (He.ga K "Tokens") "take", He.ga K "Misread", He.ma K (He.ga K "Misread") "__init__", He.ga K "coats_in", He.ga K "field_bytes", He.ga K "fill_bytes", He.ga K "layer_bytes", He.ga K "arms_bytes", He.ga K "canton_bytes", He.ga K "marked_bytes", He.ga K "head_bytes", He.ga K "coat_bytes", He.ga K "article_before", He.ga K "several", He.ga K "text_of", He.ga K "is_number", He.ga K "take_content", He.ga K "take_word", He.ga K "pass_word_blazons", He.ga K "take_name", He.ga K "take_tincture", He.ga K "take_second_tincture", He.ga K "take_pieces", He.ga K "take_line", He.ga K "read_parted", He.ga K "read_varied", He.ga K "read_field", He.ga K "read_fill", He.ga K "take_size", He.ga K "take_manner", He.ga K "read_ordinary", He.ga K "read_group", He.ga K "check_article", He.ga K "read_behind_article", He.ga K "read_layer", He.ga K "read_arms", He.ga K "want_sign", He.ga K "want_sign_behind_blanks", He.ga K "pass_sign", He.ga K "pass_word_reading", He.ga K "read_blazon", He.ga K "take_mark_number", He.ga K "read_mark", He.ga K "read_marks", He.ga K "read_marked", He.ga K "read_quarterly", He.ga K "read_two", He.ga K "read_coats", He.ga K "read_coat", He.ga K "read_words", He.ga K "counted", He.ga K "read"⟩
theorem txt_of {K : PySem.W.Frag} {h : Heap} {mg : Str → Option Value} (X : K.In h) (G : h.Ns mainGlobals mg) (c0 : obsH hp0.fa hp0.ex hp0.fn hp0.fw K = valH hp0.fn hp0.fw) (c1 : obsH hp1.fa hp1.ex hp1.fn hp1.fw K = valH hp1.fn hp1.fw) (c2 : obsH hp2.fa hp2.ex hp2.fn hp2.fw K = valH hp2.fn hp2.fw) (c3 : obsH hp3.fa hp3.ex hp3.fn hp3.fw K = valH hp3.fn hp3.fw) (c4 : obsH hp4.fa hp4.ex hp4.fn hp4.fw K = valH hp4.fn hp4.fw) : Txt K mg (adOf K) where
  kPlain := cls_h X G (h_fact c0 0 rfl) (h_fact c0 1 rfl) (h_fact c0 2 rfl) (h_fact c0 3 rfl) ⟨He.noat_ok (h_fact c0 4 rfl), trivial⟩ (h_ex c0 0 rfl) (h_ex c0 1 rfl) (h_def c2 0 rfl) (fun _ _ _ _ _ _ us hl => match us, hl with | [_, _], _ => rfl)
  kParted := cls_h X G (h_fact c0 5 rfl) (h_fact c0 6 rfl) (h_fact c0 7 rfl) (h_fact c0 8 rfl) ⟨He.noat_ok (h_fact c0 9 rfl), He.noat_ok (h_fact c0 10 rfl), He.noat_ok (h_fact c0 11 rfl), He.noat_ok (h_fact c0 12 rfl), trivial⟩ (h_ex c0 2 rfl) (h_ex c0 3 rfl) (h_def c2 1 rfl) (fun _ _ _ _ _ _ us hl => match us, hl with | [_, _, _, _, _], _ => rfl)
  kVaried := cls_h X G (h_fact c0 13 rfl) (h_fact c0 14 rfl) (h_fact c0 15 rfl) (h_fact c0 16 rfl) ⟨He.noat_ok (h_fact c0 17 rfl), He.noat_ok (h_fact c0 18 rfl), He.noat_ok (h_fact c0 19 rfl), He.noat_ok (h_fact c0 20 rfl), He.noat_ok (h_fact c0 21 rfl), trivial⟩ (h_ex c0 4 rfl) (h_ex c0 5 rfl) (h_def c2 2 rfl) (fun _ _ _ _ _ _ us hl => match us, hl with | [_, _, _, _, _, _], _ => rfl)
  kOrdinary := cls_h X G (h_fact c0 22 rfl) (h_fact c0 23 rfl) (h_fact c0 24 rfl) (h_fact c0 25 rfl) ⟨He.noat_ok (h_fact c0 26 rfl), He.noat_ok (h_fact c0 27 rfl), He.noat_ok (h_fact c0 28 rfl), trivial⟩ (h_ex c0 6 rfl) (h_ex c0 7 rfl) (h_def c2 3 rfl) (fun _ _ _ _ _ _ us hl => match us, hl with | [_, _, _, _], _ => rfl)
  kGroup := cls_h X G (h_fact c0 29 rfl) (h_fact c0 30 rfl) (h_fact c0 31 rfl) (h_fact c0 32 rfl) ⟨He.noat_ok (h_fact c0 33 rfl), He.noat_ok (h_fact c0 34 rfl), He.noat_ok (h_fact c0 35 rfl), He.noat_ok (h_fact c0 36 rfl), He.noat_ok (h_fact c0 37 rfl), trivial⟩ (h_ex c0 8 rfl) (h_ex c0 9 rfl) (h_def c2 4 rfl) (fun _ _ _ _ _ _ us hl => match us, hl with | [_, _, _, _, _, _], _ => rfl)
  kArms := cls_h X G (h_fact c0 38 rfl) (h_fact c0 39 rfl) (h_fact c0 40 rfl) (h_fact c0 41 rfl) ⟨He.noat_ok (h_fact c0 42 rfl), He.noat_ok (h_fact c0 43 rfl), trivial⟩ (h_ex c0 10 rfl) (h_ex c0 11 rfl) (h_def c2 5 rfl) (fun _ _ _ _ _ _ us hl => match us, hl with | [_, _, _], _ => rfl)
  kMark := cls_h X G (h_fact c0 44 rfl) (h_fact c0 45 rfl) (h_fact c0 46 rfl) (h_fact c0 47 rfl) ⟨He.noat_ok (h_fact c0 48 rfl), He.noat_ok (h_fact c0 49 rfl), trivial⟩ (h_ex c0 12 rfl) (h_ex c0 13 rfl) (h_def c2 6 rfl) (fun _ _ _ _ _ _ us hl => match us, hl with | [_, _, _], _ => rfl)
  kMarked := cls_h X G (h_fact c0 50 rfl) (h_fact c0 51 rfl) (h_fact c0 52 rfl) (h_fact c0 53 rfl) ⟨He.noat_ok (h_fact c0 54 rfl), He.noat_ok (h_fact c0 55 rfl), He.noat_ok (h_fact c0 56 rfl), trivial⟩ (h_ex c0 14 rfl) (h_ex c0 15 rfl) (h_def c2 7 rfl) (fun _ _ _ _ _ _ us hl => match us, hl with | [_, _, _, _], _ => rfl)
  kQuarterly := cls_h X G (h_fact c0 57 rfl) (h_fact c0 58 rfl) (h_fact c0 59 rfl) (h_fact c0 60 rfl) ⟨He.noat_ok (h_fact c0 61 rfl), trivial⟩ (h_ex c0 16 rfl) (h_ex c0 17 rfl) (h_def c2 8 rfl) (fun _ _ _ _ _ _ us hl => match us, hl with | [_, _], _ => rfl)
  kImpaled := cls_h X G (h_fact c0 62 rfl) (h_fact c0 63 rfl) (h_fact c0 64 rfl) (h_fact c0 65 rfl) ⟨He.noat_ok (h_fact c0 66 rfl), He.noat_ok (h_fact c0 67 rfl), trivial⟩ (h_ex c0 18 rfl) (h_ex c0 19 rfl) (h_def c2 9 rfl) (fun _ _ _ _ _ _ us hl => match us, hl with | [_, _, _], _ => rfl)
  kPretence := cls_h X G (h_fact c0 68 rfl) (h_fact c0 69 rfl) (h_fact c0 70 rfl) (h_fact c0 71 rfl) ⟨He.noat_ok (h_fact c0 72 rfl), He.noat_ok (h_fact c0 73 rfl), trivial⟩ (h_ex c0 20 rfl) (h_ex c0 21 rfl) (h_def c2 10 rfl) (fun _ _ _ _ _ _ us hl => match us, hl with | [_, _, _], _ => rfl)
  kCursor := cls_h X G (h_fact c0 74 rfl) (h_fact c0 75 rfl) (h_fact c0 76 rfl) (h_fact c0 77 rfl) ⟨He.noat_ok (h_fact c0 78 rfl), He.noat_ok (h_fact c0 79 rfl), trivial⟩ (h_ex c0 22 rfl) (h_ex c0 23 rfl) (h_def c2 11 rfl) (fun _ _ _ _ _ _ us hl => match us, hl with | [_, _], _ => rfl)
  kCursor_sign := met_h (h_fact c0 80 rfl) (h_def c2 12 rfl) (fun _ _ _ _ _ _ us hl => match us, hl with | [_], _ => rfl)
  kCursor_skip_blanks := met_h (h_fact c0 81 rfl) (h_def c2 13 rfl) (fun _ _ _ _ _ _ us hl => match us, hl with | [_], _ => rfl)
  kCursor_take_sign := met_h (h_fact c0 82 rfl) (h_def c2 14 rfl) (fun _ _ _ _ _ _ us hl => match us, hl with | [_], _ => rfl)
  kCursor_take_letters := met_h (h_fact c0 83 rfl) (h_def c2 15 rfl) (fun _ _ _ _ _ _ us hl => match us, hl with | [_], _ => rfl)
  kCursor_take_digits := met_h (h_fact c0 84 rfl) (h_def c2 16 rfl) (fun _ _ _ _ _ _ us hl => match us, hl with | [_], _ => rfl)
  kToken := cls_h X G (h_fact c0 85 rfl) (h_fact c0 86 rfl) (h_fact c0 87 rfl) (h_fact c0 88 rfl) ⟨He.noat_ok (h_fact c0 89 rfl), He.noat_ok (h_fact c0 90 rfl), trivial⟩ (h_ex c0 24 rfl) (h_ex c0 25 rfl) (h_def c2 17 rfl) (fun _ _ _ _ _ _ us hl => match us, hl with | [_, _, _], _ => rfl)
  kTokens := cls_h X G (h_fact c0 91 rfl) (h_fact c0 92 rfl) (h_fact c0 93 rfl) (h_fact c0 94 rfl) ⟨He.noat_ok (h_fact c0 95 rfl), He.noat_ok (h_fact c0 96 rfl), trivial⟩ (h_ex c0 26 rfl) (h_ex c0 27 rfl) (h_def c2 18 rfl) (fun _ _ _ _ _ _ us hl => match us, hl with | [_, _], _ => rfl)
  kTokens_peek := met_h (h_fact c0 97 rfl) (h_def c2 19 rfl) (fun _ _ _ _ _ _ us hl => match us, hl with | [_], _ => rfl)
  kTokens_take := met_h (h_fact c0 98 rfl) (h_def c2 20 rfl) (fun _ _ _ _ _ _ us hl => match us, hl with | [_], _ => rfl)
  xMisread := low_h X G (h_fact c0 99 rfl) (h_fact c0 100 rfl) (h_ex c0 28 rfl) (h_fact c0 101 rfl) (h_fact c0 102 rfl) (h_fact c0 103 rfl) (h_ex c0 29 rfl) (h_ex c0 30 rfl) (h_ex c0 31 rfl) (h_fact c0 104 rfl) (h_ex c0 32 rfl) (h_ex c0 33 rfl) (h_ex c0 34 rfl) (h_def c2 21 rfl) (h_ex c0 35 rfl)
  k_coats_in := def_h X G (h_fact c0 105 rfl) (h_fact c0 106 rfl) (h_def c2 22 rfl) (fun _ _ _ _ _ _ us hl => match us, hl with | [_], _ => rfl)
  k_field_bytes := def_h X G (h_fact c0 107 rfl) (h_fact c0 108 rfl) (h_def c3 0 rfl) (fun _ _ _ _ _ _ us hl => match us, hl with | [_], _ => rfl)
  k_fill_bytes := def_h X G (h_fact c0 109 rfl) (h_fact c0 110 rfl) (h_def c3 1 rfl) (fun _ _ _ _ _ _ us hl => match us, hl with | [_], _ => rfl)
  k_layer_bytes := def_h X G (h_fact c0 111 rfl) (h_fact c0 112 rfl) (h_def c3 2 rfl) (fun _ _ _ _ _ _ us hl => match us, hl with | [_], _ => rfl)
  k_arms_bytes := def_h X G (h_fact c0 113 rfl) (h_fact c0 114 rfl) (h_def c3 3 rfl) (fun _ _ _ _ _ _ us hl => match us, hl with | [_], _ => rfl)
  k_canton_bytes := def_h X G (h_fact c0 115 rfl) (h_fact c0 116 rfl) (h_def c3 4 rfl) (fun _ _ _ _ _ _ us hl => match us, hl with | [_], _ => rfl)
  k_marked_bytes := def_h X G (h_fact c0 117 rfl) (h_fact c0 118 rfl) (h_def c3 5 rfl) (fun _ _ _ _ _ _ us hl => match us, hl with | [_], _ => rfl)
  k_head_bytes := def_h X G (h_fact c0 119 rfl) (h_fact c0 120 rfl) (h_def c3 6 rfl) (fun _ _ _ _ _ _ us hl => match us, hl with | [_], _ => rfl)
  k_coat_bytes := def_h X G (h_fact c0 121 rfl) (h_fact c0 122 rfl) (h_def c3 7 rfl) (fun _ _ _ _ _ _ us hl => match us, hl with | [_], _ => rfl)
  k_article_before := def_h X G (h_fact c0 123 rfl) (h_fact c1 0 rfl) (h_def c3 8 rfl) (fun _ _ _ _ _ _ us hl => match us, hl with | [_], _ => rfl)
  k_several := def_h X G (h_fact c1 1 rfl) (h_fact c1 2 rfl) (h_def c3 9 rfl) (fun _ _ _ _ _ _ us hl => match us, hl with | [_], _ => rfl)
  k_text_of := def_h X G (h_fact c1 3 rfl) (h_fact c1 4 rfl) (h_def c3 10 rfl) (fun _ _ _ _ _ _ us hl => match us, hl with | [_], _ => rfl)
  k_is_number := def_h X G (h_fact c1 5 rfl) (h_fact c1 6 rfl) (h_def c3 11 rfl) (fun _ _ _ _ _ _ us hl => match us, hl with | [_], _ => rfl)
  k_take_content := def_h X G (h_fact c1 7 rfl) (h_fact c1 8 rfl) (h_def c3 12 rfl) (fun _ _ _ _ _ _ us hl => match us, hl with | [_], _ => rfl)
  k_take_word := def_h X G (h_fact c1 9 rfl) (h_fact c1 10 rfl) (h_def c3 13 rfl) (fun _ _ _ _ _ _ us hl => match us, hl with | [_, _], _ => rfl)
  k_pass_word_blazons := defa_h X G (h_fact c1 11 rfl) (h_fact c1 12 rfl) (h_def c3 14 rfl) (fun _ _ _ _ _ _ us hl => match us, hl with | [_, _], _ => rfl)
  k_take_name := dfl_h (n := 2) X G (h_fact c1 13 rfl) (h_dfl c4 0 rfl) (fun _ _ _ _ _ _ _ us its hl hi => match us, hl, its, hi with | [_, _, _], _, [_], _ => ⟨_, rfl, rfl⟩) (fun _ _ _ _ _ _ _ us its hl hi => match us, hl, its, hi with | [_, _], _, [_], _ => ⟨_, rfl, rfl⟩)
  k_take_tincture := def_h X G (h_fact c1 14 rfl) (h_fact c1 15 rfl) (h_def c3 15 rfl) (fun _ _ _ _ _ _ us hl => match us, hl with | [_], _ => rfl)
  k_take_second_tincture := def_h X G (h_fact c1 16 rfl) (h_fact c1 17 rfl) (h_def c3 16 rfl) (fun _ _ _ _ _ _ us hl => match us, hl with | [_, _], _ => rfl)
  k_take_pieces := def_h X G (h_fact c1 18 rfl) (h_fact c1 19 rfl) (h_def c3 17 rfl) (fun _ _ _ _ _ _ us hl => match us, hl with | [_], _ => rfl)
  k_take_line := def_h X G (h_fact c1 20 rfl) (h_fact c1 21 rfl) (h_def c3 18 rfl) (fun _ _ _ _ _ _ us hl => match us, hl with | [_], _ => rfl)
  k_read_parted := def_h X G (h_fact c1 22 rfl) (h_fact c1 23 rfl) (h_def c3 19 rfl) (fun _ _ _ _ _ _ us hl => match us, hl with | [_, _], _ => rfl)
  k_read_varied := def_h X G (h_fact c1 24 rfl) (h_fact c1 25 rfl) (h_def c3 20 rfl) (fun _ _ _ _ _ _ us hl => match us, hl with | [_], _ => rfl)
  k_read_field := def_h X G (h_fact c1 26 rfl) (h_fact c1 27 rfl) (h_def c3 21 rfl) (fun _ _ _ _ _ _ us hl => match us, hl with | [_], _ => rfl)
  k_read_fill := def_h X G (h_fact c1 28 rfl) (h_fact c1 29 rfl) (h_def c3 22 rfl) (fun _ _ _ _ _ _ us hl => match us, hl with | [_, _], _ => rfl)
  k_take_size := def_h X G (h_fact c1 30 rfl) (h_fact c1 31 rfl) (h_def c4 0 rfl) (fun _ _ _ _ _ _ us hl => match us, hl with | [_], _ => rfl)
  k_take_manner := def_h X G (h_fact c1 32 rfl) (h_fact c1 33 rfl) (h_def c4 1 rfl) (fun _ _ _ _ _ _ us hl => match us, hl with | [_], _ => rfl)
  k_read_ordinary := def_h X G (h_fact c1 34 rfl) (h_fact c1 35 rfl) (h_def c4 2 rfl) (fun _ _ _ _ _ _ us hl => match us, hl with | [_, _], _ => rfl)
  k_read_group := def_h X G (h_fact c1 36 rfl) (h_fact c1 37 rfl) (h_def c4 3 rfl) (fun _ _ _ _ _ _ us hl => match us, hl with | [_, _, _, _], _ => rfl)
  k_check_article := def_h X G (h_fact c1 38 rfl) (h_fact c1 39 rfl) (h_def c4 4 rfl) (fun _ _ _ _ _ _ us hl => match us, hl with | [_, _], _ => rfl)
  k_read_behind_article := def_h X G (h_fact c1 40 rfl) (h_fact c1 41 rfl) (h_def c4 5 rfl) (fun _ _ _ _ _ _ us hl => match us, hl with | [_, _], _ => rfl)
  k_read_layer := def_h X G (h_fact c1 42 rfl) (h_fact c1 43 rfl) (h_def c4 6 rfl) (fun _ _ _ _ _ _ us hl => match us, hl with | [_, _], _ => rfl)
  k_read_arms := def_h X G (h_fact c1 44 rfl) (h_fact c1 45 rfl) (h_def c4 7 rfl) (fun _ _ _ _ _ _ us hl => match us, hl with | [_], _ => rfl)
  k_want_sign := def_h X G (h_fact c1 46 rfl) (h_fact c1 47 rfl) (h_def c4 8 rfl) (fun _ _ _ _ _ _ us hl => match us, hl with | [_, _], _ => rfl)
  k_want_sign_behind_blanks := def_h X G (h_fact c1 48 rfl) (h_fact c1 49 rfl) (h_def c4 9 rfl) (fun _ _ _ _ _ _ us hl => match us, hl with | [_, _], _ => rfl)
  k_pass_sign := def_h X G (h_fact c1 50 rfl) (h_fact c1 51 rfl) (h_def c4 10 rfl) (fun _ _ _ _ _ _ us hl => match us, hl with | [_, _], _ => rfl)
  k_pass_word_reading := defa_h X G (h_fact c1 52 rfl) (h_fact c1 53 rfl) (h_def c4 11 rfl) (fun _ _ _ _ _ _ us hl => match us, hl with | [_, _], _ => rfl)
  k_read_blazon := def_h X G (h_fact c1 54 rfl) (h_fact c1 55 rfl) (h_def c4 12 rfl) (fun _ _ _ _ _ _ us hl => match us, hl with | [_], _ => rfl)
  k_take_mark_number := def_h X G (h_fact c1 56 rfl) (h_fact c1 57 rfl) (h_def c4 13 rfl) (fun _ _ _ _ _ _ us hl => match us, hl with | [_], _ => rfl)
  k_read_mark := def_h X G (h_fact c1 58 rfl) (h_fact c1 59 rfl) (h_def c4 14 rfl) (fun _ _ _ _ _ _ us hl => match us, hl with | [_], _ => rfl)
  k_read_marks := def_h X G (h_fact c1 60 rfl) (h_fact c1 61 rfl) (h_def c4 15 rfl) (fun _ _ _ _ _ _ us hl => match us, hl with | [_], _ => rfl)
  k_read_marked := def_h X G (h_fact c1 62 rfl) (h_fact c1 63 rfl) (h_def c4 16 rfl) (fun _ _ _ _ _ _ us hl => match us, hl with | [_], _ => rfl)
  k_read_quarterly := def_h X G (h_fact c1 64 rfl) (h_fact c1 65 rfl) (h_def c4 17 rfl) (fun _ _ _ _ _ _ us hl => match us, hl with | [_, _, _], _ => rfl)
  k_read_two := def_h X G (h_fact c1 66 rfl) (h_fact c1 67 rfl) (h_def c4 18 rfl) (fun _ _ _ _ _ _ us hl => match us, hl with | [_, _], _ => rfl)
  k_read_coats := def_h X G (h_fact c1 68 rfl) (h_fact c1 69 rfl) (h_def c4 19 rfl) (fun _ _ _ _ _ _ us hl => match us, hl with | [_, _], _ => rfl)
  k_read_coat := def_h X G (h_fact c1 70 rfl) (h_fact c1 71 rfl) (h_def c4 20 rfl) (fun _ _ _ _ _ _ us hl => match us, hl with | [_, _], _ => rfl)
  k_read_words := def_h X G (h_fact c1 72 rfl) (h_fact c1 73 rfl) (h_def c4 21 rfl) (fun _ _ _ _ _ _ us hl => match us, hl with | [_], _ => rfl)
  k_counted := def_h X G (h_fact c1 74 rfl) (h_fact c1 75 rfl) (h_def c4 22 rfl) (fun _ _ _ _ _ _ us hl => match us, hl with | [_], _ => rfl)
  k_read := def_h X G (h_fact c1 76 rfl) (h_fact c1 77 rfl) (h_def c4 23 rfl) (fun _ _ _ _ _ _ us hl => match us, hl with | [_], _ => rfl)
  nFEWEST_PIECES := He.int_ok X G (h_fact c1 78 rfl)
  nMOST_PIECES := He.int_ok X G (h_fact c1 79 rfl)
  nFIRST_STRAIGHT_WAY := He.int_ok X G (h_fact c1 80 rfl)
  nMOST_LAYERS := He.int_ok X G (h_fact c1 81 rfl)
  nMOST_MARKS := He.int_ok X G (h_fact c1 82 rfl)
  nMOST_G := He.int_ok X G (h_fact c1 83 rfl)
  nLEAST_K := He.int_ok X G (h_fact c1 84 rfl)
  nMOST_K := He.int_ok X G (h_fact c1 85 rfl)
  nFEWEST_QUARTERS := He.int_ok X G (h_fact c1 86 rfl)
  nMOST_QUARTERS := He.int_ok X G (h_fact c1 87 rfl)
  nMOST_DEEP := He.int_ok X G (h_fact c1 88 rfl)
  nFOREIGN_BYTE := He.int_ok X G (h_fact c1 89 rfl)
  nNO_NUMBER := He.int_ok X G (h_fact c1 90 rfl)
  nOTHER_TOKEN := He.int_ok X G (h_fact c1 91 rfl)
  nWRONG_PIECES := He.int_ok X G (h_fact c1 92 rfl)
  nSAME_TINCTURE := He.int_ok X G (h_fact c1 93 rfl)
  nCHANGED_OVER_PLAIN := He.int_ok X G (h_fact c1 94 rfl)
  nWRONG_ARTICLE := He.int_ok X G (h_fact c1 95 rfl)
  nNINTH_LAYER := He.int_ok X G (h_fact c1 96 rfl)
  nOTHER_SIGN := He.int_ok X G (h_fact c1 97 rfl)
  nMARK_OUT_OF_BOUNDS := He.int_ok X G (h_fact c1 98 rfl)
  nMARK_TOO_MANY := He.int_ok X G (h_fact c1 99 rfl)
  nTOO_DEEP := He.int_ok X G (h_fact c1 100 rfl)
  nWRONG_QUARTERS := He.int_ok X G (h_fact c1 101 rfl)
  nFIRST_SIZE := He.int_ok X G (h_fact c1 102 rfl)
  nFIRST_COUNT := He.int_ok X G (h_fact c1 103 rfl)
  nSTRAIGHT := He.int_ok X G (h_fact c1 104 rfl)
  nBY_ROWS := He.int_ok X G (h_fact c1 105 rfl)
  nUSUAL_SIZE := He.int_ok X G (h_fact c1 106 rfl)
  sSIGNS := He.str_ok X G (h_fact c1 107 rfl)
  sFOREIGN_SIGN := He.str_ok X G (h_fact c1 108 rfl)
  sCOMMA := He.str_ok X G (h_fact c1 109 rfl)
  sEND := He.str_ok X G (h_fact c1 110 rfl)
  tTINCTURES := ⟨_, He.glo_ok X G (h_fact c1 111 rfl), tupAtB_ok (h_ex c0 36 rfl)⟩
  tLINES := ⟨_, He.glo_ok X G (h_fact c1 112 rfl), tupAtB_ok (h_ex c0 37 rfl)⟩
  tPARTED_WAYS := ⟨_, He.glo_ok X G (h_fact c1 113 rfl), tupAtB_ok (h_ex c0 38 rfl)⟩
  tVARIED_WAYS := ⟨_, He.glo_ok X G (h_fact c1 114 rfl), tupAtB_ok (h_ex c0 39 rfl)⟩
  tORDINARIES := ⟨_, He.glo_ok X G (h_fact c1 115 rfl), tupAtB_ok (h_ex c0 40 rfl)⟩
  tCHARGES := ⟨_, He.glo_ok X G (h_fact c1 116 rfl), tupAtB_ok (h_ex c0 41 rfl)⟩
  tMANNERS := ⟨_, He.glo_ok X G (h_fact c1 117 rfl), tupAtB_ok (h_ex c0 42 rfl)⟩
  tSIZES := ⟨_, He.glo_ok X G (h_fact c1 118 rfl), tupAtB_ok (h_ex c0 43 rfl)⟩
  tCOUNTS := ⟨_, He.glo_ok X G (h_fact c1 119 rfl), tupAtB_ok (h_ex c0 44 rfl)⟩
  b_len := He.free_ok X G (h_fact c1 120 rfl)
  b_isinstance := He.free_ok X G (h_fact c1 121 rfl)
  b_list := He.free_ok X G (h_fact c1 122 rfl)
  b_ord := He.free_ok X G (h_fact c1 123 rfl)
  b_int := He.free_ok X G (h_fact c1 124 rfl)
  gs := He.eqO_ok (h_ex c0 45 rfl)
  tk := of_decide_eq_true (h_ex c0 46 rfl)
  iMarked_Impaled := of_decide_eq_true (h_ex c0 47 rfl)
  iQuarterly_Impaled := of_decide_eq_true (h_ex c0 48 rfl)
  iImpaled_Impaled := of_decide_eq_true (h_ex c0 49 rfl)
  iPretence_Impaled := of_decide_eq_true (h_ex c0 50 rfl)
  iMarked_Marked := of_decide_eq_true (h_ex c0 51 rfl)
  iQuarterly_Marked := of_decide_eq_true (h_ex c0 52 rfl)
  iImpaled_Marked := of_decide_eq_true (h_ex c0 53 rfl)
  iPretence_Marked := of_decide_eq_true (h_ex c0 54 rfl)
  iOrdinary_Ordinary := of_decide_eq_true (h_ex c0 55 rfl)
  iGroup_Ordinary := of_decide_eq_true (h_ex c0 56 rfl)
  iParted_Parted := of_decide_eq_true (h_ex c0 57 rfl)
  iVaried_Parted := of_decide_eq_true (h_ex c0 58 rfl)
  iPlain_Plain := of_decide_eq_true (h_ex c0 59 rfl)
  iParted_Plain := of_decide_eq_true (h_ex c0 60 rfl)
  iVaried_Plain := of_decide_eq_true (h_ex c0 61 rfl)
  iMarked_Quarterly := of_decide_eq_true (h_ex c0 62 rfl)
  iQuarterly_Quarterly := of_decide_eq_true (h_ex c0 63 rfl)
  iImpaled_Quarterly := of_decide_eq_true (h_ex c0 64 rfl)
  iPretence_Quarterly := of_decide_eq_true (h_ex c0 65 rfl)
def names0 : List PySem.Str := ["FEWEST_PIECES",
  "MOST_PIECES",
  "FIRST_STRAIGHT_WAY",
  "MOST_LAYERS",
  "MOST_MARKS",
  "MOST_G",
  "LEAST_K",
  "MOST_K",
  "FEWEST_QUARTERS",
  "MOST_QUARTERS",
  "MOST_DEEP",
  "Plain",
  "Parted",
  "Varied",
  "Ordinary",
  "Group",
  "Arms",
  "Mark",
  "Marked",
  "Quarterly",
  "Impaled",
  "Pretence",
  "coats_in",
  "field_bytes",
  "fill_bytes",
  "layer_bytes",
  "arms_bytes",
  "canton_bytes",
  "marked_bytes",
  "head_bytes"]
def names1 : List PySem.Str := ["coat_bytes",
  "FOREIGN_BYTE",
  "NO_NUMBER",
  "OTHER_TOKEN",
  "WRONG_PIECES",
  "SAME_TINCTURE",
  "CHANGED_OVER_PLAIN",
  "WRONG_ARTICLE",
  "NINTH_LAYER",
  "OTHER_SIGN",
  "MARK_OUT_OF_BOUNDS",
  "MARK_TOO_MANY",
  "TOO_DEEP",
  "WRONG_QUARTERS",
  "Misread",
  "TINCTURES",
  "LINES",
  "PARTED_WAYS",
  "VARIED_WAYS",
  "ORDINARIES",
  "CHARGES",
  "MANNERS",
  "SIZES",
  "COUNTS",
  "FIRST_SIZE",
  "FIRST_COUNT",
  "STRAIGHT",
  "BY_ROWS",
  "USUAL_SIZE",
  "article_before"]
def names2 : List PySem.Str := ["several",
  "SIGNS",
  "FOREIGN_SIGN",
  "text_of",
  "Cursor",
  "is_number",
  "COMMA",
  "END",
  "Token",
  "take_content",
  "Tokens",
  "take_word",
  "pass_word",
  "pass_word_blazons",
  "take_name",
  "take_tincture",
  "take_second_tincture",
  "take_pieces",
  "take_line",
  "read_parted",
  "read_varied",
  "read_field",
  "read_fill",
  "take_size",
  "take_manner",
  "read_ordinary",
  "read_group",
  "check_article",
  "read_behind_article",
  "read_layer"]
def names3 : List PySem.Str := ["read_arms",
  "want_sign",
  "want_sign_behind_blanks",
  "pass_sign",
  "pass_word_reading",
  "read_blazon",
  "take_mark_number",
  "read_mark",
  "read_marks",
  "read_marked",
  "read_quarterly",
  "read_two",
  "read_coats",
  "read_coat",
  "read_words",
  "counted"]
def names : List PySem.Str := names0 ++ (names1 ++ (names2 ++ (names3)))
abbrev hrow : PySem.W.OpenSpec := PySem.Challenge.rw_heraldcoats_s06_read
abbrev hview : Program := PySem.W.view hrow.prog [117]
abbrev hk : PySem.W.Hook := hookT 11 1300 hparts
def hob (z : PySem.W.SharedT) : List (Bool × AlH) := obT 11 1300 hparts (HandSHeadRun.getT z)
theorem hob_eq (z : PySem.W.SharedT) : hob z = hk.obs z.abs := obT_eq (HandSHeadRun.getT_eq z)
abbrev hdef : DefRec := HandSHeadRun.topDef hrow.prog 117
noncomputable abbrev hend (w : World) (os : OsState) : Option PySem.W.SharedT := HandSHeadRun.endF (HandSHeadRun.stepQ (HandSHeadRun.denQ HandSHeadRun.tabQ) hrow.prog w) 8000 hrow.prog w os
set_option maxHeartbeats 0 in
theorem hrun_y (w : World) (os : OsState) : (hend w os).map (fun s => HandSHeadRun.looksF hrow.prog (PySem.W.boot_heap w.params) s.abs) = some true := by
  kernel_rfl
set_option maxHeartbeats 0 in
theorem hrun_x (w : World) (os : OsState) : (hend w os).map (fun s => HandSHeadRun.seenQ hview names (importedModules hrow.prog.main.body) (fun s => PySem.W.xlAt hview [] s && PySem.W.recOk [] s) s.abs) = some (PySem.W.openGood hview names) := by
  kernel_rfl
theorem hrun_z (w : World) (os : OsState) : (hend w os).map (fun s => (HandSHeadRun.looksF hrow.prog (PySem.W.boot_heap w.params) s.abs, HandSHeadRun.seenQ hview names (importedModules hrow.prog.main.body) (fun s => PySem.W.xlAt hview [] s && PySem.W.recOk [] s) s.abs)) = some (true, PySem.W.openGood hview names) := two_maps (hrun_y w os) (hrun_x w os)
set_option maxHeartbeats 0 in
theorem hrun_0 (w : World) (os : OsState) : (hend w os).map (fun s => hp0.ob 11 1300 (HandSHeadRun.getT s)) = some hp0.val := by
  kernel_rfl
set_option maxHeartbeats 0 in
theorem hrun_1 (w : World) (os : OsState) : (hend w os).map (fun s => hp1.ob 11 1300 (HandSHeadRun.getT s)) = some hp1.val := by
  kernel_rfl
set_option maxHeartbeats 0 in
theorem hrun_2 (w : World) (os : OsState) : (hend w os).map (fun s => hp2.ob 11 1300 (HandSHeadRun.getT s)) = some hp2.val := by
  kernel_rfl
set_option maxHeartbeats 0 in
theorem hrun_3 (w : World) (os : OsState) : (hend w os).map (fun s => hp3.ob 11 1300 (HandSHeadRun.getT s)) = some hp3.val := by
  kernel_rfl
set_option maxHeartbeats 0 in
theorem hrun_4 (w : World) (os : OsState) : (hend w os).map (fun s => hp4.ob 11 1300 (HandSHeadRun.getT s)) = some hp4.val := by
  kernel_rfl
theorem hrun (w : World) : HandSHeadRun.RunEqS hrow hview hk hob 8000 names w := by
  intro os
  refine runs_join (o := hend w os) (hrun_z w os) fun x hx => ?_
  simp only [hparts, List.mem_cons, List.not_mem_nil, or_false] at hx
  rcases hx with rfl | rfl | rfl | rfl | rfl
  · exact hrun_0 w os
  · exact hrun_1 w os
  · exact hrun_2 w os
  · exact hrun_3 w os
  · exact hrun_4 w os
end HC
namespace HC
open PySem PySem.Spec PyProof.Rows L2 LamX
theorem fin {P : Program} {w : World} {K : PySem.W.Frag} {mg : Str → Option Value} {d : Ad} (T : Txt K mg d) {fa : Addr} (hfa : mg "read" = some (.ref fa)) :
    ∃ fd : FuncData, (∀ (s : Shared) (us : List Value), us.length = (["t"] : List Str).length → BindsTo s fd ⟨us, []⟩ ((["t"] : List Str).zip us)) ∧
    ∀ base : Heap, K.In base → base.Ns mainGlobals mg → (∀ p ∈ mainTabs d, TabB base mg p.1 p.2) → FnOk P w K mg base CX0 42 fa fd ["t"] (spTop K (mainTabs d)) := by
  have e := hfa.symm.trans T.k_read.gl
  cases e
  obtain ⟨fd, F, B⟩ := T.k_read.ex
  refine ⟨fd, ?_, fun base _ _ TB => ok_top T TB F⟩
  obtain ⟨oc, od, kV, doc, pm, an, cdv, ct, osl, rfl, lk, hcd⟩ := F.ex
  exact fun s us hu => match us, hu with | [_], _ => .of_eq rfl
open PySem.W (Codec) in
theorem call_top (K : PySem.W.Frag) (cs : List (Addr × Addr)) (H : L2.Hp) (xs : List L2.V) (a : Codec.denoteAll PySem.Challenge.rw_heraldcoats_s06_read.args) (hT : ∀ p ∈ cs, H p.2 = some (.tbl #[])) (hwi : Codec.withinAll PySem.Challenge.rw_heraldcoats_s06_read.args a = true) (hx : L2.DwAll K H xs (Codec.encAll PySem.Challenge.rw_heraldcoats_s06_read.args a)) :
    spTop K cs xs H (fun v H' => L2.Dw K H' v (PySem.Challenge.rw_heraldcoats_s06_read.ret.enc (Codec.app PySem.Challenge.rw_heraldcoats_s06_read.args PySem.Challenge.rw_heraldcoats_s06_read.f a))) fun _ _ _ => False := by
  cases hx with
  | cons h1 h2 =>
    cases h2
    cases h1 with
    | lst hs ha =>
      have e := L2.ints_dw a.1 _ ha
      subst e
      have q : ((Codec.inLen 0 4096 a.1 && a.1.all (Codec.inInt 0 255)) && true) = true := hwi
      rw [Bool.and_eq_true, Bool.and_eq_true] at q
      have ql : a.1.length ≤ 4096 := by
        have z : (decide (0 ≤ a.1.length) && decide (a.1.length ≤ 4096)) = true := q.1.1
        rw [Bool.and_eq_true, decide_eq_true_eq, decide_eq_true_eq] at z
        exact z.2
      exact ⟨_, a.1, rfl, hT, hs, ql, byt_of q.1.2, fun H' p hp => .lst (L2.SqL.of hp) (L2.dw_ints _)⟩
end HC
open PySem PySem.W PyProof.Rows
set_option maxRecDepth 100000 in
set_option maxHeartbeats 0 in
theorem PySem.Challenge.cw_heraldcoats_s06_read_holds : PySem.Challenge.rw_heraldcoats_s06_read.Holds := by
  refine HandSHeadRun.head_spec (r := PySem.Challenge.rw_heraldcoats_s06_read) (q := HC.hview) (H := HC.hk) (ob := HC.hob) (M := 8000) (loose := HC.names) (d := HC.hdef) (kwd := []) HC.hob_eq (by kernel_rfl) (fun s => by kernel_rfl) HC.hrun (by kernel_rfl) (by kernel_rfl) (by kernel_rfl) os_shapes (by decide +kernel) (by decide +kernel)
    ⟨rfl, rfl, rfl, rfl, rfl, by decide +kernel⟩ ?hw ?hc
  case hw => exact ⟨[.list []], by decide +kernel, by decide +kernel⟩
  case hc =>
    refine HC.walk_tabs (r := PySem.Challenge.rw_heraldcoats_s06_read) (k := 42) (CX := L2.CX0) (ps := ["t"]) (sp := HC.spTop) ⟨rfl, by decide, by decide⟩ (by decide +kernel) rfl ?F ?S (fun _ _ _ _ z => z)
    case F =>
      intro w mg fa h Y G hmg
      obtain ⟨K, c⟩ := Y
      have T := HC.txt_of c.kin G (c.ob HC.hp0 List.mem_cons_self) (c.ob HC.hp1 (List.mem_cons_of_mem _ List.mem_cons_self)) (c.ob HC.hp2 (List.mem_cons_of_mem _ (List.mem_cons_of_mem _ List.mem_cons_self))) (c.ob HC.hp3 (List.mem_cons_of_mem _ (List.mem_cons_of_mem _ (List.mem_cons_of_mem _ List.mem_cons_self)))) (c.ob HC.hp4 (List.mem_cons_of_mem _ (List.mem_cons_of_mem _ (List.mem_cons_of_mem _ (List.mem_cons_of_mem _ List.mem_cons_self)))))
      have hmg' : mg ("read" : PySem.Str) = some (.ref fa) := by
        have e : HC.hdef.name = ("read" : PySem.Str) := by kernel_rfl
        rw [← e]
        exact hmg
      refine ⟨K, HC.mainTabs (HC.adOf K), c.kin, ?_, ?_, ?_, HC.fin T hmg'⟩
      · intro p hp
        cases hp
      · intro p hp
        cases hp
      · intro p hp
        cases hp
    case S => exact fun K cs H xs a hT hwi hx => HC.call_top K cs H xs a hT hwi hx
#print axioms PySem.Challenge.cw_heraldcoats_s06_read_holds
