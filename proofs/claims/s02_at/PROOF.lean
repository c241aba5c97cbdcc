import PyProof.Rows.All
import Wide.All
import OpenK.AllK
import Wide.FinOn
import PyProof.EqAt
import PyProof.EqKinds
import PyProof.TupleCall
import Open.SpecLaws
import KE.OsGo
import PySem.Challenge.RW_heraldcoats_s02_at
import HandS.ForSpec
import HandS.IsInst
import HandS.ExcSuper
import KE.DatumOrd
import KE.GoesEnum
import HandS.Iter
import HandS.Comp
import HandS.Rev
import HandS.Lambda
import HandS.Nested
import HandS.SortKw
import KE.KStateDown
import HandS.Defaults
import HandS.Head0
import HandS.Head1
import HandS.Head2
import HandS.Head3
import HandS.Head4
import HandS.HeadHook1
import HandS.HeadHook2
set_option Elab.async false
set_option linter.all false
set_option maxRecDepth 100000
set_option maxHeartbeats 4000000
namespace PySem
namespace LowX
open PySem.W PySem.Calls PyProof.Rows PySem.HandSPX
/-! ### the text of __init__ -/
def iA (p1 p2 : Pos) : Arguments := { posonlyargs := [], args := [{ arg := "self", annotation := none, pos := p1 }, { arg := "place", annotation := none, pos := p2 }], vararg := none, kwonlyargs := [], kw_defaults := [], kwarg := none, defaults := [] }
def iB (q1 q2 q3 q4 : Pos) : List Stmt := [.Assign [.Attribute (.Name "self" q1) "place" q2] (.Name "place" q3) q4]
def iS : Scope := { kind := .function, names := [(PySem.Str.ofString "self", .local), (PySem.Str.ofString "place", .local)], isGenerator := false, isCoroutine := false, more := [] }
/-- what the written part says of Low, at C, and of its __init__, at fI -/
structure LowTxt (K : Frag) (mg : Str → Option Value) (C fI : Addr) : Prop where
  gC : mg "Misplaced" = some (.ref C)
  cls : ∃ nm q N bs sn sub ab col dd k0 k1 k2 k3 k5, K.lookup C = some (excClassObj nm q C N bs PySem.ESX.exTail true sn sub ab col dd k0 k1 k2 k3 k5 "Exception.__new__")
  sa : findIn K (.ref C) "__setattr__" = some (some (.builtin "object.__setattr__"))
  ga : findIn K (.ref C) "__getattribute__" = some (some (.builtin "BaseException.__getattribute__"))
  gg : findIn K (.ref C) "__getattr__" = some none
  noN : findIn K (.ref C) "place" = some none
  iC : findIn K (.ref C) "__init__" = some (some (.ref fI))
  tC : typeIn K (.ref fI) = some (.type "function")
  kC : keepIn K (.ref C) = true
  exC : subIn K (.ref C) (.type "BaseException") = some true
  tyC : typeIn K (.ref C) = some (.type "type")
  hdC : hasDictIn K C = true
  te : exmOne K (.ref C) (.ref C) = some true
  fn : ∃ (oc : Value) (od : Option Addr) (doc pm : Value) (an : Option Addr) (cdv ct : Value) (osl : Array (Option Value)) (p1 p2 q1 q2 q3 q4 : Pos),
    K.lookup fI = some ⟨oc, od, .func (fnOf "__init__" "Misplaced.__init__" (iA p1 p2) (iB q1 q2 q3 q4) iS .none .none doc pm an cdv ct), osl⟩ ∧ codeIn K cdv "Misplaced.__init__" = true
theorem one_size (v : Value) : [v].length ≤ sizeLine := by
  rw [sizeLine_eq]
  exact (by decide : 1 ≤ 16777216)
theorem kept_but {K : Frag} {h h' : Heap} {x : Addr} (X : K.In h) (hx : K.lookup x = none) (k : ∀ b o, b ≠ x → h.get? b = some o → h'.get? b = some o) : K.In h' := fun a o e =>
  k a o (fun z => by rw [z, hx] at e; cases e) (X a o e)
theorem ldC {M : Model} {s : Shared} {name : Str} {scope : Scope} {L a : Addr} {cd : Value} {m : Str → Option Value} {x : Str} {pos : Pos} {v : Value} {Q : Value → Shared → Prop} {A : Around} {E : Value → Shared → Prop} (hn : s.heap.Ns L m) (hv : m x = some v) (h : Q v s)
    (hk : scope.kind = .function := by rfl) (hl : (envOfC name scope L a cd).kindOf x = some .local := by rfl) (hd : (x == ("__debug__" : Str)) = false := by decide) :
    wpAny M A (eval (.Name x pos) (envOfC name scope L a cd)) Q E s := wpAny_Name (wpAny_loadName_local hk hl hn hv h) hd
/-- what __init__ leaves of a fresh exception at x -/
structure InitEnd (h h' : Heap) (x C dx t1 : Addr) (v : Value) : Prop where
  keep : ∀ b o, b ≠ x → h.get? b = some o → h'.get? b = some o
  obj : h'.get? x = some { cls := .ref C, dict := some dx, data := .fields #[.ref t1, .none, .none, .none, .bool false, .none] }
  dbig : h.objs.size ≤ dx
  dne : dx ≠ x
  ns : h'.Ns1 dx (fun y => if y = "place" then some v else none)
/-- a made Low -/
structure OwnMade (h h' : Heap) (e C d : Addr) (v : Value) : Prop where
  keep : ∀ b o, h.get? b = some o → h'.get? b = some o
  new : h.objs.size ≤ e
  obj : ∃ oe vs, h'.get? e = some oe ∧ oe.cls = .ref C ∧ oe.dict = some d ∧ oe.data = .fields vs ∧ vs[1]? = some .none
  dbig : h.objs.size ≤ d
  dne : d ≠ e
  ns : h'.Ns1 d (fun y => if y = "place" then some v else none)
section
variable {prog : Program} {w : World} {A : Around} {E : Value → Shared → Prop} {R : Result → Shared → Prop} {s : Shared} {K : Frag} {mg : Str → Option Value} {C fI : Addr}
theorem low_init (T : LowTxt K mg C fI) {x t0 : Addr} {v : Value} (X : K.In s.heap) (hlim : s.heap.NoLimit) (hx : s.heap.get? x = some (excO C t0)) (hnx : K.lookup x = none) (hroom : A.depth < recursionLimit)
    (hq : ∀ h' tk dx, InitEnd s.heap h' x C dx t0 v → R (.ok (.ret .none)) { s with heap := h', toks := tk }) :
    codeAny (model prog w) A (.call (.ref fI) ⟨[.ref x, v], []⟩) R s := by
  obtain ⟨oc, od, doc, pm, an, cdv, ct, osl, p1, p2, q1, q2, q3, q4, ho, hcd⟩ := T.fn
  obtain ⟨nm, q, N, bs, sn, sub, ab, col, dd, k0, k1, k2, k3, k5, hC⟩ := T.cls
  have hcl : clsIn K C = some { name := nm, bases := bs, mro := .ref C :: PySem.ESX.exTail, ns := N, qualname := q, hasDict := true, slotNames := sn, subclasses := sub, abstract := ab, collection := col, hasDel := false } := by unfold clsIn; rw [hC] <;> rfl
  refine Att.call_fn (binds := [("self", .ref x), ("place", v)]) X hlim ho hcd hroom (BindsTo.of_eq (by first | rfl | with_unfolding_all rfl)) (by first | rfl | decide | with_unfolding_all rfl) (fun s₁ IC => ?_) rfl rfl rfl
  obtain ⟨h₁, tk₁, rfl⟩ := IC.toInCall.same
  have k : ∀ b o, s.heap.get? b = some o → h₁.get? b = some o := IC.toInCall.keep
  have hn := IC.toInCall.ns
  have hxL : s.heap.objs.size ≠ x := Nat.ne_of_gt (Heap.lt_size hx)
  have X₁ : K.In h₁ := X.keeps k
  have hx₁ := k _ _ hx
  -- self.place = place
  show wpAny _ _ (execs _ _) _ _ _
  refine wpAny_execs_cons (plainObj_wpAny_Assign_Attribute ?_)
  refine ldC (v := v) hn (by first | rfl | with_unfolding_all rfl | kernel_rfl) (ldC (v := .ref x) hn (by first | rfl | with_unfolding_all rfl | kernel_rfl) ?_)
  refine set_plain X₁ (ox := excO C t0) (od := none) ⟨hx₁, rfl, rfl, trivial⟩ T.sa ?_
  refine PySem.ESX.osa_new X₁ hx₁ hcl rfl rfl T.noN (fun h₃ tk₃ dx k₃ dn dne hx₃ hn₃ => ?_)
  show wpAny _ _ (execs _ _) _ _ _
  have z : s.heap.objs.size < h₁.objs.size := hn.lt
  exact wpAny_execs_nil (hq h₃ tk₃ dx ⟨fun b o hb e => k₃ b o hb (k b o e), hx₃, Nat.le_of_lt (Nat.lt_of_lt_of_le z dn), dne, hn₃⟩)
theorem low_made (T : LowTxt K mg C fI) {v : Value} (X : K.In s.heap) (hlim : s.heap.NoLimit) (hroom : A.depth + 1 < recursionLimit)
    (hq : ∀ h' tk e d, OwnMade s.heap h' e C d v → R (.ok (.ret (.ref e))) { s with heap := h', toks := tk }) :
    codeAny (model prog w) A (.call (.ref C) ⟨[v], []⟩) R s := by
  obtain ⟨nm, q, N, bs, sn, sub, ab, col, dd, k0, k1, k2, k3, k5, hC⟩ := T.cls
  obtain ⟨hp, g, dr, tk, os⟩ := s
  have k : ∀ b o, hp.get? b = some o → ((hp.push (kdv_tup [v])).push (excO C hp.objs.size)).get? b = some o := fun b o e => Heap.get?_push_of_some _ (Heap.get?_push_of_some _ e)
  have hget : ((hp.push (kdv_tup [v])).push (excO C hp.objs.size)).get? (hp.objs.size + 1) = some (excO C hp.objs.size) := by heap_get
  have hnx : K.lookup (hp.objs.size + 1) = none := by
    cases e : K.lookup (hp.objs.size + 1) with
    | none => rfl
    | some o =>
      have z : hp.get? (hp.objs.size + 1) = some o := X _ _ e
      exact absurd (Nat.lt_of_succ_lt (Heap.lt_size z)) (Nat.lt_irrefl _)
  refine call_own F.excBase_Exception (fun X => rfl) (X _ _ hC) (looks_findIn X T.iC) (fun self => bind_fn X self T.tC) (one_size v) ?_
  refine low_init (s := ⟨(hp.push (kdv_tup [v])).push (excO C hp.objs.size), g, dr, tk, os⟩) T (X.keeps k) (hlim.keeps k) hget hnx ?_ fun h' tk' dx ⟨k', hx, dn, dne, hns⟩ => ?_
  · show A.depth + 1 < recursionLimit
    exact hroom
  · have old : ∀ b o, hp.get? b = some o → h'.get? b = some o := fun b o e => k' b o (Nat.ne_of_lt (Nat.lt_succ_of_lt (Heap.lt_size e))) (k b o e)
    have z : hp.objs.size + 1 + 1 ≤ dx := by
      first
        | (simpa only [Heap.size_push] using dn)
        | exact dn
        | (have q := dn; rw [Heap.size_push, Heap.size_push] at q; exact q)
    exact ⟨rfl, hq h' tk' (hp.objs.size + 1) dx ⟨old, Nat.le_succ _, ⟨_, _, hx, rfl, rfl, rfl, rfl⟩, Nat.le_trans (Nat.le_trans (Nat.le_succ _) (Nat.le_succ _)) z, dne, hns⟩⟩
end
end LowX
end PySem
namespace L2
open PySem PySem.Spec PyProof.Rows
theorem relO_low {v : V} {v' : Value} (r : RelV v v') (f : Str) : RelO (List.lookup f [(("place" : Str), v)]) (if f = "place" then some v' else none) := by
  by_cases hw : f = "place"
  · subst hw
    rw [if_pos rfl]
    have q : List.lookup ("place" : Str) [(("place" : Str), v)] = some v := by simp [List.lookup]
    rw [q]
    exact r
  · rw [if_neg hw]
    have qw : (f == ("place" : Str)) = false := by simpa using hw
    have q2 : List.lookup f [(("place" : Str), v)] = none := by simp [List.lookup, qw]
    rw [q2]
    trivial
section
variable {X : Cx} {C fI : Addr}
/-- Low(e) -/
def tMkLow (C : Addr) (ta : TA) : St → Hp → XK → Prop := fun σ H Q => ta σ H fun vs H1 => ∃ v, vs = [v] ∧ ∀ d, H1 d = none → Q (.ref C) (some d) (upd H1 d (.xd [(("place" : Str), v)]))
theorem pmk_low {a : Expr} {ta : TA} {p pos : Pos} {k : Nat} (T : PySem.LowX.LowTxt X.K X.mg C fI) (hr : Room k X.A) (ha : PA X [a] ta) (hg : Gl X "Misplaced" := by rfl)
    (he : starEach (a :: []) X.env = (false, eval a X.env) :: starEach [] X.env := by rfl) (hpl : (backTo pos (starEach [] X.env)).any (·.1) = false := by rfl) :
    PMk X (.Call (.Name "Misplaced" p) [a] [] pos) (tMkLow C ta) := by
  intro pins s σ H Q I h
  refine wpAny_Call_Name_kw (ld_glob I hg T.gC ?_)
  refine PySem.W.callWith_K (h₀ := X.base) I.ok.mod.kin T.kC (thn (ha.run pos pins s σ H _ I h) fun us s1 hh => ?_) he hpl
  obtain ⟨vs, H1, I1, r1, v, ev, q1⟩ := hh
  subst ev
  refine ⟨I1.kIn, ?_⟩
  cases r1 with
  | cons rv rn =>
    rename_i v' us'
    cases rn
    show wpAny _ _ (call (.ref C) [v']) _ _ _
    have hlim := I1.nolimit
    obtain ⟨hp, g, dr, tk, os⟩ := s1
    refine wpAny_call (PySem.LowX.low_made T I1.kIn hlim (by have := hr.dp; omega) fun h' tk' e d M => ?_)
    show MkP X pins σ Q (.ref e) ⟨h', g, dr, tk', os⟩
    obtain ⟨oe, fv, hoe, hc, hd, hdat, h1⟩ := M.obj
    have hns := M.ns
    obtain ⟨G', g1, g2⟩ := restrict h' fun b => decide (b ≠ e)
    have gk : ∀ b, b ≠ e → G'.get? b = h'.get? b := fun b hb => g1 b (decide_eq_true hb)
    have ge : G'.get? e = none := g2 e (by simp)
    have old : ∀ b o, hp.get? b = some o → G'.get? b = some o := fun b o q => (gk b (Nat.ne_of_lt (Nat.lt_of_lt_of_le (Heap.lt_size q) M.new))).trans (M.keep b o q)
    have ob : ObjOk X.prog X.w (upd H1 d (.xd [(("place" : Str), v)])) G' d (.xd [(("place" : Str), v)]) :=
      ⟨_, hns.at (fun o q => (gk d M.dne).trans q), fun f => relO_low rv f⟩
    have J : Inv X pins σ (upd H1 d (.xd [(("place" : Str), v)])) ⟨G', g, dr, tk', os⟩ := I1.laid (t' := tk') old M.dbig ob
    refine ⟨e, oe, fv, ⟨G', g, dr, tk', os⟩, _, .ref C, some d, rfl, J, fun b o q => ?_, ge, hoe, ⟨hc, hd⟩, hdat, h1, ?_, rfl, I1.bare, raises_own T.exC T.tyC, q1 d (I1.hok.fresh M.dbig)⟩
    · by_cases hb : b = e
      · have q' : G'.get? b = some o := q
        rw [hb, ge] at q'; cases q'
      · exact (gk b hb).symm.trans q
    · rw [upd_ne (Ne.symm M.dne)]
      exact I1.hok.fresh M.new
/-- raise Low(e) -/
def tRaiseLow (C : Addr) (W : WX) (ta : TA) : TS := fun _ σ H => tMkLow C ta σ H fun cls d H' => W cls d σ H'
theorem ps_raiseLow {a : Expr} {ta : TA} {W : WX} {p pos pos2 : Pos} {k : Nat} (hc : X.calm = true) (T : PySem.LowX.LowTxt X.K X.mg C fI) (hr : Room k X.A) (tk : Takes X W) (ha : PA X [a] ta) (hg : Gl X "Misplaced" := by rfl)
    (he : starEach (a :: []) X.env = (false, eval a X.env) :: starEach [] X.env := by rfl) (hpl : (backTo pos (starEach [] X.env)).any (·.1) = false := by rfl) :
    PS X (.Raise (some (.Call (.Name "Misplaced" p) [a] [] pos)) none pos2) (tRaiseLow C W ta) := ps_raise hc tk (pmk_low T hr ha hg he hpl)
/-- low.by, low the exception that the suite holds (at a; its class cls, its dict d) -/
def tByLow (C : Addr) (a : Addr) (cls : Value) (d : Option Addr) (te : TE) : TE := fun σ H Q => te σ H fun x H1 => x = .ref a ∧ cls = .ref C ∧ ∃ (dd : Addr) (v : V), d = some dd ∧ H1 dd = some (.xd [(("place" : Str), v)]) ∧ Q v H1
theorem pe_byLow {a : Addr} {oe : Obj} {cls : Value} {d : Option Addr} {pn : List (Addr × Obj)} {e : Expr} {te : TE} {pos : Pos} (T : PySem.LowX.LowTxt X.K X.mg C fI) (hz : Zc cls d oe) (hf : ∃ vs, oe.data = .fields vs) (he : PE (X.suite a ((a, oe) :: pn)) e te)
    (hb : attributeBase e "place" X.env (eval e X.env) = eval e X.env := by rfl) :
    PE (X.suite a ((a, oe) :: pn)) (.Attribute e "place" pos) (tByLow C a cls d te) := by
  refine ⟨fun pins s σ H Q I h => ?_⟩
  refine attr_of hb (thn (he.run pins s σ H _ I h) fun u s1 hh => ?_)
  obtain ⟨x, H1, I1, rx, ex, ec, dd, v, ed, ea, q⟩ := hh
  subst ex
  obtain rfl : u = Value.ref a := rx
  subst ec
  subst ed
  obtain ⟨ha, _⟩ := I1.pin (a, oe) (List.mem_append_left _ List.mem_cons_self)
  obtain ⟨vs, hd⟩ := hf
  have hx : ObjOk X.prog X.w H1 s1.heap dd (.xd [(("place" : Str), v)]) := I1.hok dd _ ea
  obtain ⟨mA, hns, hr⟩ := hx
  obtain ⟨od, ho, hl⟩ := lookIn_ns hns
  have l : List.lookup ("place" : Str) [(("place" : Str), v)] = some v := by simp [List.lookup]
  obtain ⟨u, hu, ru⟩ := RelO.some_of (v := v) (o := mA "place") (by rw [← l]; exact hr "place")
  have J : PySem.W.InstAt s1.heap a oe C (some od) := ⟨ha, hz.1, by unfold PySem.W.notCls; rw [hd] <;> rfl, by rw [hz.2]; exact ho⟩
  exact HandSPX.exc_get I1.kIn J T.ga T.gg T.exC (PySem.W.findObj_own T.hdC T.noN rfl (by rw [hl, hu])) (handed_of ru) ⟨v, H1, I1.tok _, ru, q⟩
end
end L2

namespace L2
open PySem PySem.Spec PyProof.Rows
/-- an if whose test is known -/
theorem if_true_of {c : Bool} {A B : Prop} (hc : c = true) (h : A) : if c = true then A else B := by
  rw [if_pos hc]
  exact h
theorem if_false_of {c : Bool} {A B : Prop} (hc : c = false) (h : B) : if c = true then A else B := by
  rw [hc, if_neg Bool.false_ne_true]
  exact h
end L2

namespace HC
open PySem PySem.Spec PyProof.Rows L2
/-! ### facts of defs and classes, in bundles -/
def NoAll (K : PySem.W.Frag) (C : Addr) : List Str → Prop
  | [] => True
  | n :: r => NoAttr K C n ∧ NoAll K C r
structure DefT (K : PySem.W.Frag) (mg : Str → Option Value) (x : Str) (st : Stmt) (f : Addr) (ps : List Str) : Prop where
  ex : ∃ fd, Fun K x x st f fd ∧ Binds K fd ps []
  gl : mg x = some (.ref f)
/-- a def that another name stands for -/
structure DefA (K : PySem.W.Frag) (mg : Str → Option Value) (g x : Str) (st : Stmt) (f : Addr) (ps : List Str) : Prop where
  ex : ∃ fd, Fun K x x st f fd ∧ Binds K fd ps []
  gl : mg g = some (.ref f)
/-- a def with defaults -/
structure DflT (K : PySem.W.Frag) (mg : Str → Option Value) (x : Str) (st : Stmt) (f : Addr) (ps : List Str) (dvs : List V) : Prop where
  ex : ∃ fd, FunD K x x (defArgs st) (defBody st) (defScope st) dvs [] f fd ∧ Binds K fd ps [] ∧ ∃ ds, Vals dvs ds ∧ Binds K fd ps ds
  gl : mg x = some (.ref f)
structure MetT (K : PySem.W.Frag) (C : Addr) (m qual : Str) (st : Stmt) (f : Addr) (ps : List Str) : Prop where
  ex : ∃ fd, Fun K m qual st f fd ∧ Binds K fd ps []
  me : Meth K C m f
structure ClsT (K : PySem.W.Frag) (mg : Str → Option Value) (x qual : Str) (C f : Addr) (ns : List Str) (st : Stmt) (ps : List Str) : Prop where
  cl : Cls K C
  no : NoAll K C ns
  mak : Mk K C f
  gl : mg x = some (.ref C)
  ini : ∃ fd, Fun K "__init__" qual st f fd ∧ Binds K fd ps []
  cla : PySem.W.findIn K (.ref C) "__class__" = some (some (.builtin "object.__class__"))
  mro : PySem.W.mroIn K C (.type "object") = some true
/-- a def keeps its promise -/
structure OkD (P : Program) (w : World) (K : PySem.W.Frag) (mg : Str → Option Value) (base : Heap) (CX : CXT) (k : Nat) (f : Addr) (ps : List Str) (sp : Sp) : Prop where
  ex : ∃ fd, FnOk P w K mg base CX k f fd ps sp ∧ Binds K fd ps []
  kp : PySem.W.keepIn K (.ref f) = true
/-! ### attributes by place -/
theorem put_new (f : Str) (v : V) : ∀ (ns : List Str) (as : List V), as.length = ns.length → f ∉ ns → putF f v (ns.zip as) = (ns ++ [f]).zip (as ++ [v])
  | [], [], _, _ => rfl
  | n :: ns, a :: as, hl, h => by
    have h1 : ¬ n = f := fun e => h (by rw [e]; exact List.mem_cons_self)
    have h2 : f ∉ ns := fun e => h (List.mem_cons_of_mem _ e)
    show (if n = f then _ else (n, a) :: putF f v (ns.zip as)) = (n, a) :: (ns ++ [f]).zip (as ++ [v])
    rw [if_neg h1, put_new f v ns as (by simpa using hl) h2]
  | [], _ :: _, hl, _ => by simp at hl
  | _ :: _, [], hl, _ => by simp at hl
/-- the place of a name -/
def ixOf (f : Str) : List Str → Option Nat
  | [] => none
  | n :: r => if n = f then some 0 else (ixOf f r).map (· + 1)
theorem put_at (f : Str) (v : V) : ∀ (ns : List Str) (as : List V) (i : Nat), as.length = ns.length → ixOf f ns = some i → putF f v (ns.zip as) = ns.zip (as.set i v)
  | [], _, _, _, h => by cases h
  | _ :: _, [], _, hl, _ => by simp at hl
  | n :: ns, a :: as, i, hl, h => by
    show (if n = f then (n, v) :: ns.zip as else (n, a) :: putF f v (ns.zip as)) = _
    unfold ixOf at h
    by_cases e : n = f
    · rw [if_pos e] at h ⊢
      cases h
      rfl
    · rw [if_neg e] at h ⊢
      cases q : ixOf f ns with
      | none => rw [q] at h; cases h
      | some j =>
        rw [q] at h
        cases h
        rw [put_at f v ns as j (by simpa using hl) q]
        rfl
theorem look_at (f : Str) : ∀ (ns : List Str) (as : List V) (i : Nat), as.length = ns.length → ixOf f ns = some i → (ns.zip as).lookup f = as[i]?
  | [], _, _, _, h => by cases h
  | _ :: _, [], _, hl, _ => by simp at hl
  | n :: ns, a :: as, i, hl, h => by
    unfold ixOf at h
    by_cases e : n = f
    · rw [if_pos e] at h
      cases h
      have hb : (f == n) = true := beq_iff_eq.mpr e.symm
      simp only [List.zip_cons_cons, List.lookup, hb]
      rfl
    · rw [if_neg e] at h
      have hb : (f == n) = false := beq_eq_false_iff_ne.mpr fun q => e q.symm
      cases q : ixOf f ns with
      | none => rw [q] at h; cases h
      | some j =>
        rw [q] at h
        cases h
        simp only [List.zip_cons_cons, List.lookup, hb]
        rw [look_at f ns as j (by simpa using hl) q]
        rfl
theorem look_no (f : Str) : ∀ (ns : List Str) (as : List V), f ∉ ns → (ns.zip as).lookup f = none
  | [], _, _ => rfl
  | _ :: _, [], _ => rfl
  | n :: ns, a :: as, h => by
    have hb : (f == n) = false := beq_eq_false_iff_ne.mpr fun q => h (by rw [q]; exact List.mem_cons_self)
    simp only [List.zip_cons_cons, List.lookup, hb]
    exact look_no f ns as fun e => h (List.mem_cons_of_mem _ e)
/-! ### a new instance of a class whose __init__ stores its arguments -/
def spInit (C : Addr) (ns : List Str) : Sp := fun vs H Q _ => ∃ (p dx : Addr) (as : List V), vs = .ref p :: as ∧ as.length = ns.length ∧ H p = some (.ins C dx []) ∧
  ∀ H', (∀ b, b ≠ p → H' b = H b) → H' p = some (.ins C dx (ns.zip as)) → Q .non H'
/-- from C(..)'s reading to what callers want: a new object, all else as it was -/
theorem made {C : Addr} {ns : List Str} {vs : List V} {H : Hp} {Q : Addr → Hp → Prop} {E : XK} (hl : vs.length = ns.length)
    (h : ∀ x dx H', H x = none → Same H H' → H' x = some (.ins C dx (ns.zip vs)) → Q x H') :
    ∀ x dx, H x = none → H dx = none → dx ≠ x → spInit C ns (.ref x :: (vs ++ [])) (upd (upd H dx (.own x)) x (.ins C dx [])) (fun v H2 => v = .non ∧ Q x H2) E := by
  intro x dx nx ndx ne
  rw [List.append_nil]
  refine ⟨x, dx, vs, rfl, hl, upd_same, fun H' hb hx => ⟨rfl, h x dx H' nx (fun b o e => ?_) hx⟩⟩
  rw [hb b (ne_of_none e nx), upd_ne (ne_of_none e nx), upd_ne (ne_of_none e ndx)]
  exact e
/-! ### what leaves a def -/
section
variable {P : Program} {w : World} {K : PySem.W.Frag} {mg : Str → Option Value} {base : Heap} {N : List Str} {qual : Str} {sc : Scope} {f : Addr} {cdv : Value} {A : Around} {outer : List Env} {s : Shared} {H : Hp} {E : XK}
theorem takesX : Takes (cxOf (L2.CX P w) P w K mg base N qual sc f cdv A outer s H E) (fun cls d _ H => E cls d H) := takes_of rfl rfl rfl rfl
theorem passX : Passes (L2.CX P w) (cxOf (L2.CX P w) P w K mg base N qual sc f cdv A outer s H E) E := passes_call takesX fun _ _ _ _ h => h
theorem ownX : PassesOwn (model P w) (cxOf (L2.CX P w) P w K mg base N qual sc f cdv A outer s H E).A (cxOf (L2.CX P w) P w K mg base N qual sc f cdv A outer s H E).env (cxOf (L2.CX P w) P w K mg base N qual sc f cdv A outer s H E).xe := passes_of rfl
end
/-! ### heaps -/
/-- all but R is as it was -/
def Keep (R : Addr) (H H' : Hp) : Prop := ∀ b o, b ≠ R → H b = some o → H' b = some o
theorem Keep.refl (R : Addr) (H : Hp) : Keep R H H := fun _ _ _ h => h
theorem Keep.trans {R : Addr} {H H1 H2 : Hp} (a : Keep R H H1) (b : Keep R H1 H2) : Keep R H H2 := fun c o n h => b c o n (a c o n h)
theorem Keep.of {R : Addr} {H H' : Hp} (s : Same H H') : Keep R H H' := fun b o _ h => s b o h
theorem Keep.free {R : Addr} {H H' : Hp} {o : HO} (k : Keep R H H') (hR : H' R = some o) {b : Addr} (h : H' b = none) : H b = none := by
  cases q : H b with
  | none => rfl
  | some u =>
    by_cases e : b = R
    · subst e
      rw [hR] at h
      cases h
    · rw [k b u e q] at h
      cases h
/-- a module's constant -/
theorem pgi {X : Cx} {x : Str} {pos : Pos} {i : Int} {t : Tok} (hm : X.mg x = some (.int i t)) (hg : Gl X x := by rfl) (hd : (x == ("__debug__" : Str)) = false := by decide) : PE X (.Name x pos) (tC (.int i)) := pe_glob (v := .int i) hg hm ⟨_, rfl⟩ hd
theorem pgs {X : Cx} {x : Str} {pos : Pos} {z : Str} {t : Tok} (hm : X.mg x = some (.str z t)) (hg : Gl X x := by rfl) (hd : (x == ("__debug__" : Str)) = false := by decide) : PE X (.Name x pos) (tC (.str z)) := pe_glob (v := .str z) hg hm ⟨_, rfl⟩ hd
end HC
namespace HC
open PySem PySem.Spec PyProof.Rows L2
/-! ### promises of defs that take ints and leave the heap alone -/
def spI1 (C : Int → Prop) (g : Int → V) : Sp := fun vs H Q _ => ∃ a : Int, vs = [.int a] ∧ C a ∧ Q (g a) H
def spI2 (C : Int → Int → Prop) (g : Int → Int → V) : Sp := fun vs H Q _ => ∃ a b : Int, vs = [.int a, .int b] ∧ C a b ∧ Q (g a b) H
def spI3 (C : Int → Int → Int → Prop) (g : Int → Int → Int → V) : Sp := fun vs H Q _ => ∃ a b c : Int, vs = [.int a, .int b, .int c] ∧ C a b c ∧ Q (g a b c) H
def spI4 (C : Int → Int → Int → Int → Prop) (g : Int → Int → Int → Int → V) : Sp := fun vs H Q _ => ∃ a b c e : Int, vs = [.int a, .int b, .int c, .int e] ∧ C a b c e ∧ Q (g a b c e) H
def spI5 (C : Int → Int → Int → Int → Int → Prop) (g : Int → Int → Int → Int → Int → V) : Sp := fun vs H Q _ => ∃ a b c e f : Int, vs = [.int a, .int b, .int c, .int e, .int f] ∧ C a b c e f ∧ Q (g a b c e f) H
theorem castI {Q : VK} {H : Hp} {a b : Int} (k : Q (.int a) H) (e : a = b) : Q (.int b) H := e ▸ k
theorem castB {Q : VK} {H : Hp} {a b : Bool} (k : Q (.bl a) H) (e : a = b) : Q (.bl b) H := e ▸ k
/-! ### a call of what an expression gives -/
def FnAt (X : Cx) (k : Nat) (f : Addr) (sp : Sp) : Prop := ∃ j fd ps, j ≤ k ∧ FnOk X.prog X.w X.K X.mg X.base CX0 j f fd ps sp ∧ Binds X.K fd ps [] ∧ PySem.W.keepIn X.K (.ref f) = true
def tCallE (X : Cx) (k : Nat) (tf : TE) (t : TA) : TE := fun σ H Q => tf σ H fun y H1 => ∃ f sp, y = V.ref f ∧ FnAt X k f sp ∧ t σ H1 fun vs H2 => sp vs H2 Q E0
theorem pe_callE {X : Cx} {k : Nat} {fe e : Expr} {es : List Expr} {tf : TE} {t : TA} {pos : Pos} (hr : Room k X.A) (hf : PE X fe tf) (ha : PA X (e :: es) t)
    (ht : eval (.Call fe (e :: es) [] pos) X.env = (do callWith pos (← eval fe X.env) [] (backTo pos (starEach (e :: es) X.env)) (backToKw pos (keywordEach [] X.env))) := by rfl)
    (he : starEach (e :: es) X.env = (false, eval e X.env) :: starEach es X.env := by rfl) (hpl : (backTo pos (starEach es X.env)).any (·.1) = false := by rfl) : PE X (.Call fe (e :: es) [] pos) (tCallE X k tf t) := by
  refine ⟨fun pins s σ H Q I h => ?_⟩
  refine Call_ (thn (hf.run pins s σ H _ I h) fun u s1 ⟨y, H1, I1, ry, f, sp, ey, ⟨j, fd, ps, hj, F, hb, hk⟩, q⟩ => ?_) ht
  subst ey
  obtain rfl : u = Value.ref f := ry
  refine PySem.W.callWith_K (h₀ := X.base) I.ok.mod.kin hk (thn (ha.run pos pins s1 σ H1 _ I1 q) fun us s2 ⟨vs, H2, I2, r, q2⟩ => ⟨I2.kIn, ?_⟩) he hpl
  exact run_fn (dvs := []) (ds := []) F (hr.mono hj) hb .nil pass0 I2 r (by rw [List.append_nil]; exact q2)
/-- a tuple of the text -/
def TupK (K : PySem.W.Frag) (a : Addr) (xs : List V) : Prop := ∀ H, SqT K H a xs
theorem tup_mk {K : PySem.W.Frag} {a : Addr} {dd : Option Addr} {its : Array Value} {n : Nat} {sl : Array (Option Value)} {xs : List V} (l : K.lookup a = some ⟨.type "tuple", dd, .seq its n, sl⟩) (z : its.size ≤ sizeLine) (v : Vals xs its.toList) : TupK K a xs :=
  fun _ => .inr ⟨_, its, n, l, rfl, rfl, z, v⟩
end HC
namespace HC
open PySem PySem.Spec PyProof.Rows L2 LamX NdefX
/-! ### functions that are made while the program runs, and handed on -/
/-- the object at f is a lambda: F its words (F.body is not asked), b its body -/
def LamO (f : Addr) (F : NF) (b : Expr) : HO := .ext fun h => ∃ (od : Option Addr) (sl : Array (Option Value)) (pm ctv : Value),
  h.get? f = some (⟨.type "function", od, .func (PySem.W.kla_fn F.name F.qual F.params b F.scope F.cl pm (.ref F.c) ctv), sl⟩ : Obj)
theorem lamO_ne {f : Addr} {F : NF} {b : Expr} (ps : Array Value) : LamO f F b ≠ .tbl ps := fun z => by
  unfold LamO at z
  cases z
def IsF (H : Hp) (f : Addr) : Prop := (∃ F, H f = some (FnO f F)) ∨ ∃ F b, H f = some (LamO f F b)
theorem IsF.same {H H' : Hp} {f : Addr} (s : Same H H') (h : IsF H f) : IsF H' f := by
  rcases h with ⟨F, e⟩ | ⟨F, b, e⟩
  · exact .inl ⟨F, s _ _ e⟩
  · exact .inr ⟨F, b, s _ _ e⟩
theorem lamO_at {P : Program} {w : World} {H : Hp} {h : Heap} {f : Addr} {F : NF} {b : Expr} (hok : HOk P w H h) (e : H f = some (LamO f F b)) :
    ∃ (od : Option Addr) (sl : Array (Option Value)) (pm ctv : Value), h.get? f = some (⟨.type "function", od, .func (PySem.W.kla_fn F.name F.qual F.params b F.scope F.cl pm (.ref F.c) ctv), sl⟩ : Obj) :=
  (show _ ∧ _ from hok f _ e).1
theorem isF_at {P : Program} {w : World} {H : Hp} {h : Heap} {f : Addr} (hok : HOk P w H h) (e : IsF H f) : PySem.W.FnAt f h := by
  rcases e with ⟨F, e⟩ | ⟨F, b, e⟩
  · obtain ⟨od, sl, d1, d2, d3, z⟩ := fnO_at hok e
    exact ⟨_, od, _, sl, z⟩
  · obtain ⟨od, sl, d1, d2, z⟩ := lamO_at hok e
    exact ⟨_, od, _, sl, z⟩
theorem lam_laid {X : Cx} {pins : List (Addr × Obj)} {σ : L2.St} {H : Hp} {s : Shared} {F : NF} {b : Expr} {o : Obj} {tk : Nat} {pm ctv : Value} (I : Inv X pins σ H s)
    (ho : o = PySem.W.kla_obj F.name F.qual F.params b F.scope F.cl pm F.c ctv) : Inv X pins σ (upd H s.heap.objs.size (LamO s.heap.objs.size F b)) { s with heap := s.heap.push o, toks := tk } := by
  subst ho
  have e : (s.heap.push (PySem.W.kla_obj F.name F.qual F.params b F.scope F.cl pm F.c ctv)).get? s.heap.objs.size = some (PySem.W.kla_obj F.name F.qual F.params b F.scope F.cl pm F.c ctv) := Heap.get?_push_size _ rfl
  refine I.laid (a := s.heap.objs.size) (fun _ _ z => Heap.get?_push_of_some _ z) (Nat.le_refl _) ⟨⟨_, _, pm, ctv, e⟩, ⟨_, e⟩, ?_⟩
  rintro h1 h2 ⟨od, sl, p, t, z⟩ st
  exact ⟨od, sl, p, t, st _ z⟩
/-- the lambda that the context X makes -/
abbrev lamF (X : Cx) (params : Arguments) (scope : Scope) (c : Addr) : NF := ⟨"<lambda>", X.env.qual ++ "<lambda>", params, [], scope, cloFrom X.env.cells scope.names [], c⟩
/-- a lambda as a value: a new object; T is the maker's table -/
def tLamE (T : Addr) (q : Str) (mk : Addr → NF) (b : Expr) : TE := fun _ H Q => TabN H T (fun _ _ => q) ∧
  ∀ (f c : Addr) (H1 : Hp), ExtN H H1 ∧ Keep T H H1 → H f = none → H1 f = some (LamO f (mk c) b) → H1 c = some (CodeO c q) → Q (.ref f) H1
theorem pe_lam {X : Cx} {c T : Addr} {params : Arguments} {body : Expr} {scope : Scope} {pos : Pos} (TB : TabB X.base X.mg c T) (hcode : X.env.code = .ref c) (hdef : defaultsOf params X.env = ([], []))
    (hfree : ∀ y ∈ scope.names, y.2 = .free → X.env.scope.names.lookup y.1 = some .cell ∨ X.env.scope.names.lookup y.1 = some .free) :
    PE X (.Lambda params body scope pos) (tLamE T (X.env.qual ++ "<lambda>") (lamF X params scope) body) := by
  refine ⟨fun pins s σ H Q I hq => ?_⟩
  obtain ⟨⟨ps, hT, h3, hall⟩, go⟩ := hq
  have cap : ∀ y ∈ scope.names, y.2 = .free → ∃ z, X.env.cells.lookup y.1 = some z := fun y hy e => by
    rcases hfree y hy e with k | k
    · exact I.ok.has _ (.inl k)
    · exact I.ok.has _ (.inr k)
  refine PySem.W.kla_eval hdef ?_
  have bT := TB.bm.keeps I.bk
  have oT : s.heap.get? T = some { cls := .none, data := .fields ps } := I.hok T _ hT
  cases hc : codeAmong pos ps.toList with
  | none =>
    refine PySem.W.kla_makeFunction (P := T) (ps := ps) (mg := X.mg) (c := c) (closure_ok cap) I.ok.glob (I.mod.glob.keeps I.bk) hcode (TB.code.keeps I.bk) oT h3 hc TB.gP bT ?_
    intro c1 ctv h1 tk ext ge lt rc tb
    obtain ⟨c2, oc, vs, t, e2, a1, a2, a3⟩ := rc
    cases e2
    have fc : H c1 = none := I.hok.fresh ge
    have I1 := inv_table (t' := tk) (more := #[rawInt pos.line, rawInt pos.col, .ref c1]) (h' := h1) I hT (fun b o hb e => ext b o hb e) tb ge ⟨oc, vs, t, a1, a2, a3⟩
    have ff := I1.hok.fresh (Nat.le_refl _)
    have I2 := lam_laid (F := lamF X params scope c1) (b := body) (tk := tk) (pm := (X.mg "__name__").getD .none) (ctv := ctv) I1 rfl
    refine ⟨.ref h1.objs.size, _, I2, rfl, go h1.objs.size c1 _ ⟨fun b o e n => ?_, fun b o n e => ?_⟩ (I.hok.fresh (Nat.le_trans ge (Nat.le_of_lt lt))) upd_same ?_⟩
    · have e1 : upd (upd H T (.tbl (ps ++ #[rawInt pos.line, rawInt pos.col, .ref c1]))) c1 (CodeO c1 (X.env.qual ++ "<lambda>")) b = some o := by
        rw [upd_ne (ne_of_none e fc), upd_ne (fun z => n ps (by rw [z] at e; exact Option.some.inj (e.symm.trans hT)))]
        exact e
      exact (upd_ne (ne_of_none e1 ff)).trans e1
    · have e1 : upd (upd H T (.tbl (ps ++ #[rawInt pos.line, rawInt pos.col, .ref c1]))) c1 (CodeO c1 (X.env.qual ++ "<lambda>")) b = some o := by
        rw [upd_ne (ne_of_none e fc), upd_ne n]
        exact e
      exact (upd_ne (ne_of_none e1 ff)).trans e1
    · exact (upd_ne (Nat.ne_of_lt lt)).trans upd_same
  | some cv =>
    obtain ⟨c1, e, hco⟩ := hall pos cv hc
    subst e
    refine PySem.W.kla_makeFunctionHit (P := T) (ps := ps) (mg := X.mg) (c := c) (closure_ok cap) I.ok.glob (I.mod.glob.keeps I.bk) hcode (TB.code.keeps I.bk) oT h3 hc bT ?_
    intro ctv h1 tk ext sz
    have I1 : Inv X pins σ H { s with heap := h1, toks := tk } := I.kept ext
    have ff : H h1.objs.size = none := I1.hok.fresh (Nat.le_refl _)
    have I2 := lam_laid (F := lamF X params scope c1) (b := body) (tk := tk) (pm := (X.mg "__name__").getD .none) (ctv := ctv) I1 rfl
    refine ⟨.ref h1.objs.size, _, I2, rfl, go h1.objs.size c1 _ ⟨fun b o e _ => (upd_ne (ne_of_none e ff)).trans e, fun b o _ e => (upd_ne (ne_of_none e ff)).trans e⟩ ff upd_same ?_⟩
    exact (upd_ne (ne_of_none hco ff)).trans hco
/-! ### what a lambda promises (one that captures nothing) -/
structure LOk (P : Program) (w : World) (K : PySem.W.Frag) (mg : Str → Option Value) (base : Heap) (k : Nat) (f : Addr) (F : NF) (b : Expr) (sp : Sp) : Prop where
  run : ∀ (A : Around) (outer : List Env) (s : Shared) (H : Hp) (us : List Value) (vs : List V) (Q : VK), Room k A → Env0 P w K mg base A outer s H → H f = some (LamO f F b) → H F.c = some (CodeO F.c F.qual) →
    Vals vs us → sp vs H Q E0 → codeAny (model P w) A (.call (.ref f) ⟨us, []⟩) (CR CX0 outer P w H s Q E0) s
theorem cells0 {cl : List (Str × Addr)} {h : Heap} {H : Hp} (hcl : cl = []) : CellsAt cl [] [] h H := by
  subst hcl
  exact ⟨rfl, fun _ _ e => (nomatch e), fun _ _ _ e => (nomatch e), fun _ _ e => (by simp at e)⟩
section
variable {P : Program} {w : World} {K : PySem.W.Frag} {mg : Str → Option Value} {base : Heap} {k kt : Nat} {f g : Addr} {F : NF} {b : Expr} {sp : Sp}
theorem LOk.mono (o : LOk P w K mg base k f F b sp) (h : k ≤ kt) : LOk P w K mg base kt f F b sp := ⟨fun A outer s H us vs Q hr => o.run A outer s H us vs Q (hr.mono h)⟩
theorem lok_of {N ps : List Str} (S : NScope N ps [] F.scope) (hcl : F.cl = []) (hb : ∀ (pm cv ctv : Value) (us : List Value), us.length = ps.length → bindArgs (PySem.W.kla_fn F.name F.qual F.params b F.scope F.cl pm cv ctv) ⟨us, []⟩ = pure (ps.zip us))
    (len : ∀ vs H Q E, sp vs H Q E → vs.length = ps.length)
    (hbody : ∀ (A : Around) (outer : List Env) (s : Shared) (H : Hp) (vs : List V) (Q : VK), Room k (A.deeper (envF F f s.heap.objs.size)) → sp vs H Q E0 →
      ∃ t, PE (ncx CX0 P w K mg base N F f A outer s H E0) b t ∧ t (startF N vs []) H Q) : LOk P w K mg base (k + 1) f F b sp := by
  refine ⟨fun A outer s H us vs Q hr e0 hf hc r q => ?_⟩
  have hl := len _ _ _ _ q
  have lim : s.heap.NoLimit := e0.mod.nolimit.keeps fun b o e => (e0.bs b o e).1
  obtain ⟨od, sl, pm, ctv, ho⟩ := lamO_at e0.hok hf
  refine PySem.W.kla_callFunE hr.depth ho rfl S.co S.gen rfl (codeO_at e0.hok hc) ?_
  rw [hb pm (.ref F.c) ctv us (by rw [← r.length]; exact hl)]
  refine wpAny_pure (wpAny_newFunctionEnv S.nocell (fun y hy => S.par y.1 (List.of_mem_zip hy).1) ?_ S.kind)
  intro h1 hns hsb
  refine ⟨lim.fresh _ hsb, ?_⟩
  show codeAny _ _ (.expr b (envF F f s.heap.objs.size)) _ _
  have kp : ∀ a o, s.heap.get? a = some o → h1.get? a = some o := fun a o e => hsb.extBut a o (Nat.ne_of_lt (Heap.lt_size e)) (Heap.get?_push_of_some _ e)
  obtain ⟨t, ht, hq⟩ := hbody A outer s H vs Q (hr.deeper _) q
  have I : Inv (ncx CX0 P w K mg base N F f A outer s H E0) [] (startF N vs []) H { s with heap := h1, toks := s.toks + (ps.zip us).length } := inv_startN S hr.hd e0 hl r (cells0 hcl) hns kp
  refine PySem.W.kla_codeExpr (wpAny_mono (ht.run [] _ (startF N vs []) H Q I hq) ?_ fun e s' z => z)
  rintro u s1 ⟨v, H1, J, rv, z⟩
  exact ⟨v, H1, J.os, J.bare, J.base, J.hok, rv, z⟩
/-! ### what is handed on: its promise from a state on -/
structure Tells (P : Program) (w : World) (K : PySem.W.Frag) (mg : Str → Option Value) (base : Heap) (k : Nat) (f : Addr) (fs : List Addr) (H0 : Hp) (h0 : Heap) (sp : Sp) : Prop where
  run : ∀ (A : Around) (outer : List Env) (s : Shared) (H : Hp) (us : List Value) (vs : List V) (Q : VK), Room k A → Env0 P w K mg base A outer s H → Un fs [] H0 H h0 s.heap → Vals vs us → sp vs H Q E0 →
    codeAny (model P w) A (.call (.ref f) ⟨us, []⟩) (CR CX0 outer P w H s Q E0) s
/-- a lambda's promise, with the lambda in the heap -/
def spLam (f : Addr) (F : NF) (b : Expr) (sp : Sp) : Sp := fun vs H Q E => H f = some (LamO f F b) ∧ H F.c = some (CodeO F.c F.qual) ∧ sp vs H Q E
theorem LOk.tells (o : LOk P w K mg base k f F b sp) (fs : List Addr) (H0 : Hp) (h0 : Heap) : Tells P w K mg base k f fs H0 h0 (spLam f F b sp) :=
  ⟨fun A outer s H us vs Q hr e0 _ r q => o.run A outer s H us vs Q hr e0 q.1 q.2.1 r q.2.2⟩
def spNf (f : Addr) (F : NF) (ws : List (Option V)) (sp : List (Option V) → Sp) : Sp := fun vs H Q E => H f = some (FnO f F) ∧ H F.c = some (CodeO F.c F.qual) ∧ sp ws vs H Q E
theorem cells_un {cl : List (Str × Addr)} {fr : List Str} {ws : List (Option V)} {fs : List Addr} {H H1 : Hp} {h h1 : Heap} (c : CellsAt cl fr ws h H) (u : Un fs [] H H1 h h1) : CellsAt cl fr ws h1 H1 := by
  have kp : ∀ y a, cl.lookup y = some a → ∀ v, h.IsCell a v → h1.IsCell a v := fun y a e v ⟨o, ho, hd⟩ => by
    obtain ⟨sl, z⟩ := u.any ho (c.all y a e).1 (by simp)
    exact ⟨_, z, hd⟩
  refine ⟨c.len, fun y a e => ?_, c.inj, fun i y e => ?_⟩
  · obtain ⟨n, v, z⟩ := c.all y a e
    refine ⟨?_, v, kp y a e v z⟩
    obtain ⟨o, ho, _⟩ := z
    exact u.free a o ho n (by simp)
  · obtain ⟨a, ha, hv⟩ := c.has i y e
    refine ⟨a, ha, fun v ev => ?_⟩
    obtain ⟨x, rx, z⟩ := hv v ev
    exact ⟨x, rx, kp y a ha _ z⟩
theorem nok_tells {ps fr : List Str} {ws : List (Option V)} {spn : List (Option V) → Sp} {fs : List Addr} {H0 : Hp} {h0 : Heap} (o : NOk P w K mg base CX0 k f F ps fr spn) (c : CellsAt F.cl fr ws h0 H0) : Tells P w K mg base k f fs H0 h0 (spNf f F ws spn) :=
  ⟨fun A outer s H us vs Q hr e0 un r q => o.run A outer s H us vs ws Q E0 hr e0 q.1 q.2.1 (cells_un c un) r q.2.2⟩
/-- a def that is handed a function f: SP f sp, sp what f promises -/
structure GivOk (P : Program) (w : World) (K : PySem.W.Frag) (mg : Str → Option Value) (base : Heap) (k kt : Nat) (g : Addr) (fd : FuncData) (ps : List Str) (SP : Addr → Sp → Sp) : Prop where
  len : ∀ f sp vs H Q E, SP f sp vs H Q E → vs.length = ps.length
  run : ∀ (A : Around) (outer : List Env) (s : Shared) (H : Hp) (args : Args) (us : List Value) (vs : List V) (Q : VK) (f : Addr) (sp : Sp), Room k A → Env0 P w K mg base A outer s H → Tells P w K mg base kt f (frs outer) H s.heap sp →
    BindsTo s fd args (ps.zip us) → Vals vs us → SP f sp vs H Q E0 → codeAny (model P w) A (.call (.ref g) args) (CR CX0 outer P w H s Q E0) s
theorem giv_of {x qual : Str} {st : Stmt} {fd : FuncData} {N ps : List Str} {SP : Addr → Sp → Sp} (D : Fun K x qual st g fd) (S : FnScope N ps (defScope st)) (len : ∀ f sp vs H Q E, SP f sp vs H Q E → vs.length = ps.length)
    (hbody : ∀ (cdv : Value) (A : Around) (outer : List Env) (s : Shared) (H : Hp) (vs : List V) (Q : VK) (f : Addr) (sp : Sp), Room k (A.deeper (envOfC qual (defScope st) s.heap.objs.size g cdv)) → Tells P w K mg base kt f (frs outer) H s.heap sp → SP f sp vs H Q E0 →
      ∃ t, PSs (cxOf CX0 P w K mg base N qual (defScope st) g cdv A outer s H E0).nox (defBody st) t ∧ t { nx := fun _ H' => Q .non H', rt := Q } (start N vs) H) : GivOk P w K mg base (k + 1) kt g fd ps SP := by
  obtain ⟨oc, od, kV, doc, pm, an, cdv, ct, osl, rfl, lk, hcd⟩ := D.ex
  refine ⟨len, fun A outer s H args us vs Q f sp hr e0 tl hb r q => ?_⟩
  refine LamX.run_ofS (N := N) lk hcd S hr e0 hb r (len _ _ _ _ _ _ q) fun hr2 => ?_
  obtain ⟨t, h1, h2⟩ := hbody cdv A outer s H vs Q f sp hr2 tl q
  exact ⟨t, h1.nox, h2⟩
end
section
variable {X : Cx} {k kt i : Nat} {g : Addr} {fd : FuncData} {ps : List Str} {SP : Addr → Sp → Sp} {x : Str} {p pos : Pos} {e : Expr} {es : List Expr} {t : TA}
/-- x(..), x the name that holds what was handed on -/
def tTell (i : Nat) (f : Addr) (sp : Sp) (t : TA) : TE := fun σ H Q => σ[i]? = some (some (.ref f)) ∧ IsF H f ∧ t σ H fun vs H1 => IsF H1 f ∧ sp vs H1 Q E0
theorem pe_tell {f : Addr} {sp : Sp} (T : Tells X.prog X.w X.K X.mg X.base kt f X.fs X.H_0 X.s_0.heap sp) (hex : X.ex = []) (hr : Room kt X.A) (hN : X.N[i]? = some x) (hv : Vis X.env.scope x) (ha : PA X (e :: es) t)
    (hd : (x == ("__debug__" : Str)) = false := by decide) (hcd : (x == ("__classdict__" : Str)) = false := by decide)
    (he : starEach (e :: es) X.env = (false, eval e X.env) :: starEach es X.env := by rfl) (hpl : (backTo pos (starEach es X.env)).any (·.1) = false := by rfl) : PE X (.Call (.Name x p) (e :: es) [] pos) (tTell i f sp t) := by
  refine ⟨fun pins s σ H Q I hq => ?_⟩
  obtain ⟨hs, hF, ht⟩ := hq
  refine wpAny_Call_Name_kw (thn ((pe_var (pos := p) hN hv hd hcd).run pins s σ H (fun v H1 => v = .ref f ∧ H1 = H) I ⟨.ref f, hs, rfl, rfl⟩) ?_)
  rintro u s1 ⟨v, H1, I1, r1, e1, e2⟩
  subst e1 e2
  obtain rfl : u = Value.ref f := r1
  refine PySem.W.callWith_F (first := []) (isF_at I1.hok hF) (thn (ha.run pos pins s1 σ _ _ I1 ht) ?_) he hpl
  rintro us s2 ⟨vs, H2, I2, r, hF2, q⟩
  refine ⟨isF_at I2.hok hF2, ?_⟩
  show wpAny _ _ (call (.ref f) us) _ _ _
  have un := I2.base
  rw [hex] at un
  refine wpAny_call (codeAny_mono (T.run X.A X.stack s2 H2 us vs Q hr I2.env0 un r q) fun r' s' z => ?_)
  cases r' with
  | error e => exact (show False from z).elim
  | ok fl =>
    cases fl with
    | ret u => exact I2.after z
    | next => exact (show False from z).elim
    | brk => exact (show False from z).elim
    | cont => exact (show False from z).elim
/-- .. that holds a lambda, wherever -/
def tTellL (X : Cx) (kt i : Nat) (t : TA) : TE := fun σ H Q => ∃ (f : Addr) (F : NF) (b : Expr) (sp : Sp), σ[i]? = some (some (.ref f)) ∧ LOk X.prog X.w X.K X.mg X.base kt f F b sp ∧ IsF H f ∧ t σ H fun vs H1 => spLam f F b sp vs H1 Q E0
theorem pe_tellL (hr : Room kt X.A) (hN : X.N[i]? = some x) (hv : Vis X.env.scope x) (ha : PA X (e :: es) t)
    (hd : (x == ("__debug__" : Str)) = false := by decide) (hcd : (x == ("__classdict__" : Str)) = false := by decide)
    (he : starEach (e :: es) X.env = (false, eval e X.env) :: starEach es X.env := by rfl) (hpl : (backTo pos (starEach es X.env)).any (·.1) = false := by rfl) : PE X (.Call (.Name x p) (e :: es) [] pos) (tTellL X kt i t) := by
  refine ⟨fun pins s σ H Q I hq => ?_⟩
  obtain ⟨f, F, b, sp, hs, L, hF, ht⟩ := hq
  refine wpAny_Call_Name_kw (thn ((pe_var (pos := p) hN hv hd hcd).run pins s σ H (fun v H1 => v = .ref f ∧ H1 = H) I ⟨.ref f, hs, rfl, rfl⟩) ?_)
  rintro u s1 ⟨v, H1, I1, r1, e1, e2⟩
  subst e1 e2
  obtain rfl : u = Value.ref f := r1
  refine PySem.W.callWith_F (first := []) (isF_at I1.hok hF) (thn (ha.run pos pins s1 σ _ _ I1 ht) ?_) he hpl
  rintro us s2 ⟨vs, H2, I2, r, q1, q2, q3⟩
  refine ⟨isF_at I2.hok (.inr ⟨F, b, q1⟩), ?_⟩
  show wpAny _ _ (call (.ref f) us) _ _ _
  refine wpAny_call (codeAny_mono (L.run X.A X.stack s2 H2 us vs Q hr I2.env0 q1 q2 r q3) fun r' s' z => ?_)
  cases r' with
  | error e => exact (show False from z).elim
  | ok fl =>
    cases fl with
    | ret u => exact I2.after z
    | next => exact (show False from z).elim
    | brk => exact (show False from z).elim
    | cont => exact (show False from z).elim
/-- the callee, handed what tells sp -/
theorem run_giv {pins : List (Addr × Obj)} {σ : L2.St} {H : Hp} {s : Shared} {Q : VK} {us : List Value} {vs : List V} {f : Addr} {sp : Sp} (G : GivOk X.prog X.w X.K X.mg X.base k kt g fd ps SP) (hr : Room k X.A) (hb : Binds X.K fd ps []) (I : Inv X pins σ H s)
    (T : Tells X.prog X.w X.K X.mg X.base kt f (frs X.stack) H s.heap sp) (r : Vals vs us) (q : SP f sp vs H Q E0) : wpAny (model X.prog X.w) X.A (call (.ref g) us) (EP X pins σ Q) X.xe s := by
  have hl : us.length = ps.length := by rw [← r.length]; exact G.len _ _ _ _ _ _ q
  have bb := hb s us I.kIn (by rw [List.append_nil]; exact hl)
  rw [List.append_nil] at bb
  refine wpAny_call (codeAny_mono (G.run X.A X.stack s H ⟨us, []⟩ us vs Q f sp hr I.env0 T bb r q) fun r' s' z => ?_)
  cases r' with
  | error e => exact (show False from z).elim
  | ok fl =>
    cases fl with
    | ret u => exact I.after z
    | next => exact (show False from z).elim
    | brk => exact (show False from z).elim
    | cont => exact (show False from z).elim
/-- x(.., a lambda) -/
def tGivL (X : Cx) (kt : Nat) (SP : Addr → Sp → Sp) (t : TA) : TE := fun σ H Q => t σ H fun vs H1 => ∃ (f : Addr) (F : NF) (b : Expr) (sp : Sp), LOk X.prog X.w X.K X.mg X.base kt f F b sp ∧ SP f (spLam f F b sp) vs H1 Q E0
theorem pe_givL (G : GivOk X.prog X.w X.K X.mg X.base k kt g fd ps SP) (hr : Room k X.A) (hg : Gl X x) (hm : X.mg x = some (.ref g)) (hk : PySem.W.keepIn X.K (.ref g) = true) (hb : Binds X.K fd ps []) (ha : PA X (e :: es) t)
    (hdb : (x == ("__debug__" : Str)) = false := by decide) (he : starEach (e :: es) X.env = (false, eval e X.env) :: starEach es X.env := by rfl) (hpl : (backTo pos (starEach es X.env)).any (·.1) = false := by rfl) :
    PE X (.Call (.Name x p) (e :: es) [] pos) (tGivL X kt SP t) := by
  refine ⟨fun pins s σ H Q I hq => ?_⟩
  refine wpAny_Call_Name_kw (ld_glob I hg hm ?_ hdb)
  refine PySem.W.callWith_K (h₀ := X.base) I.ok.mod.kin hk (thn (ha.run pos pins s σ H _ I hq) ?_) he hpl
  rintro us s1 ⟨vs, H1, I1, r, f, F, b, sp, L, q⟩
  exact ⟨I1.kIn, run_giv G hr hb I1 (L.tells _ _ _) r q⟩
/-- x(.., f), f a name that holds a def made here; js: where what it captured stands -/
def tGivN (X : Cx) (kt : Nat) (SP : Addr → Sp → Sp) (mk : Addr → NF) (fps fr : List Str) (js : List Nat) (t : TA) : TE := fun σ H Q => t σ H fun vs H1 => ∃ (f c : Addr) (spn : List (Option V) → Sp),
  NOk X.prog X.w X.K X.mg X.base CX0 kt f (mk c) fps fr spn ∧ SP f (spNf f (mk c) (js.map (slotAt σ)) spn) vs H1 Q E0
theorem pe_givN {mk : Addr → NF} {cl : List (Str × Addr)} {fps fr : List Str} {js : List Nat} (G : GivOk X.prog X.w X.K X.mg X.base k kt g fd ps SP) (hcl : ∀ c, (mk c).cl = cl) (cp : X.Ok → Caps X cl fr js) (hr : Room k X.A) (hg : Gl X x) (hm : X.mg x = some (.ref g)) (hk : PySem.W.keepIn X.K (.ref g) = true)
    (hb : Binds X.K fd ps []) (ha : PA X (e :: es) t)
    (hdb : (x == ("__debug__" : Str)) = false := by decide) (he : starEach (e :: es) X.env = (false, eval e X.env) :: starEach es X.env := by rfl) (hpl : (backTo pos (starEach es X.env)).any (·.1) = false := by rfl) :
    PE X (.Call (.Name x p) (e :: es) [] pos) (tGivN X kt SP mk fps fr js t) := by
  refine ⟨fun pins s σ H Q I hq => ?_⟩
  refine wpAny_Call_Name_kw (ld_glob I hg hm ?_ hdb)
  refine PySem.W.callWith_K (h₀ := X.base) I.ok.mod.kin hk (thn (ha.run pos pins s σ H _ I hq) ?_) he hpl
  rintro us s1 ⟨vs, H1, I1, r, f, c, spn, L, q⟩
  have cs := cells_of I1 (cp I1.ok)
  rw [← hcl c] at cs
  exact ⟨I1.kIn, run_giv G hr hb I1 (nok_tells L cs) r q⟩
end
/-- from the lambda's object to the reading of the call that it is handed to -/
theorem lam_given {P : Program} {w : World} {K : PySem.W.Frag} {mg : Str → Option Value} {base : Heap} {kt : Nat} {SP : Addr → Sp → Sp} {f : Addr} {F : NF} {b : Expr} {sp : Sp} {vs : List V} {H : Hp} {Q : VK} (_h : H f = some (LamO f F b)) (L : LOk P w K mg base kt f F b sp)
    (q : SP f (spLam f F b sp) vs H Q E0) : ∃ (f : Addr) (F : NF) (b : Expr) (sp : Sp), LOk P w K mg base kt f F b sp ∧ SP f (spLam f F b sp) vs H Q E0 := ⟨f, F, b, sp, L, q⟩
theorem extN_seq {K : PySem.W.Frag} {H H' : Hp} {a : Addr} {xs : List V} (e : ExtN H H') (h : SqL K H a xs) : SqL K H' a xs := by
  rcases h with (h | ⟨o, h⟩) | h
  · exact .inl (.inl (e _ _ h fun _ z => by cases z))
  · exact .inl (.inr ⟨o, e _ _ h fun _ z => by cases z⟩)
  · exact .inr h
/-- a def that makes functions, with its code object -/
structure MakT (K : PySem.W.Frag) (x : Str) (st : Stmt) (f c t : Addr) : Prop where
  ex : ∃ oc od kV doc pm an ct osl, K.lookup f = some ⟨oc, od, .func (PySem.W.fnOf x x (defArgs st) (defBody st) (defScope st) .none kV doc pm an (.ref c) ct), osl⟩ ∧ PySem.W.codeIn K (.ref c) x = true
  hd : PySem.W.codeHdIn K c t = true
theorem mak_ok {P : Program} {w : World} {K : PySem.W.Frag} {mg : Str → Option Value} {base : Heap} {x : Str} {st : Stmt} {f c tb : Addr} {fd : FuncData} {N ps : List Str} {k : Nat} {sp : Sp} (F : Fun K x x st f fd) (M : MakT K x st f c tb) (S : FnScope N ps (defScope st)) (len : ∀ vs H Q E, sp vs H Q E → vs.length = ps.length)
    (hbody : ∀ (A : Around) (outer : List Env) (s : Shared) (H : Hp) (vs : List V) (Q : VK) (E : XK), Room k (A.deeper (envOfC x (defScope st) s.heap.objs.size f (.ref c))) → sp vs H Q E →
      ∃ t, PSs (cxOf CX0 P w K mg base N x (defScope st) f (.ref c) A outer s H E).nox (defBody st) t ∧ t { nx := fun _ H' => Q .non H', rt := Q } (start N vs) H) : FnOk P w K mg base CX0 (k + 1) f fd ps sp := by
  obtain ⟨oc, od, kV, doc, pm, an, ct, osl, lk, hcd⟩ := M.ex
  obtain ⟨oc', od', kV', doc', pm', an', cdv', ct', osl', rfl, lk', hcd'⟩ := F.ex
  rw [lk'] at lk
  injection lk with lk
  injection lk with e1 e2 e3 e4
  injection e3 with e3
  injection e3 with e3 e5 e6 e7 e8 e9 e10 e11 e12 e13 e14 e15 e16 e17 e18
  subst e16
  refine fn_of lk' hcd' S len fun A outer s H vs Q E hr hsp => ?_
  obtain ⟨t, h1, h2⟩ := hbody A outer s H vs Q E hr hsp
  exact ⟨t, h1.nox, h2⟩
end HC
namespace HC
open PySem PySem.Spec PyProof.Rows L2 LamX
open PySem.W (WData Codec OpenSpec WellAll ReadsW)
/-! ### a Spec row's call where tables of code objects may grow (defs that make functions) -/
theorem SqT_same {K : PySem.W.Frag} {H H' : Hp} {a : Addr} {xs : List V} (e : Same H H') (h : SqT K H a xs) : SqT K H' a xs := by
  rcases h with (h | ⟨o, h⟩) | h
  · exact .inl (.inl (e _ _ h))
  · exact .inl (.inr ⟨o, e _ _ h⟩)
  · exact .inr h
mutual
theorem Dw_same {K : PySem.W.Frag} {H H' : Hp} (e : Same H H') : ∀ {v : V} {x : WData}, Dw K H v x → Dw K H' v x
  | _, _, .non => .non
  | _, _, .bl b => .bl b
  | _, _, .int i => .int i
  | _, _, .str x => .str x
  | _, _, .byt b => .byt b
  | _, _, .lst h t => .lst (e.seq h) (DwAll_same e t)
  | _, _, .tup h t => .tup (SqT_same e h) (DwAll_same e t)
theorem DwAll_same {K : PySem.W.Frag} {H H' : Hp} (e : Same H H') : ∀ {vs : List V} {xs : List WData}, DwAll K H vs xs → DwAll K H' vs xs
  | _, _, .nil => .nil
  | _, _, .cons h t => .cons (Dw_same e h) (DwAll_same e t)
end
/-- an empty table, in the concrete heap -/
abbrev tab0 : Obj := { cls := .none, data := .fields #[] }
/-- the tracked heap at the entry: the arguments, and the tables -/
def withTabs (ts : List Addr) (G : Hp) : Hp := fun b => if b ∈ ts then some (.tbl #[]) else G b
theorem withTabs_in {ts : List Addr} {G : Hp} {b : Addr} (h : b ∈ ts) : withTabs ts G b = some (.tbl #[]) := if_pos h
theorem withTabs_out {ts : List Addr} {G : Hp} {b : Addr} (h : b ∉ ts) : withTabs ts G b = G b := if_neg h
section
variable {P : Program} {w : World} {K : PySem.W.Frag} {mg mb : Str → Option Value} {CX : CXT} {k : Nat} {fa : Addr} {fd : FuncData} {ps : List Str} {sp : Sp} {z : Shared} {us : List Value} {ds : List WData} {R : PySem.W.WRecords} {cl : Str → Option Addr} {d0 : WData} {cs : List (Addr × Addr)}
theorem call_tabs (KX : K.In z.heap) (hm : z.heap.Ns mainGlobals mg) (hbl : z.heap.Ns builtinsNs mb) (hbb : ∀ x : Str, x ≠ "__name__" → mb x = bootBuiltins x) (lim : z.heap.NoLimit) (gen : z.gens = #[])
    (tb : ∀ p ∈ cs, z.heap.get? p.2 = some tab0) (tn : ∀ p ∈ cs, K.lookup p.2 = none) (tc : ∀ p ∈ cs, PySem.W.CodeHd z.heap p.1 p.2)
    (bmn : ∃ (bm : Addr) (ob : Obj), mg "__builtins__" = some (.ref bm) ∧ bm ≠ builtinsNs ∧ z.heap.get? bm = some ob ∧ ob.cls = .type "module" ∧ ob.dict = some builtinsNs ∧ ob.data = .plain)
    (wl : WellAll w.params z.heap us ds) (pl : plWs ds = true) (wt : ∀ x ∈ ds, x.weight ≤ 1048576) (room : Room k callerA)
    (Fn : ∀ base : Heap, K.In base → base.Ns mainGlobals mg → (∀ p ∈ cs, TabB base mg p.1 p.2) → FnOk P w K mg base CX k fa fd ps sp) (bnd : ∀ (s : Shared) (vs : List Value), vs.length = ps.length → BindsTo s fd ⟨vs, []⟩ (ps.zip vs)) (len : ds.length = ps.length)
    (say : ∀ (H : Hp) (xs : List V), (∀ p ∈ cs, H p.2 = some (.tbl #[])) → DwAll K H xs ds → sp xs H (fun v H' => Dw K H' v d0) fun _ _ _ => False)
    (no : ∀ H e s', CX [] H z (fun _ _ _ => False) e s' → False) :
    codeAny (model P w) callerA (.call (.ref fa) ⟨us, []⟩) (fun r s' => ∃ u as, r = .ok (.ret u) ∧ ReadsW R cl s'.heap u d0 as ∧ OldK z.heap s'.heap ∧ s'.os = z.os ∧ AllBare s'.gens) z := by
  obtain ⟨A, okA, ar⟩ := area_all ds us wl pl wt
  have hOF : OnlyF (argH K z.heap A) := argH_only ar
  have hokA : HOk P w (argH K z.heap A) z.heap := argH_ok ar
  have hD := dw_all KX ar ds us wl pl okA
  have hV := vals_toV okA
  have inT : ∀ b, b ∈ cs.map (·.2) → z.heap.get? b = some tab0 ∧ K.lookup b = none := fun b hb => by
    obtain ⟨p, hp, e⟩ := List.mem_map.mp hb
    rw [← e]
    exact ⟨tb p hp, tn p hp⟩
  have mem : ∀ p ∈ cs, p.2 ∈ cs.map (·.2) := fun p hp => List.mem_map.mpr ⟨p, hp, rfl⟩
  have argT : ∀ b u, argH K z.heap A b = some u → b ∉ cs.map (·.2) := fun b u q hb => by
    have e := (inT b hb).1
    obtain ⟨_, vs, _, _, ⟨e2, _⟩ | ⟨e2, _⟩⟩ := argH_is ar q
    · rw [e2] at e
      have y : Data.seq vs.toArray _ = Data.fields #[] := congrArg Obj.data (Option.some.inj e)
      cases y
    · rw [e2] at e
      have y : Data.seq vs.toArray _ = Data.fields #[] := congrArg Obj.data (Option.some.inj e)
      cases y
  have argK : ∀ b u, argH K z.heap A b = some u → K.lookup b = none := fun b u q => (argH_is ar q).1
  have argS : ∀ b u o, argH K z.heap A b = some u → z.heap.get? b = some o → ∃ its n, o.data = .seq its n := fun b u o q e => by
    obtain ⟨_, vs, _, _, ⟨e2, _⟩ | ⟨e2, _⟩⟩ := argH_is ar q <;>
    · rw [e2] at e
      cases e
      exact ⟨_, _, rfl⟩
  generalize argH K z.heap A = G at hOF hokA hD argT argK argS
  have sm : Same G (withTabs (cs.map (·.2)) G) := fun b u q => (withTabs_out (argT b u q)).trans q
  have hok : HOk P w (withTabs (cs.map (·.2)) G) z.heap := fun b u q => by
    by_cases hb : b ∈ cs.map (·.2)
    · rw [withTabs_in hb] at q
      cases q
      exact (inT b hb).1
    · rw [withTabs_out hb] at q
      refine (hokA b u q).stay (fun _ _ _ y => y) (fun y q2 => sm _ _ q2) fun y xs q2 => sm _ _ q2
  have freeD : ∀ {b : Addr} {o : Obj}, z.heap.get? b = some o → (∀ its n, o.data ≠ .seq its n) → o.data ≠ .fields #[] → withTabs (cs.map (·.2)) G b = none := fun {b o} e h1 h2 => by
    by_cases hb : b ∈ cs.map (·.2)
    · rw [(inT b hb).1] at e
      cases e
      exact (h2 rfl).elim
    · rw [withTabs_out hb]
      cases q : G b with
      | none => rfl
      | some u =>
        obtain ⟨its, n, y⟩ := argS b u o q e
        exact (h1 its n y).elim
  have freeK : ∀ b o, K.lookup b = some o → withTabs (cs.map (·.2)) G b = none := fun b o e => by
    by_cases hb : b ∈ cs.map (·.2)
    · rw [(inT b hb).2] at e
      cases e
    · rw [withTabs_out hb]
      cases q : G b with
      | none => rfl
      | some u =>
        rw [argK b u q] at e
        cases e
  have hH : ∀ p ∈ cs, withTabs (cs.map (·.2)) G p.2 = some (.tbl #[]) := fun p hp => withTabs_in (mem p hp)
  have only : ∀ b, b ∉ cs.map (·.2) → withTabs (cs.map (·.2)) G b = none ∨ ∃ o u, withTabs (cs.map (·.2)) G b = some (.frz o u) := fun b hb => by
    rw [withTabs_out hb]
    exact hOF b
  have hD2 := DwAll_same sm hD
  generalize withTabs (cs.map (·.2)) G = H at hok freeD freeK hH only hD2
  have keepB : ∀ {b : Addr} {o : Obj}, z.heap.get? b = some o → H b = none → (hidT z.heap H).get? b = some o := fun e n => hidT_get e n
  have nsB : ∀ {b : Addr} {m : Str → Option Value}, z.heap.Ns b m → (hidT z.heap H).Ns b m := fun {b m} ⟨o, es, ep, e, y, r⟩ =>
    ⟨o, es, ep, keepB e (freeD e (fun its n q => by rw [y] at q; cases q) fun q => by rw [y] at q; cases q), y, r⟩
  have KB : K.In (hidT z.heap H) := fun b o e => keepB (KX b o e) (freeK b o e)
  have md : Mod K mg (hidT z.heap H) := ⟨KB, nsB hm, ⟨mb, nsB hbl, hbb⟩, let ⟨mc, h1, h2⟩ := lim; ⟨mc, nsB h1, h2⟩⟩
  have TB : ∀ p ∈ cs, TabB (hidT z.heap H) mg p.1 p.2 := fun p hp => by
    have hTp := tb p hp
    refine ⟨?_, ?_, fun y => ?_⟩
    · obtain ⟨o, vs, file, tf, fl, tg, inF, text, tt, e1, r1, r2, r3, rest⟩ := tc p hp
      refine ⟨o, vs, file, tf, fl, tg, inF, text, tt, keepB e1 (freeD e1 (fun its n q => ?_) fun q => ?_), r1, r2, r3, rest⟩
      · rw [r2] at q
        cases q
      · rw [r2] at q
        cases q
        simp at r3
    · obtain ⟨bm, ob, b1, b2, b3, b4, b5, b6⟩ := bmn
      have n1 : bm ≠ mainGlobals := fun q => by
        obtain ⟨o, es, ep, e, y, _⟩ := hm
        rw [q, e] at b3
        cases b3
        rw [y] at b6
        cases b6
      have n2 : bm ≠ p.2 := fun q => by
        rw [q, hTp] at b3
        cases b3
        cases b6
      exact ⟨bm, ob, b1, b2, n1, n2, keepB b3 (freeD b3 (fun its n q => by rw [b6] at q; cases q) fun q => by rw [b6] at q; cases q), b4, b5, b6⟩
    · obtain ⟨o, es, ep, e, hd, _⟩ := hm
      rw [y, hTp] at e
      cases e
      cases hd
  have e0 : Env0 P w K mg (hidT z.heap H) callerA [] z H := ⟨rfl, md, fun b o e => of_hidT e, Nat.le_of_eq (hidT_size _ _), trivial, fun b hb => absurd (show b ∈ ([] : List Addr) from hb) (by simp), hok, .of_eq gen⟩
  have hl : us.length = ps.length := by rw [wellAll_len wl]; exact len
  refine codeAny_mono ((Fn _ KB (nsB hm) TB).run callerA [] z H ⟨us, []⟩ us (us.map toV) _ _ room e0 (bnd z us hl) hV (say H _ hH hD2)) fun r s' y => ?_
  cases r with
  | error e => exact (no H e s' y).elim
  | ok fl =>
    cases fl with
    | next => exact False.elim y
    | brk => exact False.elim y
    | cont => exact False.elim y
    | ret u =>
      obtain ⟨v, H', os, bare, un, hok', rv, q⟩ := y
      have kept : ∀ b o, b ∉ cs.map (·.2) → z.heap.get? b = some o → s'.heap.get? b = some o := fun b o nb e => by
        rcases only b nb with n | ⟨ob, u3, n⟩
        · exact un.keep b o e n (by intro y; exact absurd (show b ∈ ([] : List Addr) from y) (by simp)) (by simp)
        · obtain ⟨e1, _⟩ := hok b _ n
          obtain ⟨e2, _⟩ := hok' b _ (un.frzs b ob _ n)
          rw [e] at e1
          cases e1
          exact e2
      have grown : ∀ p ∈ cs, ∃ more : Array Value, s'.heap.get? p.2 = some { cls := .none, data := .fields more } := fun p hp => by
        obtain ⟨more, y⟩ := un.tbls p.2 #[] (hH p hp)
        exact ⟨_, hok' p.2 _ y⟩
      have KX' : K.In s'.heap := fun b o e => kept b o (fun hb => by rw [(inT b hb).2] at e; cases e) (KX b o e)
      obtain ⟨as, rd⟩ := Dw.reads (R := R) (cl := cl) hok' KX' d0 v u q rv
      refine ⟨u, as, rfl, rd, ⟨fun b o e => ?_, fun b o e => ?_⟩, os, bare⟩
      · by_cases hb : b ∈ cs.map (·.2)
        · obtain ⟨p, hp, ep⟩ := List.mem_map.mp hb
          obtain ⟨more, hmo⟩ := grown p hp
          rw [← ep] at e ⊢
          rw [tb p hp] at e
          cases e
          exact .inr (.inl ⟨((tc p hp).tab (tb p hp)).isCodeTable, rfl, #[], more, rfl, by rw [Array.empty_append]; exact hmo⟩)
        · exact .inl (kept b o hb e)
      · by_cases hb : b ∈ cs.map (·.2)
        · obtain ⟨p, hp, ep⟩ := List.mem_map.mp hb
          obtain ⟨more, hmo⟩ := grown p hp
          rw [← ep]
          exact ⟨_, hmo⟩
        · exact ⟨o, kept b o hb e⟩
end
/-- the walk of a Spec row whose written part and tables come with the facts -/
theorem walk_tabs {r : OpenSpec} {k : Nat} {q : Program} {loose : List Str} {XP : (Str → Option Value) → Heap → Prop} {YP : World → Heap → Prop} {dr : DefRec} {CX : CXT} {ps : List Str} {sp : PySem.W.Frag → List (Addr × Addr) → Sp}
    (room : Room k callerA) (well : r.wellSaid = true) (len : r.args.length = ps.length)
    (Fk : ∀ (w : World) (mg : Str → Option Value) (fa : Addr) (h : Heap), YP w h → h.Ns mainGlobals mg → mg dr.name = some (.ref fa) → ∃ (K : PySem.W.Frag) (cs : List (Addr × Addr)), K.In h ∧
      (∀ p ∈ cs, h.get? p.2 = some tab0) ∧ (∀ p ∈ cs, K.lookup p.2 = none) ∧ (∀ p ∈ cs, PySem.W.CodeHd h p.1 p.2) ∧
      ∃ fd : FuncData, (∀ (s : Shared) (us : List Value), us.length = ps.length → BindsTo s fd ⟨us, []⟩ (ps.zip us)) ∧
        ∀ base : Heap, K.In base → base.Ns mainGlobals mg → (∀ p ∈ cs, TabB base mg p.1 p.2) → FnOk r.prog w K mg base CX k fa fd ps (sp K cs))
    (say : ∀ (K : PySem.W.Frag) (cs : List (Addr × Addr)) (H : Hp) (xs : List V) (a : Codec.denoteAll r.args), (∀ p ∈ cs, H p.2 = some (.tbl #[])) → Codec.withinAll r.args a = true → DwAll K H xs (Codec.encAll r.args a) →
      sp K cs xs H (fun v H' => Dw K H' v (r.ret.enc (Codec.app r.args r.f a))) fun _ _ _ => False)
    (no : ∀ (H : Hp) (s : Shared) (e : Value) (s' : Shared), CX [] H s (fun _ _ _ => False) e s' → False) :
    PySem.W.WalkOS q loose XP YP r dr [] (fun f vs => PySem.call f vs) := by
  intro wd sa sb mg mb Gr Yh fa ob pm cd dc dv kv h1 h2 h3 h4 hmg hgn args vals as hpre hlay hrd hwl hlo
  obtain ⟨a, e1, e2⟩ := PySem.W.os_pre_some hpre
  obtain ⟨e3, hwi⟩ := Codec.encAll_of_decAll r.args args a e1
  subst e3
  obtain ⟨K, cs, KX, tb, tn, tc, fd, hbd, hFn⟩ := Fk wd mg fa _ Yh Gr.T.g hmg
  refine PySem.W.enter_call (codeAny_mono (call_tabs (R := []) (cl := classAt sa.heap) (d0 := r.ret.enc (Codec.app r.args r.f a)) KX Gr.T.g Gr.T.b Gr.T.builtins Gr.T.nolimit hgn tb tn tc Gr.T.bmain hwl (pl_encAll _ _) (layable_weight hlay) room hFn hbd
    (by rw [encAll_len]; exact len) (fun H xs hH hS => say K cs H xs a hH hwi hS) fun H e s' => no H sb e s') fun rr s' hq => ?_)
  obtain ⟨u, as', rfl, i1, i2, i3, i4⟩ := hq
  exact ⟨.inl ⟨u, _, as', rfl, fun _ => rfl, i1, (PySem.W.OpenSpec.post_iff well hwi _ _).mpr rfl, fun y => Bool.noConfusion (show false = true from y)⟩, i2, i3, i4⟩
end HC
namespace HC
open PySem PySem.Spec PyProof.Rows L2
def top (i : Nat) : Stmt := PySem.Challenge.pw_heraldcoats_s02_at.main.body.getD i (.Pass ⟨0, 0, 0, 0⟩)
abbrev s_Plain_init : Stmt := inClass (top 12) 0
abbrev s_Parted_init : Stmt := inClass (top 13) 0
abbrev s_Varied_init : Stmt := inClass (top 14) 0
abbrev s_Ordinary_init : Stmt := inClass (top 15) 0
abbrev s_Group_init : Stmt := inClass (top 16) 0
abbrev s_Arms_init : Stmt := inClass (top 17) 0
abbrev s_Mark_init : Stmt := inClass (top 18) 0
abbrev s_Marked_init : Stmt := inClass (top 19) 0
abbrev s_Quarterly_init : Stmt := inClass (top 20) 0
abbrev s_Impaled_init : Stmt := inClass (top 21) 0
abbrev s_Pretence_init : Stmt := inClass (top 22) 0
abbrev s_Reader_init : Stmt := inClass (top 32) 0
abbrev s_Reader_take : Stmt := inClass (top 32) 1
abbrev s_Reader_take_tincture_beside : Stmt := inClass (top 32) 2
abbrev s_Reader_at_end : Stmt := inClass (top 32) 3
abbrev s_Spot_init : Stmt := inClass (top 157) 0
abbrev s_Misplaced_init : Stmt := inClass (top 31) 0
abbrev s_take_field : Stmt := top 33
abbrev s_take_parted : Stmt := top 34
abbrev s_take_varied : Stmt := top 35
abbrev s_take_fill : Stmt := top 36
abbrev s_take_layer : Stmt := top 37
abbrev s_take_arms : Stmt := top 38
abbrev s_take_marks : Stmt := top 39
abbrev s_take_marked : Stmt := top 40
abbrev s_take_coat : Stmt := top 41
abbrev s_take_quarterly : Stmt := top 42
abbrev s_decode : Stmt := top 43
abbrev s_coats_in : Stmt := top 45
abbrev s_parts_in : Stmt := top 46
abbrev s_from_scallop_middle : Stmt := top 48
abbrev s_in_first_half : Stmt := top 49
abbrev s_straight : Stmt := top 50
abbrev s_wavy : Stmt := top 51
abbrev s_embattled : Stmt := top 52
abbrev s_indented : Stmt := top 53
abbrev s_engrailed : Stmt := top 54
abbrev s_invected : Stmt := top 55
abbrev s_offset : Stmt := top 57
abbrev s_mirrored : Stmt := top 61
abbrev s_from_middle : Stmt := top 62
abbrev s_over_bend : Stmt := top 63
abbrev s_along_bend : Stmt := top 64
abbrev s_per_pale : Stmt := top 66
abbrev s_per_fess : Stmt := top 67
abbrev s_per_bend : Stmt := top 68
abbrev s_per_bend_sinister : Stmt := top 69
abbrev s_per_chevron : Stmt := top 70
abbrev s_per_saltire : Stmt := top 71
abbrev s_per_cross : Stmt := top 72
abbrev s_gyronny : Stmt := top 73
abbrev s_barry : Stmt := top 75
abbrev s_paly : Stmt := top 76
abbrev s_bendy : Stmt := top 77
abbrev s_bendy_sinister : Stmt := top 78
abbrev s_chevronny : Stmt := top 79
abbrev s_chequy : Stmt := top 80
abbrev s_lozengy : Stmt := top 81
abbrev s_has_first : Stmt := top 83
abbrev s_field_tincture : Stmt := top 84
abbrev s_counterchanged_tincture : Stmt := top 85
abbrev s_squared : Stmt := top 88
abbrev s_roundel : Stmt := top 89
abbrev s_annulet : Stmt := top 90
abbrev s_lozenge : Stmt := top 91
abbrev s_mascle : Stmt := top 92
abbrev s_fusil : Stmt := top 93
abbrev s_billet : Stmt := top 94
abbrev s_mullet : Stmt := top 95
abbrev s_crescent : Stmt := top 96
abbrev s_increscent : Stmt := top 97
abbrev s_crosslet : Stmt := top 98
abbrev s_saltorel : Stmt := top 99
abbrev s_escutcheon : Stmt := top 100
abbrev s_tower : Stmt := top 101
abbrev s_sword : Stmt := top 102
abbrev s_wheel : Stmt := top 103
abbrev s_arrow : Stmt := top 104
abbrev s_charge_has : Stmt := top 106
abbrev s_share_middle : Stmt := top 109
abbrev s_across : Stmt := top 110
abbrev s_down : Stmt := top 111
abbrev s_row_middles : Stmt := top 112
abbrev s_fess_middles : Stmt := top 113
abbrev s_pale_middles : Stmt := top 114
abbrev s_bend_middles : Stmt := top 115
abbrev s_bend_sinister_middles : Stmt := top 116
abbrev s_chief_middles : Stmt := top 117
abbrev s_base_middles : Stmt := top 118
abbrev s_row_half : Stmt := top 120
abbrev s_fess_half : Stmt := top 121
abbrev s_pale_half : Stmt := top 122
abbrev s_bend_half : Stmt := top 123
abbrev s_chief_half : Stmt := top 124
abbrev s_base_half : Stmt := top 125
abbrev s_half_side : Stmt := top 127
abbrev s_group_has : Stmt := top 128
abbrev s_chief : Stmt := top 130
abbrev s_base : Stmt := top 131
abbrev s_upright : Stmt := top 132
abbrev s_level : Stmt := top 133
abbrev s_slanting : Stmt := top 134
abbrev s_pale : Stmt := top 135
abbrev s_fess : Stmt := top 136
abbrev s_bend : Stmt := top 137
abbrev s_bend_sinister : Stmt := top 138
abbrev s_chevron : Stmt := top 139
abbrev s_cross : Stmt := top 140
abbrev s_saltire : Stmt := top 141
abbrev s_pile : Stmt := top 142
abbrev s_bordure : Stmt := top 143
abbrev s_in_corner : Stmt := top 144
abbrev s_canton : Stmt := top 145
abbrev s_quarter : Stmt := top 146
abbrev s_ordinary_has : Stmt := top 148
abbrev s_layer_has : Stmt := top 150
abbrev s_layer_tincture : Stmt := top 151
abbrev s_arms_tincture : Stmt := top 152
abbrev s_inner_spot : Stmt := top 158
abbrev s_coats_a_side : Stmt := top 159
abbrev s_quarterly_spot : Stmt := top 160
abbrev s_impaled_spot : Stmt := top 161
abbrev s_pretence_spot : Stmt := top 162
abbrev s_spot_within : Stmt := top 163
abbrev s_part_spot : Stmt := top 164
abbrev s_band_tincture : Stmt := top 165
abbrev s_marked_tincture : Stmt := top 166
abbrev s_answered : Stmt := top 168
abbrev s_answered_at : Stmt := top 169
abbrev s_at : Stmt := top 170
/-- where the top has laid what the walk asks for -/
structure Ad where
  cPlain : Addr
  mPlain_init : Addr
  cParted : Addr
  mParted_init : Addr
  cVaried : Addr
  mVaried_init : Addr
  cOrdinary : Addr
  mOrdinary_init : Addr
  cGroup : Addr
  mGroup_init : Addr
  cArms : Addr
  mArms_init : Addr
  cMark : Addr
  mMark_init : Addr
  cMarked : Addr
  mMarked_init : Addr
  cQuarterly : Addr
  mQuarterly_init : Addr
  cImpaled : Addr
  mImpaled_init : Addr
  cPretence : Addr
  mPretence_init : Addr
  cReader : Addr
  mReader_init : Addr
  mReader_take : Addr
  mReader_take_tincture_beside : Addr
  mReader_at_end : Addr
  cSpot : Addr
  mSpot_init : Addr
  xMisplaced : Addr
  xiMisplaced : Addr
  f_take_field : Addr
  f_take_parted : Addr
  f_take_varied : Addr
  f_take_fill : Addr
  f_take_layer : Addr
  f_take_arms : Addr
  f_take_marks : Addr
  f_take_marked : Addr
  f_take_coat : Addr
  f_take_quarterly : Addr
  f_decode : Addr
  f_coats_in : Addr
  f_parts_in : Addr
  f_from_scallop_middle : Addr
  f_in_first_half : Addr
  f_straight : Addr
  f_wavy : Addr
  f_embattled : Addr
  f_indented : Addr
  f_engrailed : Addr
  f_invected : Addr
  f_offset : Addr
  f_mirrored : Addr
  f_from_middle : Addr
  f_over_bend : Addr
  f_along_bend : Addr
  f_per_pale : Addr
  f_per_fess : Addr
  f_per_bend : Addr
  f_per_bend_sinister : Addr
  f_per_chevron : Addr
  f_per_saltire : Addr
  f_per_cross : Addr
  f_gyronny : Addr
  f_barry : Addr
  f_paly : Addr
  f_bendy : Addr
  f_bendy_sinister : Addr
  f_chevronny : Addr
  f_chequy : Addr
  f_lozengy : Addr
  f_has_first : Addr
  f_field_tincture : Addr
  f_counterchanged_tincture : Addr
  f_squared : Addr
  f_roundel : Addr
  f_annulet : Addr
  f_lozenge : Addr
  f_mascle : Addr
  f_fusil : Addr
  f_billet : Addr
  f_mullet : Addr
  f_crescent : Addr
  f_increscent : Addr
  f_crosslet : Addr
  f_saltorel : Addr
  f_escutcheon : Addr
  f_tower : Addr
  f_sword : Addr
  f_wheel : Addr
  f_arrow : Addr
  f_charge_has : Addr
  f_share_middle : Addr
  f_across : Addr
  f_down : Addr
  f_row_middles : Addr
  f_fess_middles : Addr
  f_pale_middles : Addr
  f_bend_middles : Addr
  f_bend_sinister_middles : Addr
  f_chief_middles : Addr
  f_base_middles : Addr
  f_row_half : Addr
  f_fess_half : Addr
  f_pale_half : Addr
  f_bend_half : Addr
  f_chief_half : Addr
  f_base_half : Addr
  f_half_side : Addr
  f_group_has : Addr
  f_chief : Addr
  f_base : Addr
  f_upright : Addr
  f_level : Addr
  f_slanting : Addr
  f_pale : Addr
  f_fess : Addr
  f_bend : Addr
  f_bend_sinister : Addr
  f_chevron : Addr
  f_cross : Addr
  f_saltire : Addr
  f_pile : Addr
  f_bordure : Addr
  f_in_corner : Addr
  f_canton : Addr
  f_quarter : Addr
  f_ordinary_has : Addr
  f_layer_has : Addr
  f_layer_tincture : Addr
  f_arms_tincture : Addr
  f_inner_spot : Addr
  f_coats_a_side : Addr
  f_quarterly_spot : Addr
  f_impaled_spot : Addr
  f_pretence_spot : Addr
  f_spot_within : Addr
  f_part_spot : Addr
  f_band_tincture : Addr
  f_marked_tincture : Addr
  f_answered : Addr
  f_answered_at : Addr
  c_answered_at : Addr
  t_answered_at : Addr
  f_at : Addr
  c_at : Addr
  t_at : Addr
/-- what the top has written -/
structure Txt (K : PySem.W.Frag) (mg : Str → Option Value) (d : Ad) : Prop where
  kPlain : ClsT K mg "Plain" "Plain.__init__" d.cPlain d.mPlain_init ["tincture"] s_Plain_init ["self", "tincture"]
  kParted : ClsT K mg "Parted" "Parted.__init__" d.cParted d.mParted_init ["way", "line", "first", "second"] s_Parted_init ["self", "way", "line", "first", "second"]
  kVaried : ClsT K mg "Varied" "Varied.__init__" d.cVaried d.mVaried_init ["way", "pieces", "line", "first", "second"] s_Varied_init ["self", "way", "pieces", "line", "first", "second"]
  kOrdinary : ClsT K mg "Ordinary" "Ordinary.__init__" d.cOrdinary d.mOrdinary_init ["figure", "line", "fill"] s_Ordinary_init ["self", "figure", "line", "fill"]
  kGroup : ClsT K mg "Group" "Group.__init__" d.cGroup d.mGroup_init ["charge", "many", "manner", "size", "fill"] s_Group_init ["self", "charge", "many", "manner", "size", "fill"]
  kArms : ClsT K mg "Arms" "Arms.__init__" d.cArms d.mArms_init ["field", "layers"] s_Arms_init ["self", "field", "layers"]
  kMark : ClsT K mg "Mark" "Mark.__init__" d.cMark d.mMark_init ["g", "k"] s_Mark_init ["self", "g", "k"]
  kMarked : ClsT K mg "Marked" "Marked.__init__" d.cMarked d.mMarked_init ["arms", "canton", "marks"] s_Marked_init ["self", "arms", "canton", "marks"]
  kQuarterly : ClsT K mg "Quarterly" "Quarterly.__init__" d.cQuarterly d.mQuarterly_init ["coats"] s_Quarterly_init ["self", "coats"]
  kImpaled : ClsT K mg "Impaled" "Impaled.__init__" d.cImpaled d.mImpaled_init ["dexter", "sinister"] s_Impaled_init ["self", "dexter", "sinister"]
  kPretence : ClsT K mg "Pretence" "Pretence.__init__" d.cPretence d.mPretence_init ["below", "upon"] s_Pretence_init ["self", "below", "upon"]
  kReader : ClsT K mg "Reader" "Reader.__init__" d.cReader d.mReader_init ["numbers", "place"] s_Reader_init ["self", "numbers"]
  kReader_take : MetT K d.cReader "take" "Reader.take" s_Reader_take d.mReader_take ["self", "least", "most"]
  kReader_take_tincture_beside : MetT K d.cReader "take_tincture_beside" "Reader.take_tincture_beside" s_Reader_take_tincture_beside d.mReader_take_tincture_beside ["self", "other"]
  kReader_at_end : MetT K d.cReader "at_end" "Reader.at_end" s_Reader_at_end d.mReader_at_end ["self"]
  kSpot : ClsT K mg "Spot" "Spot.__init__" d.cSpot d.mSpot_init ["coat", "number", "p", "r"] s_Spot_init ["self", "coat", "number", "p", "r"]
  xMisplaced : PySem.LowX.LowTxt K mg d.xMisplaced d.xiMisplaced
  k_take_field : DefT K mg "take_field" s_take_field d.f_take_field ["reader"]
  k_take_parted : DefT K mg "take_parted" s_take_parted d.f_take_parted ["reader"]
  k_take_varied : DefT K mg "take_varied" s_take_varied d.f_take_varied ["reader"]
  k_take_fill : DefT K mg "take_fill" s_take_fill d.f_take_fill ["reader", "field"]
  k_take_layer : DefT K mg "take_layer" s_take_layer d.f_take_layer ["reader", "field"]
  k_take_arms : DefT K mg "take_arms" s_take_arms d.f_take_arms ["reader"]
  k_take_marks : DefT K mg "take_marks" s_take_marks d.f_take_marks ["reader"]
  k_take_marked : DefT K mg "take_marked" s_take_marked d.f_take_marked ["reader"]
  k_take_coat : DefT K mg "take_coat" s_take_coat d.f_take_coat ["reader", "depth"]
  k_take_quarterly : DefT K mg "take_quarterly" s_take_quarterly d.f_take_quarterly ["reader", "depth"]
  k_decode : DefT K mg "decode" s_decode d.f_decode ["numbers"]
  k_coats_in : DefT K mg "coats_in" s_coats_in d.f_coats_in ["coat"]
  k_parts_in : DefT K mg "parts_in" s_parts_in d.f_parts_in ["coat"]
  k_from_scallop_middle : DefT K mg "from_scallop_middle" s_from_scallop_middle d.f_from_scallop_middle ["t"]
  k_in_first_half : DefT K mg "in_first_half" s_in_first_half d.f_in_first_half ["t"]
  k_straight : DefT K mg "straight" s_straight d.f_straight ["t"]
  k_wavy : DefT K mg "wavy" s_wavy d.f_wavy ["t"]
  k_embattled : DefT K mg "embattled" s_embattled d.f_embattled ["t"]
  k_indented : DefT K mg "indented" s_indented d.f_indented ["t"]
  k_engrailed : DefT K mg "engrailed" s_engrailed d.f_engrailed ["t"]
  k_invected : DefT K mg "invected" s_invected d.f_invected ["t"]
  k_offset : DefT K mg "offset" s_offset d.f_offset ["line", "t"]
  k_mirrored : DefT K mg "mirrored" s_mirrored d.f_mirrored ["p"]
  k_from_middle : DefT K mg "from_middle" s_from_middle d.f_from_middle ["p"]
  k_over_bend : DefT K mg "over_bend" s_over_bend d.f_over_bend ["p", "r"]
  k_along_bend : DefT K mg "along_bend" s_along_bend d.f_along_bend ["p", "r"]
  k_per_pale : DefT K mg "per_pale" s_per_pale d.f_per_pale ["line", "p", "r"]
  k_per_fess : DefT K mg "per_fess" s_per_fess d.f_per_fess ["line", "p", "r"]
  k_per_bend : DefT K mg "per_bend" s_per_bend d.f_per_bend ["line", "p", "r"]
  k_per_bend_sinister : DefT K mg "per_bend_sinister" s_per_bend_sinister d.f_per_bend_sinister ["line", "p", "r"]
  k_per_chevron : DefT K mg "per_chevron" s_per_chevron d.f_per_chevron ["line", "p", "r"]
  k_per_saltire : DefT K mg "per_saltire" s_per_saltire d.f_per_saltire ["line", "p", "r"]
  k_per_cross : DefT K mg "per_cross" s_per_cross d.f_per_cross ["line", "p", "r"]
  k_gyronny : DefT K mg "gyronny" s_gyronny d.f_gyronny ["line", "p", "r"]
  k_barry : DefT K mg "barry" s_barry d.f_barry ["pieces", "line", "p", "r"]
  k_paly : DefT K mg "paly" s_paly d.f_paly ["pieces", "line", "p", "r"]
  k_bendy : DefT K mg "bendy" s_bendy d.f_bendy ["pieces", "line", "p", "r"]
  k_bendy_sinister : DefT K mg "bendy_sinister" s_bendy_sinister d.f_bendy_sinister ["pieces", "line", "p", "r"]
  k_chevronny : DefT K mg "chevronny" s_chevronny d.f_chevronny ["pieces", "line", "p", "r"]
  k_chequy : DefT K mg "chequy" s_chequy d.f_chequy ["pieces", "line", "p", "r"]
  k_lozengy : DefT K mg "lozengy" s_lozengy d.f_lozengy ["pieces", "line", "p", "r"]
  k_has_first : DefT K mg "has_first" s_has_first d.f_has_first ["field", "p", "r"]
  k_field_tincture : DefT K mg "field_tincture" s_field_tincture d.f_field_tincture ["field", "p", "r"]
  k_counterchanged_tincture : DefT K mg "counterchanged_tincture" s_counterchanged_tincture d.f_counterchanged_tincture ["field", "p", "r"]
  k_squared : DefT K mg "squared" s_squared d.f_squared ["x", "y"]
  k_roundel : DefT K mg "roundel" s_roundel d.f_roundel ["x", "y"]
  k_annulet : DefT K mg "annulet" s_annulet d.f_annulet ["x", "y"]
  k_lozenge : DefT K mg "lozenge" s_lozenge d.f_lozenge ["x", "y"]
  k_mascle : DefT K mg "mascle" s_mascle d.f_mascle ["x", "y"]
  k_fusil : DefT K mg "fusil" s_fusil d.f_fusil ["x", "y"]
  k_billet : DefT K mg "billet" s_billet d.f_billet ["x", "y"]
  k_mullet : DefT K mg "mullet" s_mullet d.f_mullet ["x", "y"]
  k_crescent : DefT K mg "crescent" s_crescent d.f_crescent ["x", "y"]
  k_increscent : DefT K mg "increscent" s_increscent d.f_increscent ["x", "y"]
  k_crosslet : DefT K mg "crosslet" s_crosslet d.f_crosslet ["x", "y"]
  k_saltorel : DefT K mg "saltorel" s_saltorel d.f_saltorel ["x", "y"]
  k_escutcheon : DefT K mg "escutcheon" s_escutcheon d.f_escutcheon ["x", "y"]
  k_tower : DefT K mg "tower" s_tower d.f_tower ["x", "y"]
  k_sword : DefT K mg "sword" s_sword d.f_sword ["x", "y"]
  k_wheel : DefT K mg "wheel" s_wheel d.f_wheel ["x", "y"]
  k_arrow : DefT K mg "arrow" s_arrow d.f_arrow ["x", "y"]
  k_charge_has : DefT K mg "charge_has" s_charge_has d.f_charge_has ["charge", "x", "y"]
  k_share_middle : DefT K mg "share_middle" s_share_middle d.f_share_middle ["length", "k", "many"]
  k_across : DefT K mg "across" s_across d.f_across ["k", "many"]
  k_down : DefT K mg "down" s_down d.f_down ["k", "many"]
  k_row_middles : DefT K mg "row_middles" s_row_middles d.f_row_middles ["many"]
  k_fess_middles : DefT K mg "fess_middles" s_fess_middles d.f_fess_middles ["many"]
  k_pale_middles : DefT K mg "pale_middles" s_pale_middles d.f_pale_middles ["many"]
  k_bend_middles : DefT K mg "bend_middles" s_bend_middles d.f_bend_middles ["many"]
  k_bend_sinister_middles : DefT K mg "bend_sinister_middles" s_bend_sinister_middles d.f_bend_sinister_middles ["many"]
  k_chief_middles : DefT K mg "chief_middles" s_chief_middles d.f_chief_middles ["many"]
  k_base_middles : DefT K mg "base_middles" s_base_middles d.f_base_middles ["many"]
  k_row_half : DefT K mg "row_half" s_row_half d.f_row_half ["many"]
  k_fess_half : DefT K mg "fess_half" s_fess_half d.f_fess_half ["many"]
  k_pale_half : DefT K mg "pale_half" s_pale_half d.f_pale_half ["many"]
  k_bend_half : DefT K mg "bend_half" s_bend_half d.f_bend_half ["many"]
  k_chief_half : DefT K mg "chief_half" s_chief_half d.f_chief_half ["many"]
  k_base_half : DefT K mg "base_half" s_base_half d.f_base_half ["many"]
  k_half_side : DefT K mg "half_side" s_half_side d.f_half_side ["group"]
  k_group_has : DefT K mg "group_has" s_group_has d.f_group_has ["group", "p", "r"]
  k_chief : DefT K mg "chief" s_chief d.f_chief ["line", "p", "r"]
  k_base : DefT K mg "base" s_base d.f_base ["line", "p", "r"]
  k_upright : DefT K mg "upright" s_upright d.f_upright ["line", "p", "r", "left", "right"]
  k_level : DefT K mg "level" s_level d.f_level ["line", "p", "r", "top", "bottom"]
  k_slanting : DefT K mg "slanting" s_slanting d.f_slanting ["line", "p", "r", "breadth"]
  k_pale : DefT K mg "pale" s_pale d.f_pale ["line", "p", "r"]
  k_fess : DefT K mg "fess" s_fess d.f_fess ["line", "p", "r"]
  k_bend : DefT K mg "bend" s_bend d.f_bend ["line", "p", "r"]
  k_bend_sinister : DefT K mg "bend_sinister" s_bend_sinister d.f_bend_sinister ["line", "p", "r"]
  k_chevron : DefT K mg "chevron" s_chevron d.f_chevron ["line", "p", "r"]
  k_cross : DefT K mg "cross" s_cross d.f_cross ["line", "p", "r"]
  k_saltire : DefT K mg "saltire" s_saltire d.f_saltire ["line", "p", "r"]
  k_pile : DefT K mg "pile" s_pile d.f_pile ["line", "p", "r"]
  k_bordure : DefT K mg "bordure" s_bordure d.f_bordure ["line", "p", "r"]
  k_in_corner : DefT K mg "in_corner" s_in_corner d.f_in_corner ["line", "p", "r", "right", "bottom"]
  k_canton : DefT K mg "canton" s_canton d.f_canton ["line", "p", "r"]
  k_quarter : DefT K mg "quarter" s_quarter d.f_quarter ["line", "p", "r"]
  k_ordinary_has : DefT K mg "ordinary_has" s_ordinary_has d.f_ordinary_has ["figure", "line", "p", "r"]
  k_layer_has : DefT K mg "layer_has" s_layer_has d.f_layer_has ["layer", "p", "r"]
  k_layer_tincture : DefT K mg "layer_tincture" s_layer_tincture d.f_layer_tincture ["layer", "field", "p", "r"]
  k_arms_tincture : DefT K mg "arms_tincture" s_arms_tincture d.f_arms_tincture ["arms", "p", "r"]
  k_inner_spot : DefT K mg "inner_spot" s_inner_spot d.f_inner_spot ["spot", "index", "p", "r"]
  k_coats_a_side : DefT K mg "coats_a_side" s_coats_a_side d.f_coats_a_side ["many"]
  k_quarterly_spot : DefT K mg "quarterly_spot" s_quarterly_spot d.f_quarterly_spot ["spot"]
  k_impaled_spot : DefT K mg "impaled_spot" s_impaled_spot d.f_impaled_spot ["spot"]
  k_pretence_spot : DefT K mg "pretence_spot" s_pretence_spot d.f_pretence_spot ["spot"]
  k_spot_within : DefT K mg "spot_within" s_spot_within d.f_spot_within ["spot"]
  k_part_spot : DefT K mg "part_spot" s_part_spot d.f_part_spot ["coat", "p", "r"]
  k_band_tincture : DefT K mg "band_tincture" s_band_tincture d.f_band_tincture ["marks", "p", "r"]
  k_marked_tincture : DefT K mg "marked_tincture" s_marked_tincture d.f_marked_tincture ["marked", "p", "r"]
  k_answered : DefT K mg "answered" s_answered d.f_answered ["c", "tell"]
  k_answered_at : DefT K mg "answered_at" s_answered_at d.f_answered_at ["p", "r", "c", "tell"]
  m_answered_at : MakT K "answered_at" s_answered_at d.f_answered_at d.c_answered_at d.t_answered_at
  k_at : DefT K mg "at" s_at d.f_at ["p", "r", "c"]
  m_at : MakT K "at" s_at d.f_at d.c_at d.t_at
  tn_answered_at_at : d.t_answered_at ≠ d.t_at
  nFEWEST_PIECES : ∃ t, mg "FEWEST_PIECES" = some (.int 2 t)
  nMOST_PIECES : ∃ t, mg "MOST_PIECES" = some (.int 24 t)
  nFIRST_STRAIGHT_WAY : ∃ t, mg "FIRST_STRAIGHT_WAY" = some (.int 5 t)
  nMOST_LAYERS : ∃ t, mg "MOST_LAYERS" = some (.int 8 t)
  nMOST_MARKS : ∃ t, mg "MOST_MARKS" = some (.int 60 t)
  nMOST_G : ∃ t, mg "MOST_G" = some (.int 127 t)
  nLEAST_K : ∃ t, mg "LEAST_K" = some (.int 1 t)
  nMOST_K : ∃ t, mg "MOST_K" = some (.int 255 t)
  nFEWEST_QUARTERS : ∃ t, mg "FEWEST_QUARTERS" = some (.int 2 t)
  nMOST_QUARTERS : ∃ t, mg "MOST_QUARTERS" = some (.int 9 t)
  nMOST_DEEP : ∃ t, mg "MOST_DEEP" = some (.int 4 t)
  nLAST_TINCTURE : ∃ t, mg "LAST_TINCTURE" = some (.int 8 t)
  nLAST_LINE : ∃ t, mg "LAST_LINE" = some (.int 5 t)
  nLAST_PARTED_WAY : ∃ t, mg "LAST_PARTED_WAY" = some (.int 7 t)
  nLAST_VARIED_WAY : ∃ t, mg "LAST_VARIED_WAY" = some (.int 6 t)
  nLAST_ORDINARY : ∃ t, mg "LAST_ORDINARY" = some (.int 12 t)
  nLAST_CHARGE : ∃ t, mg "LAST_CHARGE" = some (.int 15 t)
  nLAST_MANNER : ∃ t, mg "LAST_MANNER" = some (.int 6 t)
  nWIDTH : ∃ t, mg "WIDTH" = some (.int 480 t)
  nHEIGHT : ∃ t, mg "HEIGHT" = some (.int 576 t)
  nREACH : ∃ t, mg "REACH" = some (.int 48 t)
  nARGENT : ∃ t, mg "ARGENT" = some (.int 1 t)
  nMURREY : ∃ t, mg "MURREY" = some (.int 9 t)
  nBAND_HEIGHT : ∃ t, mg "BAND_HEIGHT" = some (.int 96 t)
  tLINES : ∃ a, mg "LINES" = some (.ref a) ∧ TupK K a [.ref d.f_straight, .ref d.f_wavy, .ref d.f_embattled, .ref d.f_indented, .ref d.f_engrailed, .ref d.f_invected]
  tPARTINGS : ∃ a, mg "PARTINGS" = some (.ref a) ∧ TupK K a [.ref d.f_per_pale, .ref d.f_per_fess, .ref d.f_per_bend, .ref d.f_per_bend_sinister, .ref d.f_per_chevron, .ref d.f_per_saltire, .ref d.f_per_cross, .ref d.f_gyronny]
  tVARIATIONS : ∃ a, mg "VARIATIONS" = some (.ref a) ∧ TupK K a [.ref d.f_barry, .ref d.f_paly, .ref d.f_bendy, .ref d.f_bendy_sinister, .ref d.f_chevronny, .ref d.f_chequy, .ref d.f_lozengy]
  tCHARGES : ∃ a, mg "CHARGES" = some (.ref a) ∧ TupK K a [.ref d.f_roundel, .ref d.f_annulet, .ref d.f_lozenge, .ref d.f_mascle, .ref d.f_fusil, .ref d.f_billet, .ref d.f_mullet, .ref d.f_crescent, .ref d.f_increscent, .ref d.f_crosslet, .ref d.f_saltorel, .ref d.f_escutcheon, .ref d.f_tower, .ref d.f_sword, .ref d.f_wheel, .ref d.f_arrow]
  tMIDDLES : ∃ a, mg "MIDDLES" = some (.ref a) ∧ TupK K a [.ref d.f_row_middles, .ref d.f_fess_middles, .ref d.f_pale_middles, .ref d.f_bend_middles, .ref d.f_bend_sinister_middles, .ref d.f_chief_middles, .ref d.f_base_middles]
  tHALVES : ∃ a, mg "HALVES" = some (.ref a) ∧ TupK K a [.ref d.f_row_half, .ref d.f_fess_half, .ref d.f_pale_half, .ref d.f_bend_half, .ref d.f_bend_half, .ref d.f_chief_half, .ref d.f_base_half]
  tORDINARIES : ∃ a, mg "ORDINARIES" = some (.ref a) ∧ TupK K a [.ref d.f_chief, .ref d.f_base, .ref d.f_pale, .ref d.f_fess, .ref d.f_bend, .ref d.f_bend_sinister, .ref d.f_chevron, .ref d.f_cross, .ref d.f_saltire, .ref d.f_pile, .ref d.f_bordure, .ref d.f_canton, .ref d.f_quarter]
  tROWS : ∃ a b0 b1 b2 b3 b4 b5 b6 b7 b8 b9, mg "ROWS" = some (.ref a) ∧ TupK K a [.ref b0, .ref b1, .ref b2, .ref b3, .ref b4, .ref b5, .ref b6, .ref b7, .ref b8, .ref b9] ∧ TupK K b0 [.int 1] ∧ TupK K b1 [.int 2] ∧ TupK K b2 [.int 2, .int 1] ∧ TupK K b3 [.int 2, .int 2] ∧ TupK K b4 [.int 2, .int 1, .int 2] ∧ TupK K b5 [.int 3, .int 2, .int 1] ∧ TupK K b6 [.int 3, .int 3, .int 1] ∧ TupK K b7 [.int 3, .int 2, .int 3] ∧ TupK K b8 [.int 3, .int 3, .int 3] ∧ TupK K b9 [.int 4, .int 3, .int 2, .int 1]
  b_len : mg "len" = none
  b_range : mg "range" = none
  b_isinstance : mg "isinstance" = none
  b_abs : mg "abs" = none
  b_min : mg "min" = none
  b_max : mg "max" = none
  b_enumerate : mg "enumerate" = none
  b_reversed : mg "reversed" = none
  b_sum : mg "sum" = none
  b_list : mg "list" = none
  gs : PySem.W.specialIn K (.builtin "object.__class__") "__get__" = some (some (.builtin "getset_descriptor.__get__"))
  tk : PySem.W.takesIn K (.builtin "object.__class__") = some true
  iMarked_Impaled : PySem.W.kitOne K (.ref d.cMarked) (.ref d.cImpaled) = some false
  iQuarterly_Impaled : PySem.W.kitOne K (.ref d.cQuarterly) (.ref d.cImpaled) = some false
  iImpaled_Impaled : PySem.W.kitOne K (.ref d.cImpaled) (.ref d.cImpaled) = some true
  iPretence_Impaled : PySem.W.kitOne K (.ref d.cPretence) (.ref d.cImpaled) = some false
  iMarked_Marked : PySem.W.kitOne K (.ref d.cMarked) (.ref d.cMarked) = some true
  iQuarterly_Marked : PySem.W.kitOne K (.ref d.cQuarterly) (.ref d.cMarked) = some false
  iImpaled_Marked : PySem.W.kitOne K (.ref d.cImpaled) (.ref d.cMarked) = some false
  iPretence_Marked : PySem.W.kitOne K (.ref d.cPretence) (.ref d.cMarked) = some false
  iOrdinary_Ordinary : PySem.W.kitOne K (.ref d.cOrdinary) (.ref d.cOrdinary) = some true
  iGroup_Ordinary : PySem.W.kitOne K (.ref d.cGroup) (.ref d.cOrdinary) = some false
  iParted_Parted : PySem.W.kitOne K (.ref d.cParted) (.ref d.cParted) = some true
  iVaried_Parted : PySem.W.kitOne K (.ref d.cVaried) (.ref d.cParted) = some false
  iPlain_Plain : PySem.W.kitOne K (.ref d.cPlain) (.ref d.cPlain) = some true
  iParted_Plain : PySem.W.kitOne K (.ref d.cParted) (.ref d.cPlain) = some false
  iVaried_Plain : PySem.W.kitOne K (.ref d.cVaried) (.ref d.cPlain) = some false
  iMarked_Quarterly : PySem.W.kitOne K (.ref d.cMarked) (.ref d.cQuarterly) = some false
  iQuarterly_Quarterly : PySem.W.kitOne K (.ref d.cQuarterly) (.ref d.cQuarterly) = some true
  iImpaled_Quarterly : PySem.W.kitOne K (.ref d.cImpaled) (.ref d.cQuarterly) = some false
  iPretence_Quarterly : PySem.W.kitOne K (.ref d.cPretence) (.ref d.cQuarterly) = some false
end HC
namespace HC
open PySem PySem.Spec PyProof.Rows L2
section
variable {P : Program} {w : World} {K : PySem.W.Frag} {mg : Str → Option Value} {base : Heap} {d : Ad}
theorem sc_Plain_init : FnScope ["self", "tincture"] ["self", "tincture"] (defScope s_Plain_init) := ⟨rfl, rfl, rfl, by decide +kernel, rfl, by decide +kernel, by decide +kernel⟩
theorem ok_Plain_init (T : Txt K mg d) : OkD P w K mg base CX0 1 d.mPlain_init ["self", "tincture"] (spInit d.cPlain ["tincture"]) := by
  obtain ⟨fd, F, B⟩ := T.kPlain.ini
  refine ⟨⟨fd, F.ok sc_Plain_init (fun vs H Q E h => ?_) (fun cdv A outer s H vs Q E hr h => ?_), B⟩, F.kp⟩
  · obtain ⟨p, dx, as, rfl, hl, _⟩ := h
    rw [List.length_cons, hl]
    rfl
  · obtain ⟨p, dx, as, rfl, hl, hp, k⟩ := h
    match as, hl, k with
    | [a0], _, k =>
    refine ⟨_, pss_one (ps_fld (pv 0) (pv 1) rfl), ?_⟩
    refine ⟨_, rfl, _, rfl, p, d.cPlain, dx, _, rfl, hp, T.kPlain.cl, T.kPlain.no.1, (by decide), ?_⟩
    have e1 : putF "tincture" a0 [] = (["tincture"] : List Str).zip [a0] := rfl
    exact k _ (fun b hb => by rw [upd_ne hb]) (by rw [upd_same, e1])
theorem sc_Parted_init : FnScope ["self", "way", "line", "first", "second"] ["self", "way", "line", "first", "second"] (defScope s_Parted_init) := ⟨rfl, rfl, rfl, by decide +kernel, rfl, by decide +kernel, by decide +kernel⟩
theorem ok_Parted_init (T : Txt K mg d) : OkD P w K mg base CX0 1 d.mParted_init ["self", "way", "line", "first", "second"] (spInit d.cParted ["way", "line", "first", "second"]) := by
  obtain ⟨fd, F, B⟩ := T.kParted.ini
  refine ⟨⟨fd, F.ok sc_Parted_init (fun vs H Q E h => ?_) (fun cdv A outer s H vs Q E hr h => ?_), B⟩, F.kp⟩
  · obtain ⟨p, dx, as, rfl, hl, _⟩ := h
    rw [List.length_cons, hl]
    rfl
  · obtain ⟨p, dx, as, rfl, hl, hp, k⟩ := h
    match as, hl, k with
    | [a0, a1, a2, a3], _, k =>
    refine ⟨_, pss_cons (ps_fld (pv 0) (pv 1) rfl) (pss_cons (ps_fld (pv 0) (pv 2) rfl) (pss_cons (ps_fld (pv 0) (pv 3) rfl) (pss_one (ps_fld (pv 0) (pv 4) rfl)))), ?_⟩
    refine ⟨_, rfl, _, rfl, p, d.cParted, dx, _, rfl, hp, T.kParted.cl, T.kParted.no.1, (by decide), ?_⟩
    have e1 : putF "way" a0 [] = (["way"] : List Str).zip [a0] := rfl
    refine ⟨_, rfl, _, rfl, p, d.cParted, dx, _, rfl, upd_same, T.kParted.cl, T.kParted.no.2.1, (by rw [e1]; show 1 < 1000; decide), ?_⟩
    have e2 : putF "line" a1 (putF "way" a0 []) = (["way", "line"] : List Str).zip [a0, a1] := by
      rw [e1, put_new _ _ _ _ rfl (by decide +kernel)]
      rfl
    refine ⟨_, rfl, _, rfl, p, d.cParted, dx, _, rfl, upd_same, T.kParted.cl, T.kParted.no.2.2.1, (by rw [e2]; show 2 < 1000; decide), ?_⟩
    have e3 : putF "first" a2 (putF "line" a1 (putF "way" a0 [])) = (["way", "line", "first"] : List Str).zip [a0, a1, a2] := by
      rw [e2, put_new _ _ _ _ rfl (by decide +kernel)]
      rfl
    refine ⟨_, rfl, _, rfl, p, d.cParted, dx, _, rfl, upd_same, T.kParted.cl, T.kParted.no.2.2.2.1, (by rw [e3]; show 3 < 1000; decide), ?_⟩
    have e4 : putF "second" a3 (putF "first" a2 (putF "line" a1 (putF "way" a0 []))) = (["way", "line", "first", "second"] : List Str).zip [a0, a1, a2, a3] := by
      rw [e3, put_new _ _ _ _ rfl (by decide +kernel)]
      rfl
    exact k _ (fun b hb => by rw [upd_ne hb, upd_ne hb, upd_ne hb, upd_ne hb]) (by rw [upd_same, e4])
theorem sc_Varied_init : FnScope ["self", "way", "pieces", "line", "first", "second"] ["self", "way", "pieces", "line", "first", "second"] (defScope s_Varied_init) := ⟨rfl, rfl, rfl, by decide +kernel, rfl, by decide +kernel, by decide +kernel⟩
theorem ok_Varied_init (T : Txt K mg d) : OkD P w K mg base CX0 1 d.mVaried_init ["self", "way", "pieces", "line", "first", "second"] (spInit d.cVaried ["way", "pieces", "line", "first", "second"]) := by
  obtain ⟨fd, F, B⟩ := T.kVaried.ini
  refine ⟨⟨fd, F.ok sc_Varied_init (fun vs H Q E h => ?_) (fun cdv A outer s H vs Q E hr h => ?_), B⟩, F.kp⟩
  · obtain ⟨p, dx, as, rfl, hl, _⟩ := h
    rw [List.length_cons, hl]
    rfl
  · obtain ⟨p, dx, as, rfl, hl, hp, k⟩ := h
    match as, hl, k with
    | [a0, a1, a2, a3, a4], _, k =>
    refine ⟨_, pss_cons (ps_fld (pv 0) (pv 1) rfl) (pss_cons (ps_fld (pv 0) (pv 2) rfl) (pss_cons (ps_fld (pv 0) (pv 3) rfl) (pss_cons (ps_fld (pv 0) (pv 4) rfl) (pss_one (ps_fld (pv 0) (pv 5) rfl))))), ?_⟩
    refine ⟨_, rfl, _, rfl, p, d.cVaried, dx, _, rfl, hp, T.kVaried.cl, T.kVaried.no.1, (by decide), ?_⟩
    have e1 : putF "way" a0 [] = (["way"] : List Str).zip [a0] := rfl
    refine ⟨_, rfl, _, rfl, p, d.cVaried, dx, _, rfl, upd_same, T.kVaried.cl, T.kVaried.no.2.1, (by rw [e1]; show 1 < 1000; decide), ?_⟩
    have e2 : putF "pieces" a1 (putF "way" a0 []) = (["way", "pieces"] : List Str).zip [a0, a1] := by
      rw [e1, put_new _ _ _ _ rfl (by decide +kernel)]
      rfl
    refine ⟨_, rfl, _, rfl, p, d.cVaried, dx, _, rfl, upd_same, T.kVaried.cl, T.kVaried.no.2.2.1, (by rw [e2]; show 2 < 1000; decide), ?_⟩
    have e3 : putF "line" a2 (putF "pieces" a1 (putF "way" a0 [])) = (["way", "pieces", "line"] : List Str).zip [a0, a1, a2] := by
      rw [e2, put_new _ _ _ _ rfl (by decide +kernel)]
      rfl
    refine ⟨_, rfl, _, rfl, p, d.cVaried, dx, _, rfl, upd_same, T.kVaried.cl, T.kVaried.no.2.2.2.1, (by rw [e3]; show 3 < 1000; decide), ?_⟩
    have e4 : putF "first" a3 (putF "line" a2 (putF "pieces" a1 (putF "way" a0 []))) = (["way", "pieces", "line", "first"] : List Str).zip [a0, a1, a2, a3] := by
      rw [e3, put_new _ _ _ _ rfl (by decide +kernel)]
      rfl
    refine ⟨_, rfl, _, rfl, p, d.cVaried, dx, _, rfl, upd_same, T.kVaried.cl, T.kVaried.no.2.2.2.2.1, (by rw [e4]; show 4 < 1000; decide), ?_⟩
    have e5 : putF "second" a4 (putF "first" a3 (putF "line" a2 (putF "pieces" a1 (putF "way" a0 [])))) = (["way", "pieces", "line", "first", "second"] : List Str).zip [a0, a1, a2, a3, a4] := by
      rw [e4, put_new _ _ _ _ rfl (by decide +kernel)]
      rfl
    exact k _ (fun b hb => by rw [upd_ne hb, upd_ne hb, upd_ne hb, upd_ne hb, upd_ne hb]) (by rw [upd_same, e5])
theorem sc_Ordinary_init : FnScope ["self", "figure", "line", "fill"] ["self", "figure", "line", "fill"] (defScope s_Ordinary_init) := ⟨rfl, rfl, rfl, by decide +kernel, rfl, by decide +kernel, by decide +kernel⟩
theorem ok_Ordinary_init (T : Txt K mg d) : OkD P w K mg base CX0 1 d.mOrdinary_init ["self", "figure", "line", "fill"] (spInit d.cOrdinary ["figure", "line", "fill"]) := by
  obtain ⟨fd, F, B⟩ := T.kOrdinary.ini
  refine ⟨⟨fd, F.ok sc_Ordinary_init (fun vs H Q E h => ?_) (fun cdv A outer s H vs Q E hr h => ?_), B⟩, F.kp⟩
  · obtain ⟨p, dx, as, rfl, hl, _⟩ := h
    rw [List.length_cons, hl]
    rfl
  · obtain ⟨p, dx, as, rfl, hl, hp, k⟩ := h
    match as, hl, k with
    | [a0, a1, a2], _, k =>
    refine ⟨_, pss_cons (ps_fld (pv 0) (pv 1) rfl) (pss_cons (ps_fld (pv 0) (pv 2) rfl) (pss_one (ps_fld (pv 0) (pv 3) rfl))), ?_⟩
    refine ⟨_, rfl, _, rfl, p, d.cOrdinary, dx, _, rfl, hp, T.kOrdinary.cl, T.kOrdinary.no.1, (by decide), ?_⟩
    have e1 : putF "figure" a0 [] = (["figure"] : List Str).zip [a0] := rfl
    refine ⟨_, rfl, _, rfl, p, d.cOrdinary, dx, _, rfl, upd_same, T.kOrdinary.cl, T.kOrdinary.no.2.1, (by rw [e1]; show 1 < 1000; decide), ?_⟩
    have e2 : putF "line" a1 (putF "figure" a0 []) = (["figure", "line"] : List Str).zip [a0, a1] := by
      rw [e1, put_new _ _ _ _ rfl (by decide +kernel)]
      rfl
    refine ⟨_, rfl, _, rfl, p, d.cOrdinary, dx, _, rfl, upd_same, T.kOrdinary.cl, T.kOrdinary.no.2.2.1, (by rw [e2]; show 2 < 1000; decide), ?_⟩
    have e3 : putF "fill" a2 (putF "line" a1 (putF "figure" a0 [])) = (["figure", "line", "fill"] : List Str).zip [a0, a1, a2] := by
      rw [e2, put_new _ _ _ _ rfl (by decide +kernel)]
      rfl
    exact k _ (fun b hb => by rw [upd_ne hb, upd_ne hb, upd_ne hb]) (by rw [upd_same, e3])
theorem sc_Group_init : FnScope ["self", "charge", "many", "manner", "size", "fill"] ["self", "charge", "many", "manner", "size", "fill"] (defScope s_Group_init) := ⟨rfl, rfl, rfl, by decide +kernel, rfl, by decide +kernel, by decide +kernel⟩
theorem ok_Group_init (T : Txt K mg d) : OkD P w K mg base CX0 1 d.mGroup_init ["self", "charge", "many", "manner", "size", "fill"] (spInit d.cGroup ["charge", "many", "manner", "size", "fill"]) := by
  obtain ⟨fd, F, B⟩ := T.kGroup.ini
  refine ⟨⟨fd, F.ok sc_Group_init (fun vs H Q E h => ?_) (fun cdv A outer s H vs Q E hr h => ?_), B⟩, F.kp⟩
  · obtain ⟨p, dx, as, rfl, hl, _⟩ := h
    rw [List.length_cons, hl]
    rfl
  · obtain ⟨p, dx, as, rfl, hl, hp, k⟩ := h
    match as, hl, k with
    | [a0, a1, a2, a3, a4], _, k =>
    refine ⟨_, pss_cons (ps_fld (pv 0) (pv 1) rfl) (pss_cons (ps_fld (pv 0) (pv 2) rfl) (pss_cons (ps_fld (pv 0) (pv 3) rfl) (pss_cons (ps_fld (pv 0) (pv 4) rfl) (pss_one (ps_fld (pv 0) (pv 5) rfl))))), ?_⟩
    refine ⟨_, rfl, _, rfl, p, d.cGroup, dx, _, rfl, hp, T.kGroup.cl, T.kGroup.no.1, (by decide), ?_⟩
    have e1 : putF "charge" a0 [] = (["charge"] : List Str).zip [a0] := rfl
    refine ⟨_, rfl, _, rfl, p, d.cGroup, dx, _, rfl, upd_same, T.kGroup.cl, T.kGroup.no.2.1, (by rw [e1]; show 1 < 1000; decide), ?_⟩
    have e2 : putF "many" a1 (putF "charge" a0 []) = (["charge", "many"] : List Str).zip [a0, a1] := by
      rw [e1, put_new _ _ _ _ rfl (by decide +kernel)]
      rfl
    refine ⟨_, rfl, _, rfl, p, d.cGroup, dx, _, rfl, upd_same, T.kGroup.cl, T.kGroup.no.2.2.1, (by rw [e2]; show 2 < 1000; decide), ?_⟩
    have e3 : putF "manner" a2 (putF "many" a1 (putF "charge" a0 [])) = (["charge", "many", "manner"] : List Str).zip [a0, a1, a2] := by
      rw [e2, put_new _ _ _ _ rfl (by decide +kernel)]
      rfl
    refine ⟨_, rfl, _, rfl, p, d.cGroup, dx, _, rfl, upd_same, T.kGroup.cl, T.kGroup.no.2.2.2.1, (by rw [e3]; show 3 < 1000; decide), ?_⟩
    have e4 : putF "size" a3 (putF "manner" a2 (putF "many" a1 (putF "charge" a0 []))) = (["charge", "many", "manner", "size"] : List Str).zip [a0, a1, a2, a3] := by
      rw [e3, put_new _ _ _ _ rfl (by decide +kernel)]
      rfl
    refine ⟨_, rfl, _, rfl, p, d.cGroup, dx, _, rfl, upd_same, T.kGroup.cl, T.kGroup.no.2.2.2.2.1, (by rw [e4]; show 4 < 1000; decide), ?_⟩
    have e5 : putF "fill" a4 (putF "size" a3 (putF "manner" a2 (putF "many" a1 (putF "charge" a0 [])))) = (["charge", "many", "manner", "size", "fill"] : List Str).zip [a0, a1, a2, a3, a4] := by
      rw [e4, put_new _ _ _ _ rfl (by decide +kernel)]
      rfl
    exact k _ (fun b hb => by rw [upd_ne hb, upd_ne hb, upd_ne hb, upd_ne hb, upd_ne hb]) (by rw [upd_same, e5])
theorem sc_Arms_init : FnScope ["self", "field", "layers"] ["self", "field", "layers"] (defScope s_Arms_init) := ⟨rfl, rfl, rfl, by decide +kernel, rfl, by decide +kernel, by decide +kernel⟩
theorem ok_Arms_init (T : Txt K mg d) : OkD P w K mg base CX0 1 d.mArms_init ["self", "field", "layers"] (spInit d.cArms ["field", "layers"]) := by
  obtain ⟨fd, F, B⟩ := T.kArms.ini
  refine ⟨⟨fd, F.ok sc_Arms_init (fun vs H Q E h => ?_) (fun cdv A outer s H vs Q E hr h => ?_), B⟩, F.kp⟩
  · obtain ⟨p, dx, as, rfl, hl, _⟩ := h
    rw [List.length_cons, hl]
    rfl
  · obtain ⟨p, dx, as, rfl, hl, hp, k⟩ := h
    match as, hl, k with
    | [a0, a1], _, k =>
    refine ⟨_, pss_cons (ps_fld (pv 0) (pv 1) rfl) (pss_one (ps_fld (pv 0) (pv 2) rfl)), ?_⟩
    refine ⟨_, rfl, _, rfl, p, d.cArms, dx, _, rfl, hp, T.kArms.cl, T.kArms.no.1, (by decide), ?_⟩
    have e1 : putF "field" a0 [] = (["field"] : List Str).zip [a0] := rfl
    refine ⟨_, rfl, _, rfl, p, d.cArms, dx, _, rfl, upd_same, T.kArms.cl, T.kArms.no.2.1, (by rw [e1]; show 1 < 1000; decide), ?_⟩
    have e2 : putF "layers" a1 (putF "field" a0 []) = (["field", "layers"] : List Str).zip [a0, a1] := by
      rw [e1, put_new _ _ _ _ rfl (by decide +kernel)]
      rfl
    exact k _ (fun b hb => by rw [upd_ne hb, upd_ne hb]) (by rw [upd_same, e2])
theorem sc_Mark_init : FnScope ["self", "g", "k"] ["self", "g", "k"] (defScope s_Mark_init) := ⟨rfl, rfl, rfl, by decide +kernel, rfl, by decide +kernel, by decide +kernel⟩
theorem ok_Mark_init (T : Txt K mg d) : OkD P w K mg base CX0 1 d.mMark_init ["self", "g", "k"] (spInit d.cMark ["g", "k"]) := by
  obtain ⟨fd, F, B⟩ := T.kMark.ini
  refine ⟨⟨fd, F.ok sc_Mark_init (fun vs H Q E h => ?_) (fun cdv A outer s H vs Q E hr h => ?_), B⟩, F.kp⟩
  · obtain ⟨p, dx, as, rfl, hl, _⟩ := h
    rw [List.length_cons, hl]
    rfl
  · obtain ⟨p, dx, as, rfl, hl, hp, k⟩ := h
    match as, hl, k with
    | [a0, a1], _, k =>
    refine ⟨_, pss_cons (ps_fld (pv 0) (pv 1) rfl) (pss_one (ps_fld (pv 0) (pv 2) rfl)), ?_⟩
    refine ⟨_, rfl, _, rfl, p, d.cMark, dx, _, rfl, hp, T.kMark.cl, T.kMark.no.1, (by decide), ?_⟩
    have e1 : putF "g" a0 [] = (["g"] : List Str).zip [a0] := rfl
    refine ⟨_, rfl, _, rfl, p, d.cMark, dx, _, rfl, upd_same, T.kMark.cl, T.kMark.no.2.1, (by rw [e1]; show 1 < 1000; decide), ?_⟩
    have e2 : putF "k" a1 (putF "g" a0 []) = (["g", "k"] : List Str).zip [a0, a1] := by
      rw [e1, put_new _ _ _ _ rfl (by decide +kernel)]
      rfl
    exact k _ (fun b hb => by rw [upd_ne hb, upd_ne hb]) (by rw [upd_same, e2])
theorem sc_Marked_init : FnScope ["self", "arms", "canton", "marks"] ["self", "arms", "canton", "marks"] (defScope s_Marked_init) := ⟨rfl, rfl, rfl, by decide +kernel, rfl, by decide +kernel, by decide +kernel⟩
theorem ok_Marked_init (T : Txt K mg d) : OkD P w K mg base CX0 1 d.mMarked_init ["self", "arms", "canton", "marks"] (spInit d.cMarked ["arms", "canton", "marks"]) := by
  obtain ⟨fd, F, B⟩ := T.kMarked.ini
  refine ⟨⟨fd, F.ok sc_Marked_init (fun vs H Q E h => ?_) (fun cdv A outer s H vs Q E hr h => ?_), B⟩, F.kp⟩
  · obtain ⟨p, dx, as, rfl, hl, _⟩ := h
    rw [List.length_cons, hl]
    rfl
  · obtain ⟨p, dx, as, rfl, hl, hp, k⟩ := h
    match as, hl, k with
    | [a0, a1, a2], _, k =>
    refine ⟨_, pss_cons (ps_fld (pv 0) (pv 1) rfl) (pss_cons (ps_fld (pv 0) (pv 2) rfl) (pss_one (ps_fld (pv 0) (pv 3) rfl))), ?_⟩
    refine ⟨_, rfl, _, rfl, p, d.cMarked, dx, _, rfl, hp, T.kMarked.cl, T.kMarked.no.1, (by decide), ?_⟩
    have e1 : putF "arms" a0 [] = (["arms"] : List Str).zip [a0] := rfl
    refine ⟨_, rfl, _, rfl, p, d.cMarked, dx, _, rfl, upd_same, T.kMarked.cl, T.kMarked.no.2.1, (by rw [e1]; show 1 < 1000; decide), ?_⟩
    have e2 : putF "canton" a1 (putF "arms" a0 []) = (["arms", "canton"] : List Str).zip [a0, a1] := by
      rw [e1, put_new _ _ _ _ rfl (by decide +kernel)]
      rfl
    refine ⟨_, rfl, _, rfl, p, d.cMarked, dx, _, rfl, upd_same, T.kMarked.cl, T.kMarked.no.2.2.1, (by rw [e2]; show 2 < 1000; decide), ?_⟩
    have e3 : putF "marks" a2 (putF "canton" a1 (putF "arms" a0 [])) = (["arms", "canton", "marks"] : List Str).zip [a0, a1, a2] := by
      rw [e2, put_new _ _ _ _ rfl (by decide +kernel)]
      rfl
    exact k _ (fun b hb => by rw [upd_ne hb, upd_ne hb, upd_ne hb]) (by rw [upd_same, e3])
theorem sc_Quarterly_init : FnScope ["self", "coats"] ["self", "coats"] (defScope s_Quarterly_init) := ⟨rfl, rfl, rfl, by decide +kernel, rfl, by decide +kernel, by decide +kernel⟩
theorem ok_Quarterly_init (T : Txt K mg d) : OkD P w K mg base CX0 1 d.mQuarterly_init ["self", "coats"] (spInit d.cQuarterly ["coats"]) := by
  obtain ⟨fd, F, B⟩ := T.kQuarterly.ini
  refine ⟨⟨fd, F.ok sc_Quarterly_init (fun vs H Q E h => ?_) (fun cdv A outer s H vs Q E hr h => ?_), B⟩, F.kp⟩
  · obtain ⟨p, dx, as, rfl, hl, _⟩ := h
    rw [List.length_cons, hl]
    rfl
  · obtain ⟨p, dx, as, rfl, hl, hp, k⟩ := h
    match as, hl, k with
    | [a0], _, k =>
    refine ⟨_, pss_one (ps_fld (pv 0) (pv 1) rfl), ?_⟩
    refine ⟨_, rfl, _, rfl, p, d.cQuarterly, dx, _, rfl, hp, T.kQuarterly.cl, T.kQuarterly.no.1, (by decide), ?_⟩
    have e1 : putF "coats" a0 [] = (["coats"] : List Str).zip [a0] := rfl
    exact k _ (fun b hb => by rw [upd_ne hb]) (by rw [upd_same, e1])
theorem sc_Impaled_init : FnScope ["self", "dexter", "sinister"] ["self", "dexter", "sinister"] (defScope s_Impaled_init) := ⟨rfl, rfl, rfl, by decide +kernel, rfl, by decide +kernel, by decide +kernel⟩
theorem ok_Impaled_init (T : Txt K mg d) : OkD P w K mg base CX0 1 d.mImpaled_init ["self", "dexter", "sinister"] (spInit d.cImpaled ["dexter", "sinister"]) := by
  obtain ⟨fd, F, B⟩ := T.kImpaled.ini
  refine ⟨⟨fd, F.ok sc_Impaled_init (fun vs H Q E h => ?_) (fun cdv A outer s H vs Q E hr h => ?_), B⟩, F.kp⟩
  · obtain ⟨p, dx, as, rfl, hl, _⟩ := h
    rw [List.length_cons, hl]
    rfl
  · obtain ⟨p, dx, as, rfl, hl, hp, k⟩ := h
    match as, hl, k with
    | [a0, a1], _, k =>
    refine ⟨_, pss_cons (ps_fld (pv 0) (pv 1) rfl) (pss_one (ps_fld (pv 0) (pv 2) rfl)), ?_⟩
    refine ⟨_, rfl, _, rfl, p, d.cImpaled, dx, _, rfl, hp, T.kImpaled.cl, T.kImpaled.no.1, (by decide), ?_⟩
    have e1 : putF "dexter" a0 [] = (["dexter"] : List Str).zip [a0] := rfl
    refine ⟨_, rfl, _, rfl, p, d.cImpaled, dx, _, rfl, upd_same, T.kImpaled.cl, T.kImpaled.no.2.1, (by rw [e1]; show 1 < 1000; decide), ?_⟩
    have e2 : putF "sinister" a1 (putF "dexter" a0 []) = (["dexter", "sinister"] : List Str).zip [a0, a1] := by
      rw [e1, put_new _ _ _ _ rfl (by decide +kernel)]
      rfl
    exact k _ (fun b hb => by rw [upd_ne hb, upd_ne hb]) (by rw [upd_same, e2])
theorem sc_Pretence_init : FnScope ["self", "below", "upon"] ["self", "below", "upon"] (defScope s_Pretence_init) := ⟨rfl, rfl, rfl, by decide +kernel, rfl, by decide +kernel, by decide +kernel⟩
theorem ok_Pretence_init (T : Txt K mg d) : OkD P w K mg base CX0 1 d.mPretence_init ["self", "below", "upon"] (spInit d.cPretence ["below", "upon"]) := by
  obtain ⟨fd, F, B⟩ := T.kPretence.ini
  refine ⟨⟨fd, F.ok sc_Pretence_init (fun vs H Q E h => ?_) (fun cdv A outer s H vs Q E hr h => ?_), B⟩, F.kp⟩
  · obtain ⟨p, dx, as, rfl, hl, _⟩ := h
    rw [List.length_cons, hl]
    rfl
  · obtain ⟨p, dx, as, rfl, hl, hp, k⟩ := h
    match as, hl, k with
    | [a0, a1], _, k =>
    refine ⟨_, pss_cons (ps_fld (pv 0) (pv 1) rfl) (pss_one (ps_fld (pv 0) (pv 2) rfl)), ?_⟩
    refine ⟨_, rfl, _, rfl, p, d.cPretence, dx, _, rfl, hp, T.kPretence.cl, T.kPretence.no.1, (by decide), ?_⟩
    have e1 : putF "below" a0 [] = (["below"] : List Str).zip [a0] := rfl
    refine ⟨_, rfl, _, rfl, p, d.cPretence, dx, _, rfl, upd_same, T.kPretence.cl, T.kPretence.no.2.1, (by rw [e1]; show 1 < 1000; decide), ?_⟩
    have e2 : putF "upon" a1 (putF "below" a0 []) = (["below", "upon"] : List Str).zip [a0, a1] := by
      rw [e1, put_new _ _ _ _ rfl (by decide +kernel)]
      rfl
    exact k _ (fun b hb => by rw [upd_ne hb, upd_ne hb]) (by rw [upd_same, e2])
theorem sc_Spot_init : FnScope ["self", "coat", "number", "p", "r"] ["self", "coat", "number", "p", "r"] (defScope s_Spot_init) := ⟨rfl, rfl, rfl, by decide +kernel, rfl, by decide +kernel, by decide +kernel⟩
theorem ok_Spot_init (T : Txt K mg d) : OkD P w K mg base CX0 1 d.mSpot_init ["self", "coat", "number", "p", "r"] (spInit d.cSpot ["coat", "number", "p", "r"]) := by
  obtain ⟨fd, F, B⟩ := T.kSpot.ini
  refine ⟨⟨fd, F.ok sc_Spot_init (fun vs H Q E h => ?_) (fun cdv A outer s H vs Q E hr h => ?_), B⟩, F.kp⟩
  · obtain ⟨p, dx, as, rfl, hl, _⟩ := h
    rw [List.length_cons, hl]
    rfl
  · obtain ⟨p, dx, as, rfl, hl, hp, k⟩ := h
    match as, hl, k with
    | [a0, a1, a2, a3], _, k =>
    refine ⟨_, pss_cons (ps_fld (pv 0) (pv 1) rfl) (pss_cons (ps_fld (pv 0) (pv 2) rfl) (pss_cons (ps_fld (pv 0) (pv 3) rfl) (pss_one (ps_fld (pv 0) (pv 4) rfl)))), ?_⟩
    refine ⟨_, rfl, _, rfl, p, d.cSpot, dx, _, rfl, hp, T.kSpot.cl, T.kSpot.no.1, (by decide), ?_⟩
    have e1 : putF "coat" a0 [] = (["coat"] : List Str).zip [a0] := rfl
    refine ⟨_, rfl, _, rfl, p, d.cSpot, dx, _, rfl, upd_same, T.kSpot.cl, T.kSpot.no.2.1, (by rw [e1]; show 1 < 1000; decide), ?_⟩
    have e2 : putF "number" a1 (putF "coat" a0 []) = (["coat", "number"] : List Str).zip [a0, a1] := by
      rw [e1, put_new _ _ _ _ rfl (by decide +kernel)]
      rfl
    refine ⟨_, rfl, _, rfl, p, d.cSpot, dx, _, rfl, upd_same, T.kSpot.cl, T.kSpot.no.2.2.1, (by rw [e2]; show 2 < 1000; decide), ?_⟩
    have e3 : putF "p" a2 (putF "number" a1 (putF "coat" a0 [])) = (["coat", "number", "p"] : List Str).zip [a0, a1, a2] := by
      rw [e2, put_new _ _ _ _ rfl (by decide +kernel)]
      rfl
    refine ⟨_, rfl, _, rfl, p, d.cSpot, dx, _, rfl, upd_same, T.kSpot.cl, T.kSpot.no.2.2.2.1, (by rw [e3]; show 3 < 1000; decide), ?_⟩
    have e4 : putF "r" a3 (putF "p" a2 (putF "number" a1 (putF "coat" a0 []))) = (["coat", "number", "p", "r"] : List Str).zip [a0, a1, a2, a3] := by
      rw [e3, put_new _ _ _ _ rfl (by decide +kernel)]
      rfl
    exact k _ (fun b hb => by rw [upd_ne hb, upd_ne hb, upd_ne hb, upd_ne hb]) (by rw [upd_same, e4])
end
end HC
namespace HC
open PySem PySem.Spec PyProof.Rows L2
/-! ### how what is read stands in the heap. H0: the heap ahead; all of it is new there -/
/-- objects that are new behind H0 stay -/
structure Mv (H0 H H0' H' : Hp) : Prop where
  nw : ∀ b, H0 b = none → H0' b = none
  st : ∀ b o, H0 b = none → H b = some o → H' b = some o
inductive All2 {α : Type} (R : V → α → Prop) : List V → List α → Prop where
  | nil : All2 R [] []
  | cons {v : V} {x : α} {vs : List V} {xs : List α} (h : R v x) (t : All2 R vs xs) : All2 R (v :: vs) (x :: xs)
theorem All2.snoc {α : Type} {R : V → α → Prop} {v : V} {x : α} {vs : List V} {xs : List α} (t : All2 R vs xs) (h : R v x) : All2 R (vs ++ [v]) (xs ++ [x]) := by
  induction t with
  | nil => exact .cons h .nil
  | cons h' _ ih => exact .cons h' ih
theorem All2.mono {α : Type} {R R' : V → α → Prop} {vs : List V} {xs : List α} (t : All2 R vs xs) (f : ∀ v x, R v x → R' v x) : All2 R' vs xs := by
  induction t with
  | nil => exact .nil
  | cons h' _ ih => exact .cons (f _ _ h') ih
theorem All2.length {α : Type} {R : V → α → Prop} {vs : List V} {xs : List α} (t : All2 R vs xs) : vs.length = xs.length := by
  induction t with
  | nil => rfl
  | cons _ _ ih => rw [List.length_cons, List.length_cons, ih]
/-- an object of the class C with these attributes -/
def Obj1 (C : Addr) (ns : List Str) (as : List V) (H0 H : Hp) (v : V) : Prop := ∃ b dx, v = .ref b ∧ H0 b = none ∧ H b = some (.ins C dx (ns.zip as))
theorem Obj1.mv {C : Addr} {ns : List Str} {as : List V} {H0 H H0' H' : Hp} {v : V} (h : Obj1 C ns as H0 H v) (m : Mv H0 H H0' H') : Obj1 C ns as H0' H' v := by
  obtain ⟨b, dx, e, n, o⟩ := h
  exact ⟨b, dx, e, m.nw b n, m.st b _ n o⟩
/-- a list of these values -/
def Lst1 (vs : List V) (H0 H : Hp) (l : Addr) : Prop := H0 l = none ∧ H l = some (.lst vs)
theorem Lst1.mv {vs : List V} {H0 H H0' H' : Hp} {l : Addr} (h : Lst1 vs H0 H l) (m : Mv H0 H H0' H') : Lst1 vs H0' H' l := ⟨m.nw l h.1, m.st l _ h.1 h.2⟩
abbrev vN (n : Nat) : V := .int (n : Int)
def RNat (_ _ : Hp) (v : V) (n : Nat) : Prop := v = vN n
def RField (d : Ad) (H0 H : Hp) (v : V) : Sh.Field → Prop
  | .plain t => Obj1 d.cPlain ["tincture"] [vN t] H0 H v
  | .parted w l a b => Obj1 d.cParted ["way", "line", "first", "second"] [vN w, vN l, vN a, vN b] H0 H v
  | .varied w n l a b => Obj1 d.cVaried ["way", "pieces", "line", "first", "second"] [vN w, vN n, vN l, vN a, vN b] H0 H v
theorem RField.mv {d : Ad} {H0 H H0' H' : Hp} {v : V} {f : Sh.Field} (h : RField d H0 H v f) (m : Mv H0 H H0' H') : RField d H0' H' v f := by
  cases f <;> exact Obj1.mv h m
/-- a field is an object: objects that stay keep it -/
theorem RField.ins {d : Ad} {H0 H H' : Hp} {v : V} {f : Sh.Field} (h : RField d H0 H v f) (k : ∀ b C dx fs, H0 b = none → H b = some (.ins C dx fs) → H' b = some (.ins C dx fs)) : RField d H0 H' v f := by
  cases f <;> exact let ⟨b, dx, e, n, o⟩ := h; ⟨b, dx, e, n, k b _ _ _ n o⟩
def RFill (d : Ad) (H0 H : Hp) (v : V) : Sh.Fill → Prop
  | .solid f => RField d H0 H v f
  | .counter => v = .non
theorem RFill.mv {d : Ad} {H0 H H0' H' : Hp} {v : V} {f : Sh.Fill} (h : RFill d H0 H v f) (m : Mv H0 H H0' H') : RFill d H0' H' v f := by
  cases f with
  | solid f => exact RField.mv h m
  | counter => exact h
def RLayer (d : Ad) (H0 H : Hp) (v : V) : Sh.Layer → Prop
  | .ord o l f => ∃ u, Obj1 d.cOrdinary ["figure", "line", "fill"] [vN o, vN l, u] H0 H v ∧ RFill d H0 H u f
  | .group c n m s f => ∃ u, Obj1 d.cGroup ["charge", "many", "manner", "size", "fill"] [vN c, vN n, vN m, vN s, u] H0 H v ∧ RFill d H0 H u f
theorem RLayer.mv {d : Ad} {H0 H H0' H' : Hp} {v : V} {f : Sh.Layer} (h : RLayer d H0 H v f) (m : Mv H0 H H0' H') : RLayer d H0' H' v f := by
  cases f <;> exact let ⟨u, h1, h2⟩ := h; ⟨u, h1.mv m, h2.mv m⟩
def RArms (d : Ad) (H0 H : Hp) (v : V) (a : Sh.Arms) : Prop := ∃ u l us, Obj1 d.cArms ["field", "layers"] [u, .ref l] H0 H v ∧ RField d H0 H u a.field ∧ Lst1 us H0 H l ∧ All2 (RLayer d H0 H) us a.layers
theorem RArms.mv {d : Ad} {H0 H H0' H' : Hp} {v : V} {a : Sh.Arms} (h : RArms d H0 H v a) (m : Mv H0 H H0' H') : RArms d H0' H' v a := by
  obtain ⟨u, l, us, h1, h2, h3, h4⟩ := h
  exact ⟨u, l, us, h1.mv m, h2.mv m, h3.mv m, h4.mono fun _ _ z => z.mv m⟩
def ROpt (d : Ad) (H0 H : Hp) (v : V) : Option Sh.Arms → Prop
  | none => v = .non
  | some a => RArms d H0 H v a
theorem ROpt.mv {d : Ad} {H0 H H0' H' : Hp} {v : V} {a : Option Sh.Arms} (h : ROpt d H0 H v a) (m : Mv H0 H H0' H') : ROpt d H0' H' v a := by
  cases a with
  | none => exact h
  | some a => exact RArms.mv h m
def RMark (d : Ad) (H0 H : Hp) (v : V) (x : Nat × Nat) : Prop := Obj1 d.cMark ["g", "k"] [vN x.1, vN x.2] H0 H v
theorem RMark.mv {d : Ad} {H0 H H0' H' : Hp} {v : V} {x : Nat × Nat} (h : RMark d H0 H v x) (m : Mv H0 H H0' H') : RMark d H0' H' v x := Obj1.mv h m
/-- a list of things -/
def RList {α : Type} (R : Hp → Hp → V → α → Prop) (H0 H : Hp) (v : V) (xs : List α) : Prop := ∃ l us, v = .ref l ∧ Lst1 us H0 H l ∧ All2 (R H0 H) us xs
def RMarks (d : Ad) : Hp → Hp → V → List (Nat × Nat) → Prop := RList (RMark d)
theorem RMarks.mv {d : Ad} {H0 H H0' H' : Hp} {v : V} {x : List (Nat × Nat)} (h : RMarks d H0 H v x) (m : Mv H0 H H0' H') : RMarks d H0' H' v x := by
  obtain ⟨l, us, e, h1, h2⟩ := h
  exact ⟨l, us, e, h1.mv m, h2.mono fun _ _ z => z.mv m⟩
def RMarked (d : Ad) (H0 H : Hp) (v : V) (x : ShMarsh.Marked) : Prop := ∃ u c k, Obj1 d.cMarked ["arms", "canton", "marks"] [u, c, k] H0 H v ∧ RArms d H0 H u x.arms ∧ ROpt d H0 H c x.canton ∧ RMarks d H0 H k x.marks
theorem RMarked.mv {d : Ad} {H0 H H0' H' : Hp} {v : V} {x : ShMarsh.Marked} (h : RMarked d H0 H v x) (m : Mv H0 H H0' H') : RMarked d H0' H' v x := by
  obtain ⟨u, c, k, h1, h2, h3, h4⟩ := h
  exact ⟨u, c, k, h1.mv m, h2.mv m, h3.mv m, h4.mv m⟩
mutual
def RCoat (d : Ad) (H0 H : Hp) : ShMarsh.Coat → V → Prop
  | .one x, v => RMarked d H0 H v x
  | .quarters l, v => ∃ p us, Obj1 d.cQuarterly ["coats"] [.ref p] H0 H v ∧ Lst1 us H0 H p ∧ RCoats d H0 H l us
  | .impaled x y, v => ∃ a b, Obj1 d.cImpaled ["dexter", "sinister"] [a, b] H0 H v ∧ RCoat d H0 H x a ∧ RCoat d H0 H y b
  | .pretence x y, v => ∃ a b, Obj1 d.cPretence ["below", "upon"] [a, b] H0 H v ∧ RCoat d H0 H x a ∧ RCoat d H0 H y b
def RCoats (d : Ad) (H0 H : Hp) : List ShMarsh.Coat → List V → Prop
  | [], us => us = []
  | x :: l, us => ∃ u r, us = u :: r ∧ RCoat d H0 H x u ∧ RCoats d H0 H l r
end
mutual
theorem RCoat.mv {d : Ad} {H0 H H0' H' : Hp} (m : Mv H0 H H0' H') : ∀ (c : ShMarsh.Coat) (v : V), RCoat d H0 H c v → RCoat d H0' H' c v
  | .one x, v, h => RMarked.mv h m
  | .quarters l, v, h => by
    obtain ⟨p, us, h1, h2, h3⟩ := h
    exact ⟨p, us, h1.mv m, h2.mv m, RCoats.mv m l us h3⟩
  | .impaled x y, v, h => by
    obtain ⟨a, b, h1, h2, h3⟩ := h
    exact ⟨a, b, h1.mv m, RCoat.mv m x a h2, RCoat.mv m y b h3⟩
  | .pretence x y, v, h => by
    obtain ⟨a, b, h1, h2, h3⟩ := h
    exact ⟨a, b, h1.mv m, RCoat.mv m x a h2, RCoat.mv m y b h3⟩
theorem RCoats.mv {d : Ad} {H0 H H0' H' : Hp} (m : Mv H0 H H0' H') : ∀ (l : List ShMarsh.Coat) (us : List V), RCoats d H0 H l us → RCoats d H0' H' l us
  | [], us, h => h
  | x :: l, us, h => by
    obtain ⟨u, r, e, h1, h2⟩ := h
    exact ⟨u, r, e, RCoat.mv m x u h1, RCoats.mv m l r h2⟩
end
/-- a coat's standing, the value first -/
def RC (d : Ad) (H0 H : Hp) (v : V) (c : ShMarsh.Coat) : Prop := RCoat d H0 H c v
theorem RC.mv {d : Ad} {H0 H H0' H' : Hp} {v : V} {c : ShMarsh.Coat} (h : RC d H0 H v c) (m : Mv H0 H H0' H') : RC d H0' H' v c := RCoat.mv m c v h
theorem rcoats_of {d : Ad} {H0 H : Hp} {us : List V} {l : List ShMarsh.Coat} (h : All2 (RC d H0 H) us l) : RCoats d H0 H l us := by
  induction h with
  | nil => rfl
  | cons h _ ih => exact ⟨_, _, rfl, h, ih⟩
theorem Mv.same {H0 H H0' H' H2 : Hp} (m : Mv H0 H H0' H') (s : Same H' H2) : Mv H0 H H0' H2 := ⟨m.nw, fun b o n h => s b o (m.st b o n h)⟩
theorem Mv.here {H0 H H' : Hp} (s : Same H H') : Mv H0 H H0 H' := ⟨fun _ h => h, fun b o _ h => s b o h⟩
theorem Keep.mv {R : Addr} {H H1 H' : Hp} {o : HO} (k : Keep R H H1) (hR : H1 R = some o) : Mv H1 H' H H' := ⟨fun _ h => k.free hR h, fun _ _ _ h => h⟩
def vals (bs : List UInt8) : List V := bs.map fun b => V.int (b.toNat : Int)
end HC
namespace HC
open PySem PySem.Spec PyProof.Rows L2
/-! ### the reader -/
abbrev rdr (d : Ad) (x a : Addr) (p : Nat) : HO := .ins d.cReader x ((["numbers", "place"] : List Str).zip [.ref a, vN p])
/-- the reader at R, at the place p of the bytes bs -/
structure At (K : PySem.W.Frag) (d : Ad) (bs : List UInt8) (a R x : Addr) (H : Hp) (p : Nat) : Prop where
  hR : H R = some (rdr d x a p)
  sq : SqL K H a (vals bs)
  le : p ≤ bs.length
theorem At.step {K : PySem.W.Frag} {d : Ad} {bs : List UInt8} {a R x : Addr} {H H' : Hp} {p q : Nat} (A : At K d bs a R x H p) (k : Keep R H H') (h : H' R = some (rdr d x a q)) (l : q ≤ bs.length) : At K d bs a R x H' q := by
  refine ⟨h, ?_, l⟩
  rcases A.sq with (z | ⟨o, z⟩) | z
  · exact .inl (.inl (k _ _ (ne_of z A.hR (by intro q; cases q)) z))
  · exact .inl (.inr ⟨o, k _ _ (ne_of z A.hR (by intro q; cases q)) z⟩)
  · exact .inr z
/-- an error with its place -/
def Err (d : Ad) (E : XK) (e : Nat) : Prop := ∀ (x : Addr) (H' : Hp), H' x = some (.xd [(("place" : Str), vN e)]) → E (.ref d.xMisplaced) (some x) H'
/-- what a def that takes bytes gives back -/
def Give {α : Type} (d : Ad) (bs : List UInt8) (a R x : Addr) (Rep : Hp → Hp → V → α → Prop) (H : Hp) (Q : VK) (E : XK) : Except Nat (α × Nat × Sh.Bytes) → Prop
  | .error e => Err d E e
  | .ok y => ∀ v H', Keep R H H' → H' R = some (rdr d x a y.2.1) → y.2.1 ≤ bs.length → y.2.2 = bs.drop y.2.1 → Rep H H' v y.1 → Q v H'
/-- a def that is handed the reader, and these values behind it -/
def spRd {α : Type} (K : PySem.W.Frag) (d : Ad) (pre : Hp → List V → (Nat → Sh.Bytes → Except Nat (α × Nat × Sh.Bytes)) → Prop) (Rep : Hp → Hp → V → α → Prop) : Sp := fun vs H Q E =>
  ∃ (R : Addr) (us : List V) (bs : List UInt8) (a x : Addr) (p : Nat) (par : Nat → Sh.Bytes → Except Nat (α × Nat × Sh.Bytes)),
    vs = .ref R :: us ∧ At K d bs a R x H p ∧ pre H us par ∧ Give d bs a R x Rep H Q E (par p (bs.drop p))
/-- further on -/
theorem Give.up {α : Type} {d : Ad} {bs : List UInt8} {a R x : Addr} {Rep : Hp → Hp → V → α → Prop} {H H1 : Hp} {Q : VK} {E : XK} {r : Except Nat (α × Nat × Sh.Bytes)} {o : HO} (k : Keep R H H1) (hR : H1 R = some o)
    (mv : ∀ (H0 H0' H' : Hp) (v : V) (y : α), Mv H0 H' H0' H' → Rep H0 H' v y → Rep H0' H' v y) (g : Give d bs a R x Rep H Q E r) : Give d bs a R x Rep H1 Q E r := by
  cases r with
  | error e => exact g
  | ok y => exact fun v H' k1 h1 l1 g1 t1 => g v H' (k.trans k1) h1 l1 g1 (mv _ _ _ _ _ (k.mv hR) t1)
theorem obj_ne {d : Ad} {H : Hp} {R b x a C dx : Addr} {p : Nat} {ns : List Str} {as : List V} (h : H b = some (.ins C dx (ns.zip as))) (hl : as.length = ns.length) (hn : ns.length ≠ 2) (hR : H R = some (rdr d x a p)) : b ≠ R := by
  refine ne_of h hR fun z => hn ?_
  injection z with _ _ z
  have := congrArg List.length z
  rw [List.length_zip, hl, Nat.min_self] at this
  exact this
/-- a field is no reader: it stays -/
theorem RField.stay {d : Ad} {H0 H H' : Hp} {R x a : Addr} {p : Nat} {v : V} {f : Sh.Field} (h : RField d H0 H v f) (hR : H R = some (rdr d x a p)) (k : Keep R H H') : RField d H0 H' v f := by
  cases f with
  | plain t =>
    obtain ⟨b, dx, e, n, o⟩ := h
    exact ⟨b, dx, e, n, k b _ (obj_ne o rfl (by decide) hR) o⟩
  | parted w l a' c =>
    obtain ⟨b, dx, e, n, o⟩ := h
    exact ⟨b, dx, e, n, k b _ (obj_ne o rfl (by decide) hR) o⟩
  | varied w n' l a' c =>
    obtain ⟨b, dx, e, n, o⟩ := h
    exact ⟨b, dx, e, n, k b _ (obj_ne o rfl (by decide) hR) o⟩
end HC
namespace HC
open PySem PySem.Spec PyProof.Rows L2
section
variable {P : Program} {w : World} {K : PySem.W.Frag} {mg : Str → Option Value} {base : Heap} {d : Ad}
theorem vals_len (bs : List UInt8) : (vals bs).length = bs.length := List.length_map _
theorem lk_num {a : Addr} {p : Nat} : ((["numbers", "place"] : List Str).zip [V.ref a, vN p]).lookup ("numbers" : Str) = some (V.ref a) := look_at _ _ _ 0 rfl (by decide +kernel)
theorem lk_pla {a : Addr} {p : Nat} : ((["numbers", "place"] : List Str).zip [V.ref a, vN p]).lookup ("place" : Str) = some (vN p) := look_at _ _ _ 1 rfl (by decide +kernel)
theorem lk_take {a : Addr} {p : Nat} : ((["numbers", "place"] : List Str).zip [V.ref a, vN p]).lookup ("take" : Str) = none := look_no _ _ _ (by decide +kernel)
theorem lk_bes {a : Addr} {p : Nat} : ((["numbers", "place"] : List Str).zip [V.ref a, vN p]).lookup ("take_tincture_beside" : Str) = none := look_no _ _ _ (by decide +kernel)
theorem lk_end {a : Addr} {p : Nat} : ((["numbers", "place"] : List Str).zip [V.ref a, vN p]).lookup ("at_end" : Str) = none := look_no _ _ _ (by decide +kernel)
/-! ### Reader.__init__, at_end -/
def spReader (d : Ad) : Sp := fun vs H Q _ => ∃ (p x a : Addr), vs = [.ref p, .ref a] ∧ H p = some (.ins d.cReader x []) ∧ ∀ H', (∀ b, b ≠ p → H' b = H b) → H' p = some (rdr d x a 0) → Q .non H'
theorem sc_Reader_init : FnScope ["self", "numbers"] ["self", "numbers"] (defScope s_Reader_init) := ⟨rfl, rfl, rfl, by decide +kernel, rfl, by decide +kernel, by decide +kernel⟩
theorem ok_Reader_init (T : Txt K mg d) : OkD P w K mg base CX0 1 d.mReader_init ["self", "numbers"] (spReader d) := by
  obtain ⟨fd, F, B⟩ := T.kReader.ini
  refine ⟨⟨fd, F.ok sc_Reader_init (fun vs H Q E h => ?_) (fun cdv A outer s H vs Q E hr h => ?_), B⟩, F.kp⟩
  · obtain ⟨p, x, a, rfl, _⟩ := h
    rfl
  · obtain ⟨p, x, a, rfl, hp, k⟩ := h
    refine ⟨_, pss_cons (ps_fld (pv 0) (pv 1) rfl) (pss_one (ps_fld (pv 0) pe_int rfl)), ?_⟩
    refine ⟨_, rfl, _, rfl, p, d.cReader, x, _, rfl, hp, T.kReader.cl, T.kReader.no.1, (by decide), ?_⟩
    have e1 : putF "numbers" (.ref a) [] = (["numbers"] : List Str).zip [.ref a] := rfl
    refine ⟨_, rfl, p, d.cReader, x, _, rfl, upd_same, T.kReader.cl, T.kReader.no.2.1, (by rw [e1]; show 1 < 1000; decide), ?_⟩
    have e2 : putF "place" (.int 0) (putF "numbers" (.ref a) []) = (["numbers", "place"] : List Str).zip [.ref a, vN 0] := by
      rw [e1, put_new _ _ _ _ rfl (by decide +kernel)]
      rfl
    exact k _ (fun b hb => by rw [upd_ne hb, upd_ne hb]) (by rw [upd_same, e2])
def spEnd (K : PySem.W.Frag) (d : Ad) : Sp := fun vs H Q _ => ∃ (R : Addr) (bs : List UInt8) (a x : Addr) (p : Nat), vs = [.ref R] ∧ At K d bs a R x H p ∧ Q (.bl (decide (p = bs.length))) H
theorem sc_Reader_at_end : FnScope ["self"] ["self"] (defScope s_Reader_at_end) := ⟨rfl, rfl, rfl, by decide +kernel, rfl, by decide +kernel, by decide +kernel⟩
theorem ok_Reader_at_end (T : Txt K mg d) : OkD P w K mg base CX0 1 d.mReader_at_end ["self"] (spEnd K d) := by
  obtain ⟨fd, F, B⟩ := T.kReader_at_end.ex
  refine ⟨⟨fd, F.ok sc_Reader_at_end (fun vs H Q E h => ?_) (fun cdv A outer s H vs Q E hr h => ?_), B⟩, F.kp⟩
  · obtain ⟨R, bs, a, x, p, rfl, _⟩ := h
    rfl
  · obtain ⟨R, bs, a, x, p, rfl, A1, k⟩ := h
    refine ⟨_, pss_one (ps_ret (pe_cmpR op_eq (pe_fld (pv 0) rfl) (pe_callB call_len_seq (by rfl) T.b_len PySem.boot_len (pa_cons (pe_fld (pv 0) rfl) pa_nil)) (nomark _))), ?_⟩
    refine ⟨_, rfl, R, d.cReader, x, _, _, rfl, A1.hR, T.kReader.cl, T.kReader.no.2.1, lk_pla, ?_⟩
    refine ⟨_, rfl, R, d.cReader, x, _, _, rfl, A1.hR, T.kReader.cl, T.kReader.no.1, lk_num, a, vals bs, rfl, .inl A1.sq, rfl, ?_⟩
    have e : decide (vN p = V.int ((vals bs).length : Int)) = decide (p = bs.length) := by
      rw [vals_len, dec_int, Bool.eq_iff_iff]
      simp
      omega
    rw [e]
    exact k
/-! ### take -/
def preTake (_ : Hp) (us : List V) (par : Nat → Sh.Bytes → Except Nat (Nat × Nat × Sh.Bytes)) : Prop := ∃ lo hi : Nat, us = [vN lo, vN hi] ∧ par = Sh.numAt lo hi Sh.ANY
abbrev spTake (K : PySem.W.Frag) (d : Ad) : Sp := spRd K d preTake RNat
theorem num_end {lo hi x p : Nat} {bs : List UInt8} (h : p = bs.length) : Sh.numAt lo hi x p (bs.drop p) = .error p := by
  rw [h, List.drop_length]
  rfl
theorem drop_at {bs : List UInt8} {p : Nat} (h : p < bs.length) : bs.drop p = bs[p] :: bs.drop (p + 1) := List.drop_eq_getElem_cons h
theorem num_at {lo hi p : Nat} {bs : List UInt8} (h : p < bs.length) : Sh.numAt lo hi Sh.ANY p (bs.drop p) = if bs[p].toNat < lo ∨ hi < bs[p].toNat then .error p else .ok (bs[p].toNat, p + 1, bs.drop (p + 1)) := by
  rw [drop_at h]
  show (if bs[p].toNat < lo ∨ hi < bs[p].toNat ∨ bs[p].toNat = Sh.ANY then _ else _) = _
  have hb : bs[p].toNat < 256 := bs[p].toNat_lt
  have hx : ¬ bs[p].toNat = Sh.ANY := by
    show ¬ bs[p].toNat = 999
    omega
  by_cases c : bs[p].toNat < lo ∨ hi < bs[p].toNat
  · rw [if_pos c, if_pos (c.elim .inl fun z => .inr (.inl z))]
  · rw [if_neg c, if_neg (fun q => q.elim (fun q => c (.inl q)) fun q => q.elim (fun q => c (.inr q)) hx)]
theorem sc_Reader_take : FnScope ["self", "least", "most", "number"] ["self", "least", "most"] (defScope s_Reader_take) := ⟨rfl, rfl, rfl, by decide +kernel, rfl, by decide +kernel, by decide +kernel⟩
theorem ok_Reader_take (T : Txt K mg d) : OkD P w K mg base (L2.CX P w) 3 d.mReader_take ["self", "least", "most"] (spTake K d) := by
  obtain ⟨fd, F, B⟩ := T.kReader_take.ex
  obtain ⟨⟨fdE, GE, BE⟩, _⟩   := ok_Reader_at_end (P := P) (w := w) (base := base) T
  refine ⟨⟨fd, F.okX sc_Reader_take (fun vs H Q E h => ?_) (fun cdv A outer s H vs Q E hr h => ?_), B⟩, F.kp⟩
  · obtain ⟨R, us, bs, a, x, p, par, rfl, _, ⟨lo, hi, rfl, rfl⟩, _⟩ := h
    rfl
  · obtain ⟨R, us, bs, a, x, p, par, rfl, A1, ⟨lo, hi, rfl, rfl⟩, k⟩ := h
    have hr1 : Room 1 _ := hr.mono (by decide)
    refine ⟨_, pss_cons (ps_if (pt_val (pe_meth0 (pv 0) T.kReader.cl T.kReader_at_end.me GE hr1 BE .nil pass0)) (pss_one (ps_raiseLow rfl T.xMisplaced hr takesX (pa_cons (pe_fld (pv 0) rfl) pa_nil))) pss_nil)
      (pss_cons (ps_set (i := 3) sc_Reader_take.nd rfl (Or.inl rfl) (pe_ix ix_list (pe_fld (pv 0) rfl) (pe_fld (pv 0) rfl) (fun _ _ => rfl)))
      (pss_cons (ps_if (PW.pt (pw_or (pt_cmpR op_lt (pv 3) (pv 1) (nomark _)) (pw_or1 (pt_cmpR op_gt (pv 3) (pv 2) (nomark _))))) (pss_one (ps_raiseLow rfl T.xMisplaced hr takesX (pa_cons (pe_fld (pv 0) rfl) pa_nil))) pss_nil)
      (pss_cons (ps_fld (pv 0) (pe_op op_add (pe_fld (pv 0) rfl) pe_int) rfl)
      (pss_one (ps_ret (pv 3)))))), ?_⟩
    refine ⟨_, rfl, R, x, _, rfl, A1.hR, lk_end, R, bs, a, x, p, rfl, A1, _, rfl, ?_⟩
    refine ite2 (fun c => ?_) (fun c => ?_)
    · have c' : p = bs.length := of_decide_eq_true c
      rw [num_end c'] at k
      exact ⟨_, rfl, R, d.cReader, x, _, _, rfl, A1.hR, T.kReader.cl, T.kReader.no.2.1, lk_pla, _, rfl, fun z hz => k z _ upd_same⟩
    · have c' : ¬ p = bs.length := of_decide_eq_false (by simpa using c)
      have hp : p < bs.length := Nat.lt_of_le_of_ne A1.le c'
      rw [num_at hp] at k
      have ev : (vals bs)[p]? = some (vN bs[p].toNat) := by
        unfold vals
        rw [List.getElem?_map, List.getElem?_eq_getElem hp]
        rfl
      refine ⟨_, rfl, R, d.cReader, x, _, _, rfl, A1.hR, T.kReader.cl, T.kReader.no.1, lk_num, ?_⟩
      refine ⟨_, rfl, R, d.cReader, x, _, _, rfl, A1.hR, T.kReader.cl, T.kReader.no.2.1, lk_pla, a, vals bs, _, _, rfl, rfl, A1.sq, atI_nat ev, ?_⟩
      have bad : (bs[p].toNat < lo ∨ hi < bs[p].toNat) → ∀ z : Addr, E (.ref d.xMisplaced) (some z) (upd H z (.xd [(("place" : Str), vN p)])) := fun cc z => by
        rw [if_pos cc] at k
        exact k z _ upd_same
      refine ⟨_, rfl, _, rfl, _, _, rfl, rfl, _, rfl, ?_⟩
      refine ite2 (fun c1 => ?_) (fun c1 => ?_)
      · refine iteT ?_
        have c2 : bs[p].toNat < lo := by have := of_decide_eq_true c1; omega
        exact ⟨_, rfl, R, d.cReader, x, _, _, rfl, A1.hR, T.kReader.cl, T.kReader.no.2.1, lk_pla, _, rfl, fun z hz => bad (.inl c2) z⟩
      · refine ⟨_, rfl, _, rfl, _, _, rfl, rfl, _, rfl, ?_⟩
        refine ite2 (fun c2 => ?_) (fun c2 => ?_)
        · have c3 : hi < bs[p].toNat := by have := of_decide_eq_true c2; omega
          exact ⟨_, rfl, R, d.cReader, x, _, _, rfl, A1.hR, T.kReader.cl, T.kReader.no.2.1, lk_pla, _, rfl, fun z hz => bad (.inr c3) z⟩
        · have c3 : ¬ (bs[p].toNat < lo ∨ hi < bs[p].toNat) := by
            have h1 := of_decide_eq_false (by simpa using c1 : decide ((bs[p].toNat : Int) < (lo : Int)) = false)
            have h2 := of_decide_eq_false (by simpa using c2 : decide ((hi : Int) < (bs[p].toNat : Int)) = false)
            omega
          rw [if_neg c3] at k
          refine ⟨_, rfl, R, d.cReader, x, _, _, rfl, A1.hR, T.kReader.cl, T.kReader.no.2.1, lk_pla, _, _, rfl, rfl, _, rfl, R, d.cReader, x, _, rfl, A1.hR, T.kReader.cl, T.kReader.no.2.1, (by show 2 < 1000; decide), ?_⟩
          have e : putF "place" (V.int ((p : Int) + 1)) ((["numbers", "place"] : List Str).zip [V.ref a, vN p]) = (["numbers", "place"] : List Str).zip [V.ref a, vN (p + 1)] := by
            rw [put_at _ _ _ _ 1 rfl (by decide +kernel)]
            rfl
          refine ⟨_, rfl, k _ _ (fun b o hb ho => ?_) ?_ hp rfl rfl⟩
          · rw [upd_ne hb]
            exact ho
          · rw [upd_same, e]
end
end HC
namespace HC
open PySem PySem.Spec PyProof.Rows L2
section
variable {P : Program} {w : World} {K : PySem.W.Frag} {mg : Str → Option Value} {base : Heap} {d : Ad}
/-! ### numbers -/
theorem num_err {lo hi x p e : Nat} {b : Sh.Bytes} (h : Sh.numAt lo hi Sh.ANY p b = .error e) : Sh.numAt lo hi x p b = .error e := by
  cases b with
  | nil => exact h
  | cons c r =>
    have hb : c.toNat < 256 := c.toNat_lt
    have h' : (if c.toNat < lo ∨ hi < c.toNat ∨ c.toNat = Sh.ANY then (.error p : Except Nat (Nat × Nat × Sh.Bytes)) else .ok (c.toNat, p + 1, r)) = .error e := h
    show (if c.toNat < lo ∨ hi < c.toNat ∨ c.toNat = x then _ else _) = _
    by_cases q : c.toNat < lo ∨ hi < c.toNat ∨ c.toNat = Sh.ANY
    · rw [if_pos q] at h'
      rw [if_pos ?_]
      · exact h'
      · rcases q with q | q | q
        · exact .inl q
        · exact .inr (.inl q)
        · have q' : c.toNat = 999 := q
          omega
    · rw [if_neg q] at h'
      cases h'
theorem num_ok {lo hi x p n q : Nat} {b r : Sh.Bytes} (h : Sh.numAt lo hi Sh.ANY p b = .ok (n, q, r)) : q = p + 1 ∧ lo ≤ n ∧ n ≤ hi ∧ Sh.numAt lo hi x p b = if n = x then .error p else .ok (n, q, r) := by
  cases b with
  | nil => cases h
  | cons c s =>
    have h' : (if c.toNat < lo ∨ hi < c.toNat ∨ c.toNat = Sh.ANY then (.error p : Except Nat (Nat × Nat × Sh.Bytes)) else .ok (c.toNat, p + 1, s)) = .ok (n, q, r) := h
    by_cases z : c.toNat < lo ∨ hi < c.toNat ∨ c.toNat = Sh.ANY
    · rw [if_pos z] at h'
      cases h'
    · rw [if_neg z] at h'
      cases h'
      have z1 : ¬ c.toNat < lo := fun y => z (.inl y)
      have z2 : ¬ hi < c.toNat := fun y => z (.inr (.inl y))
      refine ⟨rfl, by omega, by omega, ?_⟩
      show (if c.toNat < lo ∨ hi < c.toNat ∨ c.toNat = x then _ else _) = _
      by_cases y : c.toNat = x
      · rw [if_pos y, if_pos (.inr (.inr y))]
      · rw [if_neg y, if_neg (fun t => t.elim z1 fun t => t.elim z2 y)]
theorem eqv {n : Nat} {z : Int} (c : decide (vN n = V.int z) = true) : (n : Int) = z := by
  have := of_decide_eq_true c
  injection this
theorem neqv {n : Nat} {z : Int} (c : ¬ decide (vN n = V.int z) = true) : ¬ (n : Int) = z := fun e => c (decide_eq_true (congrArg V.int e))
/-! ### take_tincture_beside -/
def preBes (_ : Hp) (us : List V) (par : Nat → Sh.Bytes → Except Nat (Nat × Nat × Sh.Bytes)) : Prop := ∃ y : Nat, us = [vN y] ∧ par = Sh.numAt 0 8 y
abbrev spBes (K : PySem.W.Frag) (d : Ad) : Sp := spRd K d preBes RNat
theorem sc_Reader_take_tincture_beside : FnScope ["self", "other", "tincture"] ["self", "other"] (defScope s_Reader_take_tincture_beside) := ⟨rfl, rfl, rfl, by decide +kernel, rfl, by decide +kernel, by decide +kernel⟩
theorem ok_Reader_take_tincture_beside (T : Txt K mg d) : OkD P w K mg base (L2.CX P w) 5 d.mReader_take_tincture_beside ["self", "other"] (spBes K d) := by
  obtain ⟨fd, F, B⟩ := T.kReader_take_tincture_beside.ex
  obtain ⟨⟨fd_Reader_take, G_Reader_take, B_Reader_take⟩, kp_Reader_take⟩ := ok_Reader_take (P := P) (w := w) (base := base) T
  obtain ⟨c_LAST_TINCTURE, m_LAST_TINCTURE⟩ := T.nLAST_TINCTURE
  refine ⟨⟨fd, F.okX sc_Reader_take_tincture_beside (fun vs H Q E h => ?_) (fun cdv A outer s H vs Q E hr h => ?_), B⟩, F.kp⟩
  · obtain ⟨R, us, bs, a, x, p, par, rfl, _, ⟨y, rfl, rfl⟩, _⟩ := h
    rfl
  · obtain ⟨R, us, bs, a, x, q0, par, rfl, A0, ⟨y, rfl, rfl⟩, k⟩ := h
    have hr_Reader_take : Room 3 _ := hr.mono (by decide)
    refine ⟨_, pss_cons (ps_set (i := 2) sc_Reader_take_tincture_beside.nd rfl (Or.inl rfl) (pe_meth (pv 0) T.kReader.cl T.kReader_take.me G_Reader_take hr_Reader_take B_Reader_take .nil passX (pa_cons pe_int (pa_cons (pgi m_LAST_TINCTURE) pa_nil))))
      (pss_cons (ps_if (pt_cmpR op_eq (pv 2) (pv 1) (nomark _))
        (pss_one (ps_raiseLow rfl T.xMisplaced hr takesX (pa_cons (pe_op op_sub (pe_fld (pv 0) rfl) pe_int) pa_nil)))
        pss_nil)
      (pss_one (ps_ret (pv 2)))), ?_⟩
    refine ⟨_, rfl, R, x, _, rfl, A0.hR, lk_take, R, _, bs, a, x, q0, _, rfl, A0, ⟨0, 8, rfl, rfl⟩, ?_⟩
    cases e1 : Sh.numAt 0 8 Sh.ANY q0 (bs.drop q0) with
    | error e =>
      rw [num_err e1] at k
      exact k
    | ok z =>
      obtain ⟨n1, q1, r1⟩ := z
      obtain ⟨eq1, _, _, en⟩ := num_ok (x := y) e1
      rw [en] at k
      intro v1 H1 k1 h1 l1 g1 t1
      dsimp only at h1 l1 g1 t1
      cases t1
      refine ⟨_, rfl, _, rfl, rfl, _, rfl, ?_⟩
      refine ite2 (fun c => ?_) (fun c => ?_)
      · have c' : n1 = y := by have := eqv c; omega
        rw [if_pos c'] at k
        refine ⟨_, rfl, R, d.cReader, x, _, _, rfl, h1, T.kReader.cl, T.kReader.no.2.1, lk_pla, _, _, rfl, rfl, _, rfl, fun z hz => k z _ ?_⟩
        have e : (q1 : Int) - 1 = (q0 : Int) := by omega
        rw [upd_same]
        show some (HO.xd [(("place" : Str), V.int ((q1 : Int) - 1))]) = _
        rw [e]
      · have c' : ¬ n1 = y := fun e => neqv c (by rw [e])
        rw [if_neg c'] at k
        exact ⟨_, rfl, k _ _ k1 h1 l1 g1 rfl⟩
/-! ### fields -/
def partedAt (p : Nat) (b : Sh.Bytes) : Except Nat (Sh.Field × Nat × Sh.Bytes) := match Sh.numAt 0 7 Sh.ANY p b with
  | .error e => .error e
  | .ok d => match Sh.numAt 0 5 Sh.ANY d.2.1 d.2.2 with
    | .error e => .error e
    | .ok l => match Sh.twoAt l.2.1 l.2.2 with
      | .error e => .error e
      | .ok t => .ok (.parted d.1 l.1 t.1.1 t.1.2, t.2)
def variedAt (p : Nat) (b : Sh.Bytes) : Except Nat (Sh.Field × Nat × Sh.Bytes) := match Sh.numAt 0 6 Sh.ANY p b with
  | .error e => .error e
  | .ok v => match Sh.numAt 2 24 Sh.ANY v.2.1 v.2.2 with
    | .error e => .error e
    | .ok n => match Sh.numAt 0 (if 5 ≤ v.1 then 0 else 5) Sh.ANY n.2.1 n.2.2 with
      | .error e => .error e
      | .ok l => match Sh.twoAt l.2.1 l.2.2 with
        | .error e => .error e
        | .ok t => .ok (.varied v.1 n.1 l.1 t.1.1 t.1.2, t.2)
/-- handed the reader alone -/
def pre0 {α : Type} (g : Nat → Sh.Bytes → Except Nat (α × Nat × Sh.Bytes)) (_ : Hp) (us : List V) (par : Nat → Sh.Bytes → Except Nat (α × Nat × Sh.Bytes)) : Prop := us = [] ∧ par = g
abbrev spParted (K : PySem.W.Frag) (d : Ad) : Sp := spRd K d (pre0 partedAt) (RField d)
abbrev spVaried (K : PySem.W.Frag) (d : Ad) : Sp := spRd K d (pre0 variedAt) (RField d)
abbrev spField (K : PySem.W.Frag) (d : Ad) : Sp := spRd K d (pre0 Sh.fieldAt) (RField d)
theorem sc_take_parted : FnScope ["reader", "way", "line", "first"] ["reader"] (defScope s_take_parted) := ⟨rfl, rfl, rfl, by decide +kernel, rfl, by decide +kernel, by decide +kernel⟩
theorem ok_take_parted (T : Txt K mg d) : OkD P w K mg base (L2.CX P w) 7 d.f_take_parted ["reader"] (spParted K d) := by
  obtain ⟨fd, F, B⟩ := T.k_take_parted.ex
  obtain ⟨⟨fd_Reader_take, G_Reader_take, B_Reader_take⟩, kp_Reader_take⟩ := ok_Reader_take (P := P) (w := w) (base := base) T
  obtain ⟨⟨fd_Parted, G_Parted, B_Parted⟩, kp_Parted⟩ := ok_Parted_init (P := P) (w := w) (base := base) T
  obtain ⟨⟨fd_Reader_take_tincture_beside, G_Reader_take_tincture_beside, B_Reader_take_tincture_beside⟩, kp_Reader_take_tincture_beside⟩ := ok_Reader_take_tincture_beside (P := P) (w := w) (base := base) T
  obtain ⟨c_LAST_PARTED_WAY, m_LAST_PARTED_WAY⟩ := T.nLAST_PARTED_WAY
  obtain ⟨c_LAST_LINE, m_LAST_LINE⟩ := T.nLAST_LINE
  obtain ⟨c_LAST_TINCTURE, m_LAST_TINCTURE⟩ := T.nLAST_TINCTURE
  refine ⟨⟨fd, F.okX sc_take_parted (fun vs H Q E h => ?_) (fun cdv A outer s H vs Q E hr h => ?_), B⟩, F.kp⟩
  · obtain ⟨R, us, bs, a, x, p, par, rfl, _, ⟨rfl, rfl⟩, _⟩ := h
    rfl
  · obtain ⟨R, us, bs, a, x, q0, par, rfl, A0, ⟨rfl, rfl⟩, k⟩ := h
    have hr_Reader_take : Room 3 _ := hr.mono (by decide)
    have hr_Parted : Room 2 _ := hr.mono (by decide)
    have hr_Reader_take_tincture_beside : Room 5 _ := hr.mono (by decide)
    have K0 : Keep R H H := Keep.refl R H
    refine ⟨_, pss_cons (ps_set (i := 1) sc_take_parted.nd rfl (Or.inl rfl) (pe_meth (pv 0) T.kReader.cl T.kReader_take.me G_Reader_take hr_Reader_take B_Reader_take .nil passX (pa_cons pe_int (pa_cons (pgi m_LAST_PARTED_WAY) pa_nil))))
      (pss_cons (ps_set (i := 2) sc_take_parted.nd rfl (Or.inl rfl) (pe_meth (pv 0) T.kReader.cl T.kReader_take.me G_Reader_take hr_Reader_take B_Reader_take .nil passX (pa_cons pe_int (pa_cons (pgi m_LAST_LINE) pa_nil))))
      (pss_cons (ps_set (i := 3) sc_take_parted.nd rfl (Or.inl rfl) (pe_meth (pv 0) T.kReader.cl T.kReader_take.me G_Reader_take hr_Reader_take B_Reader_take .nil passX (pa_cons pe_int (pa_cons (pgi m_LAST_TINCTURE) pa_nil))))
      (pss_one (ps_ret (pe_make T.kParted.mak G_Parted hr_Parted rfl T.kParted.gl B_Parted .nil pass0 (pa_cons (pv 1) (pa_cons (pv 2) (pa_cons (pv 3) (pa_cons (pe_meth (pv 0) T.kReader.cl T.kReader_take_tincture_beside.me G_Reader_take_tincture_beside hr_Reader_take_tincture_beside B_Reader_take_tincture_beside .nil passX (pa_cons (pv 3) pa_nil)) pa_nil))))))))), ?_⟩
    unfold partedAt at k
    refine ⟨_, rfl, R, x, _, rfl, A0.hR, lk_take, R, _, bs, a, x, q0, _, rfl, A0, ⟨0, 7, rfl, rfl⟩, ?_⟩
    cases e1 : Sh.numAt 0 7 Sh.ANY q0 (bs.drop q0) with
    | error e =>
      rw [e1] at k
      exact k
    | ok y =>
    obtain ⟨n1, q1, r1⟩ := y
    rw [e1] at k
    intro v1 H1 k1 h1 l1 g1 t1
    dsimp only at k h1 l1 g1 t1
    subst g1
    have K1 : Keep R H H1 := K0.trans k1
    have A1 := A0.step k1 h1 l1
    cases t1
    refine ⟨_, rfl, R, x, _, rfl, A1.hR, lk_take, R, _, bs, a, x, q1, _, rfl, A1, ⟨0, 5, rfl, rfl⟩, ?_⟩
    cases e2 : Sh.numAt 0 5 Sh.ANY q1 (bs.drop q1) with
    | error e =>
      rw [e2] at k
      exact k
    | ok y =>
    obtain ⟨n2, q2, r2⟩ := y
    rw [e2] at k
    intro v2 H2 k2 h2 l2 g2 t2
    dsimp only at k h2 l2 g2 t2
    subst g2
    have K2 : Keep R H H2 := K1.trans k2
    have A2 := A1.step k2 h2 l2
    cases t2
    unfold Sh.twoAt at k
    refine ⟨_, rfl, R, x, _, rfl, A2.hR, lk_take, R, _, bs, a, x, q2, _, rfl, A2, ⟨0, 8, rfl, rfl⟩, ?_⟩
    cases e3 : Sh.numAt 0 8 Sh.ANY q2 (bs.drop q2) with
    | error e =>
      rw [e3] at k
      exact k
    | ok y =>
    obtain ⟨n3, q3, r3⟩ := y
    rw [e3] at k
    intro v3 H3 k3 h3 l3 g3 t3
    dsimp only at k h3 l3 g3 t3
    subst g3
    have K3 : Keep R H H3 := K2.trans k3
    have A3 := A2.step k3 h3 l3
    cases t3
    refine ⟨_, rfl, _, rfl, _, rfl, _, rfl, R, x, _, rfl, A3.hR, lk_bes, _, rfl, R, _, bs, a, x, q3, _, rfl, A3, ⟨n3, rfl, rfl⟩, ?_⟩
    cases e4 : Sh.numAt 0 8 n3 q3 (bs.drop q3) with
    | error e =>
      rw [e4] at k
      exact k
    | ok y =>
    obtain ⟨n4, q4, r4⟩ := y
    rw [e4] at k
    intro v4 H4 k4 h4 l4 g4 t4
    dsimp only at k h4 l4 g4 t4
    subst g4
    have K4 : Keep R H H4 := K3.trans k4
    have A4 := A3.step k4 h4 l4
    cases t4
    refine made rfl fun y dy H5 ny s5 hy => ?_
    exact k _ H5 (K4.trans (Keep.of s5)) (s5 _ _ h4) l4 rfl ⟨y, dy, rfl, K4.free h4 ny, hy⟩
theorem sc_take_varied : FnScope ["reader", "way", "pieces", "line", "first"] ["reader"] (defScope s_take_varied) := ⟨rfl, rfl, rfl, by decide +kernel, rfl, by decide +kernel, by decide +kernel⟩
theorem ok_take_varied (T : Txt K mg d) : OkD P w K mg base (L2.CX P w) 7 d.f_take_varied ["reader"] (spVaried K d) := by
  obtain ⟨fd, F, B⟩ := T.k_take_varied.ex
  obtain ⟨⟨fd_Reader_take, G_Reader_take, B_Reader_take⟩, kp_Reader_take⟩ := ok_Reader_take (P := P) (w := w) (base := base) T
  obtain ⟨⟨fd_Varied, G_Varied, B_Varied⟩, kp_Varied⟩ := ok_Varied_init (P := P) (w := w) (base := base) T
  obtain ⟨⟨fd_Reader_take_tincture_beside, G_Reader_take_tincture_beside, B_Reader_take_tincture_beside⟩, kp_Reader_take_tincture_beside⟩ := ok_Reader_take_tincture_beside (P := P) (w := w) (base := base) T
  obtain ⟨c_LAST_VARIED_WAY, m_LAST_VARIED_WAY⟩ := T.nLAST_VARIED_WAY
  obtain ⟨c_FEWEST_PIECES, m_FEWEST_PIECES⟩ := T.nFEWEST_PIECES
  obtain ⟨c_MOST_PIECES, m_MOST_PIECES⟩ := T.nMOST_PIECES
  obtain ⟨c_LAST_TINCTURE, m_LAST_TINCTURE⟩ := T.nLAST_TINCTURE
  obtain ⟨c_LAST_LINE, m_LAST_LINE⟩ := T.nLAST_LINE
  obtain ⟨c_FIRST_STRAIGHT_WAY, m_FIRST_STRAIGHT_WAY⟩ := T.nFIRST_STRAIGHT_WAY
  refine ⟨⟨fd, F.okX sc_take_varied (fun vs H Q E h => ?_) (fun cdv A outer s H vs Q E hr h => ?_), B⟩, F.kp⟩
  · obtain ⟨R, us, bs, a, x, p, par, rfl, _, ⟨rfl, rfl⟩, _⟩ := h
    rfl
  · obtain ⟨R, us, bs, a, x, q0, par, rfl, A0, ⟨rfl, rfl⟩, k⟩ := h
    have hr_Reader_take : Room 3 _ := hr.mono (by decide)
    have hr_Varied : Room 2 _ := hr.mono (by decide)
    have hr_Reader_take_tincture_beside : Room 5 _ := hr.mono (by decide)
    have K0 : Keep R H H := Keep.refl R H
    refine ⟨_, pss_cons (ps_set (i := 1) sc_take_varied.nd rfl (Or.inl rfl) (pe_meth (pv 0) T.kReader.cl T.kReader_take.me G_Reader_take hr_Reader_take B_Reader_take .nil passX (pa_cons pe_int (pa_cons (pgi m_LAST_VARIED_WAY) pa_nil))))
      (pss_cons (ps_set (i := 2) sc_take_varied.nd rfl (Or.inl rfl) (pe_meth (pv 0) T.kReader.cl T.kReader_take.me G_Reader_take hr_Reader_take B_Reader_take .nil passX (pa_cons (pgi m_FEWEST_PIECES) (pa_cons (pgi m_MOST_PIECES) pa_nil))))
      (pss_cons (ps_set (i := 3) sc_take_varied.nd rfl (Or.inl rfl) (pe_meth (pv 0) T.kReader.cl T.kReader_take.me G_Reader_take hr_Reader_take B_Reader_take .nil passX (pa_cons pe_int (pa_cons (pe_ifExp (pt_cmpR op_lt (pv 1) (pgi m_FIRST_STRAIGHT_WAY) (nomark _)) (pgi m_LAST_LINE) pe_int) pa_nil))))
      (pss_cons (ps_set (i := 4) sc_take_varied.nd rfl (Or.inl rfl) (pe_meth (pv 0) T.kReader.cl T.kReader_take.me G_Reader_take hr_Reader_take B_Reader_take .nil passX (pa_cons pe_int (pa_cons (pgi m_LAST_TINCTURE) pa_nil))))
      (pss_one (ps_ret (pe_make T.kVaried.mak G_Varied hr_Varied rfl T.kVaried.gl B_Varied .nil pass0 (pa_cons (pv 1) (pa_cons (pv 2) (pa_cons (pv 3) (pa_cons (pv 4) (pa_cons (pe_meth (pv 0) T.kReader.cl T.kReader_take_tincture_beside.me G_Reader_take_tincture_beside hr_Reader_take_tincture_beside B_Reader_take_tincture_beside .nil passX (pa_cons (pv 4) pa_nil)) pa_nil))))))))))), ?_⟩
    unfold variedAt at k
    refine ⟨_, rfl, R, x, _, rfl, A0.hR, lk_take, R, _, bs, a, x, q0, _, rfl, A0, ⟨0, 6, rfl, rfl⟩, ?_⟩
    cases e1 : Sh.numAt 0 6 Sh.ANY q0 (bs.drop q0) with
    | error e =>
      rw [e1] at k
      exact k
    | ok y =>
    obtain ⟨n1, q1, r1⟩ := y
    rw [e1] at k
    intro v1 H1 k1 h1 l1 g1 t1
    dsimp only at k h1 l1 g1 t1
    subst g1
    have K1 : Keep R H H1 := K0.trans k1
    have A1 := A0.step k1 h1 l1
    cases t1
    refine ⟨_, rfl, R, x, _, rfl, A1.hR, lk_take, R, _, bs, a, x, q1, _, rfl, A1, ⟨2, 24, rfl, rfl⟩, ?_⟩
    cases e2 : Sh.numAt 2 24 Sh.ANY q1 (bs.drop q1) with
    | error e =>
      rw [e2] at k
      exact k
    | ok y =>
    obtain ⟨n2, q2, r2⟩ := y
    rw [e2] at k
    intro v2 H2 k2 h2 l2 g2 t2
    dsimp only at k h2 l2 g2 t2
    subst g2
    have K2 : Keep R H H2 := K1.trans k2
    have A2 := A1.step k2 h2 l2
    cases t2
    refine ⟨_, rfl, R, x, _, rfl, A2.hR, lk_take, _, rfl, _, _, rfl, rfl, _, rfl, ?_⟩
    refine ite2 (fun c => ?_) (fun c => ?_)
    · have c' : ¬ 5 ≤ n1 := by have := of_decide_eq_true c; omega
      rw [if_neg c'] at k
      refine ⟨R, _, bs, a, x, q2, _, rfl, A2, ⟨0, 5, rfl, rfl⟩, ?_⟩
      cases e3 : Sh.numAt 0 5 Sh.ANY q2 (bs.drop q2) with
      | error e =>
        rw [e3] at k
        exact k
      | ok y =>
      obtain ⟨n3, q3, r3⟩ := y
      rw [e3] at k
      intro v3 H3 k3 h3 l3 g3 t3
      dsimp only at k h3 l3 g3 t3
      subst g3
      have K3 : Keep R H H3 := K2.trans k3
      have A3 := A2.step k3 h3 l3
      cases t3
      unfold Sh.twoAt at k
      refine ⟨_, rfl, R, x, _, rfl, A3.hR, lk_take, R, _, bs, a, x, q3, _, rfl, A3, ⟨0, 8, rfl, rfl⟩, ?_⟩
      cases e4 : Sh.numAt 0 8 Sh.ANY q3 (bs.drop q3) with
      | error e =>
        rw [e4] at k
        exact k
      | ok y =>
      obtain ⟨n4, q4, r4⟩ := y
      rw [e4] at k
      intro v4 H4 k4 h4 l4 g4 t4
      dsimp only at k h4 l4 g4 t4
      subst g4
      have K4 : Keep R H H4 := K3.trans k4
      have A4 := A3.step k4 h4 l4
      cases t4
      refine ⟨_, rfl, _, rfl, _, rfl, _, rfl, _, rfl, R, x, _, rfl, A4.hR, lk_bes, _, rfl, R, _, bs, a, x, q4, _, rfl, A4, ⟨n4, rfl, rfl⟩, ?_⟩
      cases e5 : Sh.numAt 0 8 n4 q4 (bs.drop q4) with
      | error e =>
        rw [e5] at k
        exact k
      | ok y =>
      obtain ⟨n5, q5, r5⟩ := y
      rw [e5] at k
      intro v5 H5 k5 h5 l5 g5 t5
      dsimp only at k h5 l5 g5 t5
      subst g5
      have K5 : Keep R H H5 := K4.trans k5
      have A5 := A4.step k5 h5 l5
      cases t5
      refine made rfl fun y dy H6 ny s6 hy => ?_
      exact k _ H6 (K5.trans (Keep.of s6)) (s6 _ _ h5) l5 rfl ⟨y, dy, rfl, K5.free h5 ny, hy⟩
    · have c' : 5 ≤ n1 := by
        have := of_decide_eq_false (by simpa using c : decide ((n1 : Int) < 5) = false)
        omega
      rw [if_pos c'] at k
      refine ⟨R, _, bs, a, x, q2, _, rfl, A2, ⟨0, 0, rfl, rfl⟩, ?_⟩
      cases e3 : Sh.numAt 0 0 Sh.ANY q2 (bs.drop q2) with
      | error e =>
        rw [e3] at k
        exact k
      | ok y =>
      obtain ⟨n3, q3, r3⟩ := y
      rw [e3] at k
      intro v3 H3 k3 h3 l3 g3 t3
      dsimp only at k h3 l3 g3 t3
      subst g3
      have K3 : Keep R H H3 := K2.trans k3
      have A3 := A2.step k3 h3 l3
      cases t3
      unfold Sh.twoAt at k
      refine ⟨_, rfl, R, x, _, rfl, A3.hR, lk_take, R, _, bs, a, x, q3, _, rfl, A3, ⟨0, 8, rfl, rfl⟩, ?_⟩
      cases e4 : Sh.numAt 0 8 Sh.ANY q3 (bs.drop q3) with
      | error e =>
        rw [e4] at k
        exact k
      | ok y =>
      obtain ⟨n4, q4, r4⟩ := y
      rw [e4] at k
      intro v4 H4 k4 h4 l4 g4 t4
      dsimp only at k h4 l4 g4 t4
      subst g4
      have K4 : Keep R H H4 := K3.trans k4
      have A4 := A3.step k4 h4 l4
      cases t4
      refine ⟨_, rfl, _, rfl, _, rfl, _, rfl, _, rfl, R, x, _, rfl, A4.hR, lk_bes, _, rfl, R, _, bs, a, x, q4, _, rfl, A4, ⟨n4, rfl, rfl⟩, ?_⟩
      cases e5 : Sh.numAt 0 8 n4 q4 (bs.drop q4) with
      | error e =>
        rw [e5] at k
        exact k
      | ok y =>
      obtain ⟨n5, q5, r5⟩ := y
      rw [e5] at k
      intro v5 H5 k5 h5 l5 g5 t5
      dsimp only at k h5 l5 g5 t5
      subst g5
      have K5 : Keep R H H5 := K4.trans k5
      have A5 := A4.step k5 h5 l5
      cases t5
      refine made rfl fun y dy H6 ny s6 hy => ?_
      exact k _ H6 (K5.trans (Keep.of s6)) (s6 _ _ h5) l5 rfl ⟨y, dy, rfl, K5.free h5 ny, hy⟩
end
end HC

namespace HC
open PySem PySem.Spec PyProof.Rows L2
section
variable {P : Program} {w : World} {K : PySem.W.Frag} {mg : Str → Option Value} {base : Heap} {d : Ad}
theorem sc_take_field : FnScope ["reader", "kind"] ["reader"] (defScope s_take_field) := ⟨rfl, rfl, rfl, by decide +kernel, rfl, by decide +kernel, by decide +kernel⟩
theorem ok_take_field (T : Txt K mg d) : OkD P w K mg base (L2.CX P w) 9 d.f_take_field ["reader"] (spField K d) := by
  obtain ⟨fd, F, B⟩ := T.k_take_field.ex
  obtain ⟨⟨fd_Reader_take, G_Reader_take, B_Reader_take⟩, kp_Reader_take⟩ := ok_Reader_take (P := P) (w := w) (base := base) T
  obtain ⟨⟨fd_take_varied, G_take_varied, B_take_varied⟩, kp_take_varied⟩ := ok_take_varied (P := P) (w := w) (base := base) T
  obtain ⟨⟨fd_Plain, G_Plain, B_Plain⟩, kp_Plain⟩ := ok_Plain_init (P := P) (w := w) (base := base) T
  obtain ⟨⟨fd_take_parted, G_take_parted, B_take_parted⟩, kp_take_parted⟩ := ok_take_parted (P := P) (w := w) (base := base) T
  obtain ⟨c_LAST_TINCTURE, m_LAST_TINCTURE⟩ := T.nLAST_TINCTURE
  refine ⟨⟨fd, F.okX sc_take_field (fun vs H Q E h => ?_) (fun cdv A outer s H vs Q E hr h => ?_), B⟩, F.kp⟩
  · obtain ⟨R, us, bs, a, x, p, par, rfl, _, ⟨rfl, rfl⟩, _⟩ := h
    rfl
  · obtain ⟨R, us, bs, a, x, q0, par, rfl, A0, ⟨rfl, rfl⟩, k⟩ := h
    have hr_Reader_take : Room 3 _ := hr.mono (by decide)
    have hr_take_varied : Room 7 _ := hr.mono (by decide)
    have hr_Plain : Room 2 _ := hr.mono (by decide)
    have hr_take_parted : Room 7 _ := hr.mono (by decide)
    have K0 : Keep R H H := Keep.refl R H
    refine ⟨_, pss_cons (ps_set (i := 1) sc_take_field.nd rfl (Or.inl rfl) (pe_meth (pv 0) T.kReader.cl T.kReader_take.me G_Reader_take hr_Reader_take B_Reader_take .nil passX (pa_cons pe_int (pa_cons pe_int pa_nil))))
      (pss_cons (ps_if (pt_cmpR op_eq (pv 1) pe_int (nomark _))
        (pss_one (ps_ret (pe_make T.kPlain.mak G_Plain hr_Plain rfl T.kPlain.gl B_Plain .nil pass0 (pa_cons (pe_meth (pv 0) T.kReader.cl T.kReader_take.me G_Reader_take hr_Reader_take B_Reader_take .nil passX (pa_cons pe_int (pa_cons (pgi m_LAST_TINCTURE) pa_nil))) pa_nil))))
        pss_nil)
      (pss_cons (ps_if (pt_cmpR op_eq (pv 1) pe_int (nomark _))
        (pss_one (ps_ret (pe_call G_take_parted hr_take_parted rfl T.k_take_parted.gl kp_take_parted B_take_parted .nil passX (pa_cons (pv 0) pa_nil))))
        pss_nil)
      (pss_one (ps_ret (pe_call G_take_varied hr_take_varied rfl T.k_take_varied.gl kp_take_varied B_take_varied .nil passX (pa_cons (pv 0) pa_nil)))))), ?_⟩
    unfold Sh.fieldAt at k
    refine ⟨_, rfl, R, x, _, rfl, A0.hR, lk_take, R, _, bs, a, x, q0, _, rfl, A0, ⟨0, 2, rfl, rfl⟩, ?_⟩
    cases e1 : Sh.numAt 0 2 Sh.ANY q0 (bs.drop q0) with
    | error e =>
      rw [e1] at k
      exact k
    | ok y =>
    obtain ⟨n1, q1, r1⟩ := y
    rw [e1] at k
    intro v1 H1 k1 h1 l1 g1 t1
    dsimp only at k h1 l1 g1 t1
    subst g1
    have K1 : Keep R H H1 := K0.trans k1
    have A1 := A0.step k1 h1 l1
    cases t1
    refine ⟨_, rfl, rfl, _, rfl, ?_⟩
    refine ite2 (fun c => ?_) (fun c => ?_)
    · have c' : n1 = 0 := by have := eqv c; omega
      rw [if_pos c'] at k
      refine ⟨_, rfl, R, x, _, rfl, A1.hR, lk_take, R, _, bs, a, x, q1, _, rfl, A1, ⟨0, 8, rfl, rfl⟩, ?_⟩
      cases e2 : Sh.numAt 0 8 Sh.ANY q1 (bs.drop q1) with
      | error e =>
        rw [e2] at k
        exact k
      | ok y =>
      obtain ⟨n2, q2, r2⟩ := y
      rw [e2] at k
      intro v2 H2 k2 h2 l2 g2 t2
      dsimp only at k h2 l2 g2 t2
      subst g2
      have K2 : Keep R H H2 := K1.trans k2
      have A2 := A1.step k2 h2 l2
      cases t2
      refine made rfl fun y dy H3 ny s3 hy => ?_
      exact k _ H3 (K2.trans (Keep.of s3)) (s3 _ _ h2) l2 rfl ⟨y, dy, rfl, K2.free h2 ny, hy⟩
    · have c' : ¬ n1 = 0 := fun e => neqv c (by rw [e]; rfl)
      rw [if_neg c'] at k
      refine ⟨_, rfl, rfl, _, rfl, ?_⟩
      refine ite2 (fun c1 => ?_) (fun c1 => ?_)
      · have c2 : n1 = 1 := by have := eqv c1; omega
        rw [if_pos c2] at k
        have k' : Give d bs a R x (RField d) H Q E (partedAt q1 (bs.drop q1)) := k
        refine ⟨_, rfl, R, _, bs, a, x, q1, _, rfl, A1, ⟨rfl, rfl⟩, ?_⟩
        exact Give.up K1 h1 (fun _ _ _ _ _ m z => RField.mv z m) k'
      · have c2 : ¬ n1 = 1 := fun e => neqv c1 (by rw [e]; rfl)
        rw [if_neg c2] at k
        have k' : Give d bs a R x (RField d) H Q E (variedAt q1 (bs.drop q1)) := k
        refine ⟨_, rfl, R, _, bs, a, x, q1, _, rfl, A1, ⟨rfl, rfl⟩, ?_⟩
        exact Give.up K1 h1 (fun _ _ _ _ _ m z => RField.mv z m) k'
/-! ### fills, layers -/
def preFill {α : Type} (d : Ad) (g : Sh.Field → Nat → Sh.Bytes → Except Nat (α × Nat × Sh.Bytes)) (H : Hp) (us : List V) (par : Nat → Sh.Bytes → Except Nat (α × Nat × Sh.Bytes)) : Prop :=
  ∃ (v : V) (f : Sh.Field) (H0 : Hp), us = [v] ∧ RField d H0 H v f ∧ par = g f
abbrev spFill (K : PySem.W.Frag) (d : Ad) : Sp := spRd K d (preFill d Sh.fillAt) (RFill d)
abbrev spLayer (K : PySem.W.Frag) (d : Ad) : Sp := spRd K d (preFill d Sh.layerAt) (RLayer d)
/-- isinstance(field, Plain) -/
theorem isPlain (T : Txt K mg d) {H0 H : Hp} {v : V} {f : Sh.Field} (h : RField d H0 H v f) : ∃ t, TyX K H v t ∧ PySem.W.kitOne K t (.ref d.cPlain) = some (!f.two.isSome) := by
  cases f with
  | plain t =>
    obtain ⟨b, dx, rfl, _, o⟩ := h
    exact ⟨_, .base (.ins o T.kPlain.cl T.kPlain.cla T.gs T.tk T.kPlain.mro), T.iPlain_Plain⟩
  | parted w l a c =>
    obtain ⟨b, dx, rfl, _, o⟩ := h
    exact ⟨_, .base (.ins o T.kParted.cl T.kParted.cla T.gs T.tk T.kParted.mro), T.iParted_Plain⟩
  | varied w n l a c =>
    obtain ⟨b, dx, rfl, _, o⟩ := h
    exact ⟨_, .base (.ins o T.kVaried.cl T.kVaried.cla T.gs T.tk T.kVaried.mro), T.iVaried_Plain⟩
theorem sc_take_fill : FnScope ["reader", "field", "counterchanged"] ["reader", "field"] (defScope s_take_fill) := ⟨rfl, rfl, rfl, by decide +kernel, rfl, by decide +kernel, by decide +kernel⟩
theorem ok_take_fill (T : Txt K mg d) : OkD P w K mg base (L2.CX P w) 11 d.f_take_fill ["reader", "field"] (spFill K d) := by
  obtain ⟨fd, F, B⟩ := T.k_take_fill.ex
  obtain ⟨⟨fd_Reader_take, G_Reader_take, B_Reader_take⟩, kp_Reader_take⟩ := ok_Reader_take (P := P) (w := w) (base := base) T
  obtain ⟨⟨fd_take_field, G_take_field, B_take_field⟩, kp_take_field⟩ := ok_take_field (P := P) (w := w) (base := base) T
  refine ⟨⟨fd, F.okX sc_take_fill (fun vs H Q E h => ?_) (fun cdv A outer s H vs Q E hr h => ?_), B⟩, F.kp⟩
  · obtain ⟨R, us, bs, a, x, p, par, rfl, _, ⟨v, f, H0, rfl, _, rfl⟩, _⟩ := h
    rfl
  · obtain ⟨R, us, bs, a, x, q0, par, rfl, A0, ⟨v, f, H0, rfl, hf, rfl⟩, k⟩ := h
    have hr_Reader_take : Room 3 _ := hr.mono (by decide)
    have hr_take_field : Room 9 _ := hr.mono (by decide)
    have K0 : Keep R H H := Keep.refl R H
    refine ⟨_, pss_cons (ps_set (i := 2) sc_take_fill.nd rfl (Or.inl rfl) (pe_meth (pv 0) T.kReader.cl T.kReader_take.me G_Reader_take hr_Reader_take B_Reader_take .nil passX (pa_cons pe_int (pa_cons (pe_ifExp (pt_val (pe_callB call_isi (by rfl) T.b_isinstance (by decide +kernel) (pa_cons (pv 1) (pa_cons (pe_glob (v := .ref d.cPlain) rfl T.kPlain.gl rfl) pa_nil)))) pe_int pe_int) pa_nil))))
      (pss_cons (ps_if (pt_cmpR op_eq (pv 2) pe_int (nomark _))
        (pss_one (ps_ret pe_non))
        pss_nil)
      (pss_one (ps_ret (pe_call G_take_field hr_take_field rfl T.k_take_field.gl kp_take_field B_take_field .nil passX (pa_cons (pv 0) pa_nil))))), ?_⟩
    unfold Sh.fillAt at k
    obtain ⟨ty, h1, h2⟩ := isPlain T hf
    refine ⟨_, rfl, R, x, _, rfl, A0.hR, lk_take, _, rfl, _, _, ty, _, _, rfl, ClsV.own _, h1, h2, _, rfl, ?_⟩
    refine ite2 (fun c => ?_) (fun c => ?_)
    · have c' : ¬ f.two.isSome = true := by
        intro z
        rw [z] at c
        cases c
      rw [if_neg c'] at k
      refine ⟨R, _, bs, a, x, q0, _, rfl, A0, ⟨0, 0, rfl, rfl⟩, ?_⟩
      cases e1 : Sh.numAt 0 0 Sh.ANY q0 (bs.drop q0) with
      | error e =>
        rw [e1] at k
        exact k
      | ok y =>
      obtain ⟨n1, q1, r1⟩ := y
      rw [e1] at k
      intro v1 H1 k1 h1 l1 g1 t1
      dsimp only at k h1 l1 g1 t1
      subst g1
      have K1 : Keep R H H1 := K0.trans k1
      have A1 := A0.step k1 h1 l1
      cases t1
      have b1 := (num_ok (x := 0) e1).2.2.1
      have c2 : ¬ n1 = 1 := by omega
      rw [if_neg c2] at k
      refine ⟨_, rfl, rfl, _, rfl, ?_⟩
      refine ite2 (fun c3 => absurd (eqv c3) (by omega)) (fun _ => ?_)
      refine ⟨_, rfl, R, _, bs, a, x, q1, _, rfl, A1, ⟨rfl, rfl⟩, ?_⟩
      cases e2 : Sh.fieldAt q1 (bs.drop q1) with
      | error e =>
        rw [e2] at k
        exact k
      | ok y =>
      obtain ⟨n2, q2, r2⟩ := y
      rw [e2] at k
      intro v2 H2 k2 h2 l2 g2 t2
      dsimp only at k h2 l2 g2 t2
      subst g2
      have K2 : Keep R H H2 := K1.trans k2
      have A2 := A1.step k2 h2 l2
      exact k _ H2 K2 h2 l2 rfl (RField.mv t2 (K1.mv h1))
    · have c' : f.two.isSome = true := by
        cases z : f.two.isSome with
        | true => rfl
        | false =>
          rw [z] at c
          exact absurd rfl c
      rw [if_pos c'] at k
      refine ⟨R, _, bs, a, x, q0, _, rfl, A0, ⟨0, 1, rfl, rfl⟩, ?_⟩
      cases e1 : Sh.numAt 0 1 Sh.ANY q0 (bs.drop q0) with
      | error e =>
        rw [e1] at k
        exact k
      | ok y =>
      obtain ⟨n1, q1, r1⟩ := y
      rw [e1] at k
      intro v1 H1 k1 h1 l1 g1 t1
      dsimp only at k h1 l1 g1 t1
      subst g1
      have K1 : Keep R H H1 := K0.trans k1
      have A1 := A0.step k1 h1 l1
      cases t1
      refine ⟨_, rfl, rfl, _, rfl, ?_⟩
      refine ite2 (fun c3 => ?_) (fun c3 => ?_)
      · have c4 : n1 = 1 := by have := eqv c3; omega
        rw [if_pos c4] at k
        exact k _ H1 K1 h1 l1 rfl rfl
      · have c4 : ¬ n1 = 1 := fun e => neqv c3 (by rw [e]; rfl)
        rw [if_neg c4] at k
        refine ⟨_, rfl, R, _, bs, a, x, q1, _, rfl, A1, ⟨rfl, rfl⟩, ?_⟩
        cases e2 : Sh.fieldAt q1 (bs.drop q1) with
        | error e =>
          rw [e2] at k
          exact k
        | ok y =>
        obtain ⟨n2, q2, r2⟩ := y
        rw [e2] at k
        intro v2 H2 k2 h2 l2 g2 t2
        dsimp only at k h2 l2 g2 t2
        subst g2
        have K2 : Keep R H H2 := K1.trans k2
        have A2 := A1.step k2 h2 l2
        exact k _ H2 K2 h2 l2 rfl (RField.mv t2 (K1.mv h1))
theorem sc_take_layer : FnScope ["reader", "field", "kind", "figure", "line", "charge", "many", "manner", "size"] ["reader", "field"] (defScope s_take_layer) := ⟨rfl, rfl, rfl, by decide +kernel, rfl, by decide +kernel, by decide +kernel⟩
theorem ok_take_layer (T : Txt K mg d) : OkD P w K mg base (L2.CX P w) 13 d.f_take_layer ["reader", "field"] (spLayer K d) := by
  obtain ⟨fd, F, B⟩ := T.k_take_layer.ex
  obtain ⟨⟨fd_Reader_take, G_Reader_take, B_Reader_take⟩, kp_Reader_take⟩ := ok_Reader_take (P := P) (w := w) (base := base) T
  obtain ⟨⟨fd_Group, G_Group, B_Group⟩, kp_Group⟩ := ok_Group_init (P := P) (w := w) (base := base) T
  obtain ⟨⟨fd_Ordinary, G_Ordinary, B_Ordinary⟩, kp_Ordinary⟩ := ok_Ordinary_init (P := P) (w := w) (base := base) T
  obtain ⟨⟨fd_take_fill, G_take_fill, B_take_fill⟩, kp_take_fill⟩ := ok_take_fill (P := P) (w := w) (base := base) T
  obtain ⟨c_LAST_CHARGE, m_LAST_CHARGE⟩ := T.nLAST_CHARGE
  obtain ⟨c_LAST_MANNER, m_LAST_MANNER⟩ := T.nLAST_MANNER
  obtain ⟨c_LAST_ORDINARY, m_LAST_ORDINARY⟩ := T.nLAST_ORDINARY
  obtain ⟨c_LAST_LINE, m_LAST_LINE⟩ := T.nLAST_LINE
  refine ⟨⟨fd, F.okX sc_take_layer (fun vs H Q E h => ?_) (fun cdv A outer s H vs Q E hr h => ?_), B⟩, F.kp⟩
  · obtain ⟨R, us, bs, a, x, p, par, rfl, _, ⟨v, f, H0, rfl, _, rfl⟩, _⟩ := h
    rfl
  · obtain ⟨R, us, bs, a, x, q0, par, rfl, A0, ⟨v, f, HF, rfl, hf, rfl⟩, k⟩ := h
    have hr_Reader_take : Room 3 _ := hr.mono (by decide)
    have hr_Group : Room 2 _ := hr.mono (by decide)
    have hr_Ordinary : Room 2 _ := hr.mono (by decide)
    have hr_take_fill : Room 11 _ := hr.mono (by decide)
    have K0 : Keep R H H := Keep.refl R H
    refine ⟨_, pss_cons (ps_set (i := 2) sc_take_layer.nd rfl (Or.inl rfl) (pe_meth (pv 0) T.kReader.cl T.kReader_take.me G_Reader_take hr_Reader_take B_Reader_take .nil passX (pa_cons pe_int (pa_cons pe_int pa_nil))))
      (pss_cons (ps_if (pt_cmpR op_eq (pv 2) pe_int (nomark _))
        (pss_cons (ps_set (i := 3) sc_take_layer.nd rfl (Or.inl rfl) (pe_meth (pv 0) T.kReader.cl T.kReader_take.me G_Reader_take hr_Reader_take B_Reader_take .nil passX (pa_cons pe_int (pa_cons (pgi m_LAST_ORDINARY) pa_nil))))
      (pss_cons (ps_set (i := 4) sc_take_layer.nd rfl (Or.inl rfl) (pe_meth (pv 0) T.kReader.cl T.kReader_take.me G_Reader_take hr_Reader_take B_Reader_take .nil passX (pa_cons pe_int (pa_cons (pgi m_LAST_LINE) pa_nil))))
      (pss_one (ps_ret (pe_make T.kOrdinary.mak G_Ordinary hr_Ordinary rfl T.kOrdinary.gl B_Ordinary .nil pass0 (pa_cons (pv 3) (pa_cons (pv 4) (pa_cons (pe_call G_take_fill hr_take_fill rfl T.k_take_fill.gl kp_take_fill B_take_fill .nil passX (pa_cons (pv 0) (pa_cons (pv 1) pa_nil))) pa_nil))))))))
        pss_nil)
      (pss_cons (ps_set (i := 5) sc_take_layer.nd rfl (Or.inl rfl) (pe_meth (pv 0) T.kReader.cl T.kReader_take.me G_Reader_take hr_Reader_take B_Reader_take .nil passX (pa_cons pe_int (pa_cons (pgi m_LAST_CHARGE) pa_nil))))
      (pss_cons (ps_set (i := 6) sc_take_layer.nd rfl (Or.inl rfl) (pe_meth (pv 0) T.kReader.cl T.kReader_take.me G_Reader_take hr_Reader_take B_Reader_take .nil passX (pa_cons pe_int (pa_cons pe_int pa_nil))))
      (pss_cons (ps_set (i := 7) sc_take_layer.nd rfl (Or.inl rfl) (pe_meth (pv 0) T.kReader.cl T.kReader_take.me G_Reader_take hr_Reader_take B_Reader_take .nil passX (pa_cons pe_int (pa_cons (pgi m_LAST_MANNER) pa_nil))))
      (pss_cons (ps_set (i := 8) sc_take_layer.nd rfl (Or.inl rfl) (pe_meth (pv 0) T.kReader.cl T.kReader_take.me G_Reader_take hr_Reader_take B_Reader_take .nil passX (pa_cons pe_int (pa_cons pe_int pa_nil))))
      (pss_one (ps_ret (pe_make T.kGroup.mak G_Group hr_Group rfl T.kGroup.gl B_Group .nil pass0 (pa_cons (pv 5) (pa_cons (pv 6) (pa_cons (pv 7) (pa_cons (pv 8) (pa_cons (pe_call G_take_fill hr_take_fill rfl T.k_take_fill.gl kp_take_fill B_take_fill .nil passX (pa_cons (pv 0) (pa_cons (pv 1) pa_nil))) pa_nil))))))))))))), ?_⟩
    unfold Sh.layerAt at k
    refine ⟨_, rfl, R, x, _, rfl, A0.hR, lk_take, R, _, bs, a, x, q0, _, rfl, A0, ⟨0, 1, rfl, rfl⟩, ?_⟩
    cases e1 : Sh.numAt 0 1 Sh.ANY q0 (bs.drop q0) with
    | error e =>
      rw [e1] at k
      exact k
    | ok y =>
    obtain ⟨n1, q1, r1⟩ := y
    rw [e1] at k
    intro v1 H1 k1 h1 l1 g1 t1
    dsimp only at k h1 l1 g1 t1
    subst g1
    have K1 : Keep R H H1 := K0.trans k1
    have A1 := A0.step k1 h1 l1
    cases t1
    refine ⟨_, rfl, rfl, _, rfl, ?_⟩
    refine ite2 (fun c => ?_) (fun c => ?_)
    · have c' : n1 = 0 := by have := eqv c; omega
      rw [if_pos c'] at k
      refine ⟨_, rfl, R, x, _, rfl, A1.hR, lk_take, R, _, bs, a, x, q1, _, rfl, A1, ⟨0, 12, rfl, rfl⟩, ?_⟩
      cases e2 : Sh.numAt 0 12 Sh.ANY q1 (bs.drop q1) with
      | error e =>
        rw [e2] at k
        exact k
      | ok y =>
      obtain ⟨n2, q2, r2⟩ := y
      rw [e2] at k
      intro v2 H2 k2 h2 l2 g2 t2
      dsimp only at k h2 l2 g2 t2
      subst g2
      have K2 : Keep R H H2 := K1.trans k2
      have A2 := A1.step k2 h2 l2
      cases t2
      refine ⟨_, rfl, R, x, _, rfl, A2.hR, lk_take, R, _, bs, a, x, q2, _, rfl, A2, ⟨0, 5, rfl, rfl⟩, ?_⟩
      cases e3 : Sh.numAt 0 5 Sh.ANY q2 (bs.drop q2) with
      | error e =>
        rw [e3] at k
        exact k
      | ok y =>
      obtain ⟨n3, q3, r3⟩ := y
      rw [e3] at k
      intro v3 H3 k3 h3 l3 g3 t3
      dsimp only at k h3 l3 g3 t3
      subst g3
      have K3 : Keep R H H3 := K2.trans k3
      have A3 := A2.step k3 h3 l3
      cases t3
      refine ⟨_, rfl, _, rfl, _, rfl, _, rfl, R, _, bs, a, x, q3, _, rfl, A3, ⟨v, f, HF, rfl, hf.stay A0.hR K3, rfl⟩, ?_⟩
      cases e4 : Sh.fillAt f q3 (bs.drop q3) with
      | error e =>
        rw [e4] at k
        exact k
      | ok y =>
      obtain ⟨n4, q4, r4⟩ := y
      rw [e4] at k
      intro v4 H4 k4 h4 l4 g4 t4
      dsimp only at k h4 l4 g4 t4
      subst g4
      have K4 : Keep R H H4 := K3.trans k4
      have A4 := A3.step k4 h4 l4
      refine made rfl fun y dy H5 ny s5 hy => ?_
      exact k _ H5 (K4.trans (Keep.of s5)) (s5 _ _ h4) l4 rfl ⟨v4, ⟨y, dy, rfl, K4.free h4 ny, hy⟩, RFill.mv t4 ((K3.mv h3).same s5)⟩
    · have c' : ¬ n1 = 0 := fun e => neqv c (by rw [e]; rfl)
      rw [if_neg c'] at k
      refine ⟨_, rfl, R, x, _, rfl, A1.hR, lk_take, R, _, bs, a, x, q1, _, rfl, A1, ⟨0, 15, rfl, rfl⟩, ?_⟩
      cases e2 : Sh.numAt 0 15 Sh.ANY q1 (bs.drop q1) with
      | error e =>
        rw [e2] at k
        exact k
      | ok y =>
      obtain ⟨n2, q2, r2⟩ := y
      rw [e2] at k
      intro v2 H2 k2 h2 l2 g2 t2
      dsimp only at k h2 l2 g2 t2
      subst g2
      have K2 : Keep R H H2 := K1.trans k2
      have A2 := A1.step k2 h2 l2
      cases t2
      refine ⟨_, rfl, R, x, _, rfl, A2.hR, lk_take, R, _, bs, a, x, q2, _, rfl, A2, ⟨1, 10, rfl, rfl⟩, ?_⟩
      cases e3 : Sh.numAt 1 10 Sh.ANY q2 (bs.drop q2) with
      | error e =>
        rw [e3] at k
        exact k
      | ok y =>
      obtain ⟨n3, q3, r3⟩ := y
      rw [e3] at k
      intro v3 H3 k3 h3 l3 g3 t3
      dsimp only at k h3 l3 g3 t3
      subst g3
      have K3 : Keep R H H3 := K2.trans k3
      have A3 := A2.step k3 h3 l3
      cases t3
      refine ⟨_, rfl, R, x, _, rfl, A3.hR, lk_take, R, _, bs, a, x, q3, _, rfl, A3, ⟨0, 6, rfl, rfl⟩, ?_⟩
      cases e4 : Sh.numAt 0 6 Sh.ANY q3 (bs.drop q3) with
      | error e =>
        rw [e4] at k
        exact k
      | ok y =>
      obtain ⟨n4, q4, r4⟩ := y
      rw [e4] at k
      intro v4 H4 k4 h4 l4 g4 t4
      dsimp only at k h4 l4 g4 t4
      subst g4
      have K4 : Keep R H H4 := K3.trans k4
      have A4 := A3.step k4 h4 l4
      cases t4
      refine ⟨_, rfl, R, x, _, rfl, A4.hR, lk_take, R, _, bs, a, x, q4, _, rfl, A4, ⟨1, 4, rfl, rfl⟩, ?_⟩
      cases e5 : Sh.numAt 1 4 Sh.ANY q4 (bs.drop q4) with
      | error e =>
        rw [e5] at k
        exact k
      | ok y =>
      obtain ⟨n5, q5, r5⟩ := y
      rw [e5] at k
      intro v5 H5 k5 h5 l5 g5 t5
      dsimp only at k h5 l5 g5 t5
      subst g5
      have K5 : Keep R H H5 := K4.trans k5
      have A5 := A4.step k5 h5 l5
      cases t5
      refine ⟨_, rfl, _, rfl, _, rfl, _, rfl, _, rfl, _, rfl, R, _, bs, a, x, q5, _, rfl, A5, ⟨v, f, HF, rfl, hf.stay A0.hR K5, rfl⟩, ?_⟩
      cases e6 : Sh.fillAt f q5 (bs.drop q5) with
      | error e =>
        rw [e6] at k
        exact k
      | ok y =>
      obtain ⟨n6, q6, r6⟩ := y
      rw [e6] at k
      intro v6 H6 k6 h6 l6 g6 t6
      dsimp only at k h6 l6 g6 t6
      subst g6
      have K6 : Keep R H H6 := K5.trans k6
      have A6 := A5.step k6 h6 l6
      refine made rfl fun y dy H7 ny s7 hy => ?_
      exact k _ H7 (K6.trans (Keep.of s7)) (s7 _ _ h6) l6 rfl ⟨v6, ⟨y, dy, rfl, K6.free h6 ny, hy⟩, RFill.mv t6 ((K5.mv h5).same s7)⟩
end
end HC

namespace HC
open PySem PySem.Spec PyProof.Rows L2
section
variable {P : Program} {w : World} {K : PySem.W.Frag} {mg : Str → Option Value} {base : Heap} {d : Ad}
/-! ### so many things, one behind another -/
abbrev Par (α : Type) := Nat → Sh.Bytes → Except Nat (α × Nat × Sh.Bytes)
def many {α : Type} (one : Par α) : Nat → Par (List α)
  | 0, p, b => .ok ([], p, b)
  | n + 1, p, b => match one p b with
    | .error e => .error e
    | .ok x => match many one n x.2.1 x.2.2 with
      | .error e => .error e
      | .ok l => .ok (x.1 :: l.1, l.2)
theorem layers_many (f : Sh.Field) : ∀ (n p : Nat) (b : Sh.Bytes), Sh.layersFrom f n p b = many (Sh.layerAt f) n p b
  | 0, _, _ => rfl
  | n + 1, p, b => by
    unfold Sh.layersFrom many
    cases Sh.layerAt f p b with
    | error e => rfl
    | ok x =>
      simp only [layers_many f n]
      cases many (Sh.layerAt f) n x.2.1 x.2.2 <;> rfl
def markAt : Par (Nat × Nat) := fun p b => match Sh.numAt 0 127 Sh.ANY p b with
  | .error e => .error e
  | .ok g => match Sh.numAt 1 255 Sh.ANY g.2.1 g.2.2 with
    | .error e => .error e
    | .ok k => .ok ((g.1, k.1), k.2)
theorem marks_many : ∀ (n p : Nat) (b : Sh.Bytes), ShMarsh.marksFrom n p b = many markAt n p b
  | 0, _, _ => rfl
  | n + 1, p, b => by
    unfold ShMarsh.marksFrom many
    rw [show markAt p b = (match Sh.numAt 0 127 Sh.ANY p b with
      | .error e => .error e
      | .ok g => match Sh.numAt 1 255 Sh.ANY g.2.1 g.2.2 with
        | .error e => .error e
        | .ok k => .ok ((g.1, k.1), k.2)) from rfl]
    cases Sh.numAt 0 127 Sh.ANY p b with
    | error e => rfl
    | ok g =>
      dsimp only
      cases Sh.numAt 1 255 Sh.ANY g.2.1 g.2.2 with
      | error e => rfl
      | ok k =>
        simp only [marks_many n]
        cases many markAt n k.2.1 k.2.2 <;> rfl
theorem several_many (one : Par ShMarsh.Coat) : ∀ (n p : Nat) (b : Sh.Bytes), ShMarsh.several one n p b = many one n p b
  | 0, _, _ => rfl
  | n + 1, p, b => by
    unfold ShMarsh.several many
    cases one p b with
    | error e => rfl
    | ok x =>
      simp only [several_many one n]
      cases many one n x.2.1 x.2.2 <;> rfl
/-- with these ahead -/
def ahead {α : Type} (xs : List α) : Except Nat (List α × Nat × Sh.Bytes) → Except Nat (List α × Nat × Sh.Bytes)
  | .error e => .error e
  | .ok y => .ok (xs ++ y.1, y.2)
theorem ahead_nil {α : Type} (r : Except Nat (List α × Nat × Sh.Bytes)) : r = ahead [] r := by cases r <;> rfl
theorem ahead_err {α : Type} {one : Par α} {xs : List α} {m q e : Nat} {b : Sh.Bytes} (h : one q b = .error e) : ahead xs (many one (m + 1) q b) = .error e := by
  unfold many
  rw [h]
  rfl
theorem ahead_ok {α : Type} {one : Par α} {xs : List α} {m q q' : Nat} {b b' : Sh.Bytes} {y : α} (h : one q b = .ok (y, q', b')) : ahead xs (many one (m + 1) q b) = ahead (xs ++ [y]) (many one m q' b') := by
  rw [show many one (m + 1) q b = (match one q b with
    | .error e => .error e
    | .ok x => match many one m x.2.1 x.2.2 with
      | .error e => .error e
      | .ok l => .ok (x.1 :: l.1, l.2)) from rfl, h]
  dsimp only
  cases many one m q' b' with
  | error e => rfl
  | ok l =>
    show Except.ok (xs ++ y :: l.1, l.2) = Except.ok (xs ++ [y] ++ l.1, l.2)
    rw [List.append_assoc]
    rfl
/-! ### a list that grows in a loop, at l; H2 the heap ahead of the loop -/
/-- the bytes are not at l, or they are of the text -/
def Far (K : PySem.W.Frag) (bs : List UInt8) (a l : Addr) : Prop := a ≠ l ∨ ∀ H, SqL K H a (vals bs)
theorem At.far {bs : List UInt8} {a R x l : Addr} {H : Hp} {p : Nat} (A : At K d bs a R x H p) (nl : H l = none) : Far K bs a l := by
  rcases A.sq with (z | ⟨o, z⟩) | z
  · exact .inl (ne_of_none z nl)
  · exact .inl (ne_of_none z nl)
  · exact .inr fun H => .inr z
theorem At.off {bs : List UInt8} {a R x l : Addr} {H : Hp} {p : Nat} {o : HO} (A : At K d bs a R x H p) (f : Far K bs a l) (n : R ≠ l) : At K d bs a R x (upd H l o) p := by
  refine ⟨by rw [upd_ne n]; exact A.hR, ?_, A.le⟩
  rcases f with f | f
  · rcases A.sq with (z | ⟨o', z⟩) | z
    · exact .inl (.inl (by rw [upd_ne f]; exact z))
    · exact .inl (.inr ⟨o', by rw [upd_ne f]; exact z⟩)
    · exact .inr z
  · exact f _
structure Lp {α : Type} (K : PySem.W.Frag) (d : Ad) (bs : List UInt8) (a R x l : Addr) (R1 : Hp → Hp → V → α → Prop) (one : Par α) (n p : Nat) (H2 : Hp) (i : Nat) (Hc : Hp) (q : Nat) (us : List V) (xs : List α) : Prop where
  kp : ∀ b o, b ≠ R → b ≠ l → H2 b = some o → Hc b = some o
  hl : Hc l = some (.lst us)
  at_ : At K d bs a R x Hc q
  all : All2 (R1 H2 Hc) us xs
  len : us.length = i
  far : Far K bs a l
  eq : many one n p (bs.drop p) = ahead xs (many one (n - i) q (bs.drop q))
theorem Lp.start {α : Type} {bs : List UInt8} {a R x l : Addr} {R1 : Hp → Hp → V → α → Prop} {one : Par α} {n p : Nat} {H2 : Hp} (hl : H2 l = some (.lst [])) (A : At K d bs a R x H2 p) (f : Far K bs a l) : Lp K d bs a R x l R1 one n p H2 0 H2 p [] [] :=
  ⟨fun _ _ _ _ h => h, hl, A, .nil, rfl, f, ahead_nil _⟩
/-- the second start: the reader has gone on since the list was made -/
theorem Lp.ne {α : Type} {bs : List UInt8} {a R x l : Addr} {R1 : Hp → Hp → V → α → Prop} {one : Par α} {n p i q : Nat} {H2 Hc : Hp} {us : List V} {xs : List α} (L : Lp K d bs a R x l R1 one n p H2 i Hc q us xs) : l ≠ R := ne_of L.hl L.at_.hR (by intro z; cases z)
theorem Lp.free {α : Type} {bs : List UInt8} {a R x l : Addr} {R1 : Hp → Hp → V → α → Prop} {one : Par α} {n p i q : Nat} {H2 Hc : Hp} {us : List V} {xs : List α} (L : Lp K d bs a R x l R1 one n p H2 i Hc q us xs) {b : Addr} (h : Hc b = none) : H2 b = none := by
  cases e : H2 b with
  | none => rfl
  | some o =>
    have h1 : b ≠ R := fun z => by rw [z, L.at_.hR] at h; cases h
    have h2 : b ≠ l := fun z => by rw [z, L.hl] at h; cases h
    rw [L.kp b o h1 h2 e] at h
    cases h
theorem Lp.turn {α : Type} {bs : List UInt8} {a R x l : Addr} {R1 : Hp → Hp → V → α → Prop} (mv : ∀ (H0 H H0' H' : Hp) (v : V) (y : α), Mv H0 H H0' H' → R1 H0 H v y → R1 H0' H' v y) {one : Par α} {n p i q q' : Nat} {H2 Hc H' : Hp} {us : List V} {xs : List α} {o oR : HO}
    (h2R : H2 R = some oR) (h2l : H2 l = some o) (L : Lp K d bs a R x l R1 one n p H2 i Hc q us xs) (hi : i < n) {y : α} {v : V} (e : one q (bs.drop q) = .ok (y, q', bs.drop q')) (k : Keep R Hc H') (hR : H' R = some (rdr d x a q')) (hq : q' ≤ bs.length) (r : R1 Hc H' v y) :
    Lp K d bs a R x l R1 one n p H2 (i + 1) (upd H' l (.lst (us ++ [v]))) q' (us ++ [v]) (xs ++ [y]) := by
  have nlR := L.ne
  have old : Mv H2 Hc H2 (upd H' l (.lst (us ++ [v]))) := ⟨fun _ h => h, fun b o' n h => by
    rw [upd_ne (fun z => by rw [z, h2l] at n; cases n)]
    exact k b o' (fun z => by rw [z, h2R] at n; cases n) h⟩
  have new : Mv Hc H' H2 (upd H' l (.lst (us ++ [v]))) := ⟨fun b h => L.free h, fun b o' n h => by
    rw [upd_ne (fun z => by rw [z, L.hl] at n; cases n)]
    exact h⟩
  refine ⟨fun b o' h1 h2 h => ?_, upd_same, ?_, ?_, ?_, L.far, ?_⟩
  · rw [upd_ne h2]
    exact k b o' h1 (L.kp b o' h1 h2 h)
  · exact (L.at_.step k hR hq).off L.far nlR.symm
  · exact (L.all.mono fun v' y' z => mv _ _ _ _ _ _ old z).snoc (mv _ _ _ _ _ _ new r)
  · rw [List.length_append, L.len]
    rfl
  · have e1 : n - i = (n - (i + 1)) + 1 := by omega
    rw [L.eq, e1, ahead_ok e]
/-! ### arms -/
abbrev spArms (K : PySem.W.Frag) (d : Ad) : Sp := spRd K d (pre0 ShMarsh.armsFrom) (RArms d)
theorem sc_take_arms : FnScope ["reader", "field", "layers", "k"] ["reader"] (defScope s_take_arms) := ⟨rfl, rfl, rfl, by decide +kernel, rfl, by decide +kernel, by decide +kernel⟩
theorem ok_take_arms (T : Txt K mg d) : OkD P w K mg base (L2.CX P w) 15 d.f_take_arms ["reader"] (spArms K d) := by
  obtain ⟨fd, F, B⟩ := T.k_take_arms.ex
  obtain ⟨⟨fd_take_field, G_take_field, B_take_field⟩, kp_take_field⟩ := ok_take_field (P := P) (w := w) (base := base) T
  obtain ⟨⟨fd_Arms, G_Arms, B_Arms⟩, kp_Arms⟩ := ok_Arms_init (P := P) (w := w) (base := base) T
  obtain ⟨⟨fd_Reader_take, G_Reader_take, B_Reader_take⟩, kp_Reader_take⟩ := ok_Reader_take (P := P) (w := w) (base := base) T
  obtain ⟨⟨fd_take_layer, G_take_layer, B_take_layer⟩, kp_take_layer⟩ := ok_take_layer (P := P) (w := w) (base := base) T
  obtain ⟨c_MOST_LAYERS, m_MOST_LAYERS⟩ := T.nMOST_LAYERS
  refine ⟨⟨fd, F.okX sc_take_arms (fun vs H Q E h => ?_) (fun cdv A outer s H vs Q E hr h => ?_), B⟩, F.kp⟩
  · obtain ⟨R, us, bs, a, x, p, par, rfl, _, ⟨rfl, rfl⟩, _⟩ := h
    rfl
  · obtain ⟨R, us, bs, a, x, q0, par, rfl, A0, ⟨rfl, rfl⟩, k⟩ := h
    have hr_take_field : Room 9 _ := hr.mono (by decide)
    have hr_Arms : Room 2 _ := hr.mono (by decide)
    have hr_Reader_take : Room 3 _ := hr.mono (by decide)
    have hr_take_layer : Room 13 _ := hr.mono (by decide)
    have K0 : Keep R H H := Keep.refl R H
    refine ⟨_, pss_cons (ps_set (i := 1) sc_take_arms.nd rfl (Or.inl rfl) (pe_call G_take_field hr_take_field rfl T.k_take_field.gl kp_take_field B_take_field .nil passX (pa_cons (pv 0) pa_nil)))
      (pss_cons (ps_set (i := 2) sc_take_arms.nd rfl (Or.inl rfl) (pe_lst pa_nil))
      (pss_cons (ps_for ownX rfl (pi_range1 rfl T.b_range (pa_cons (pe_meth (pv 0) T.kReader.cl T.kReader_take.me G_Reader_take hr_Reader_take B_Reader_take .nil passX (pa_cons pe_int (pa_cons (pgi m_MOST_LAYERS) pa_nil))) pa_nil)) (pg_name (i := 3) sc_take_arms.nd rfl (Or.inl rfl))
        (pss_one (ps_expr (pe_bm PySem.F.plainAttrs_list PySem.F.slot_list_append PySem.F.type_list_append mt_append (pv 2) (pa_cons (pe_call G_take_layer hr_take_layer rfl T.k_take_layer.gl kp_take_layer B_take_layer .nil passX (pa_cons (pv 0) (pa_cons (pv 1) pa_nil))) pa_nil)))))
      (pss_one (ps_ret (pe_make T.kArms.mak G_Arms hr_Arms rfl T.kArms.gl B_Arms .nil pass0 (pa_cons (pv 1) (pa_cons (pv 2) pa_nil))))))), ?_⟩
    unfold ShMarsh.armsFrom at k
    refine ⟨_, rfl, R, _, bs, a, x, q0, _, rfl, A0, ⟨rfl, rfl⟩, ?_⟩
    cases e1 : Sh.fieldAt q0 (bs.drop q0) with
    | error e =>
      rw [e1] at k
      exact k
    | ok y =>
    obtain ⟨n1, q1, r1⟩ := y
    rw [e1] at k
    intro v1 H1 k1 h1 l1 g1 t1
    dsimp only at k h1 l1 g1 t1
    subst g1
    have K1 : Keep R H H1 := K0.trans k1
    have A1 := A0.step k1 h1 l1
    refine ⟨Nat.zero_le _, fun l nl => ?_⟩
    have nlR : l ≠ R := (ne_of_none h1 nl).symm
    have A2 : At K d bs a R x (upd H1 l (.lst [])) q1 := A1.off (A1.far nl) nlR.symm
    have far := A1.far nl
    have nlH : H l = none := K1.free h1 nl
    have K2 : Keep R H (upd H1 l (.lst [])) := fun b o nb hb => by
      rw [upd_ne (ne_of_none hb nlH)]
      exact K1 b o nb hb
    refine ⟨_, rfl, R, x, _, rfl, A2.hR, lk_take, R, _, bs, a, x, q1, _, rfl, A2, ⟨0, Sh.MOST, rfl, rfl⟩, ?_⟩
    cases e3 : Sh.numAt 0 Sh.MOST Sh.ANY q1 (bs.drop q1) with
    | error e =>
      rw [e3] at k
      exact k
    | ok y =>
    obtain ⟨n3, q3, r3⟩ := y
    rw [e3] at k
    have b3 := (num_ok (x := 0) e3).2.2.1
    have b4 : n3 ≤ 8 := b3
    intro v3 H3 k3 h3 l3 g3 t3
    dsimp only at k h3 l3 g3 t3
    subst g3
    cases t3
    have A3 := A2.step k3 h3 l3
    have h3l : H3 l = some (.lst []) := k3 l _ nlR upd_same
    have K3 : Keep R H H3 := K2.trans k3
    have t3 : RField d H H3 v1 n1 := RField.mv t1 ⟨fun _ h => h, fun b o n h => k3 b o (fun z => by rw [z, A0.hR] at n; cases n) (by rw [upd_ne (ne_of_none h nl)]; exact h)⟩
    rw [layers_many] at k
    refine ⟨_, rfl, by omega, by omega, ?_⟩
    refine for_range (lo := 0) (n := n3) (fun i σ Hc => ∃ (q : Nat) (us : List V) (xs : List Sh.Layer) (v : Option V), σ = [some (.ref R), some v1, some (.ref l), v] ∧ Lp K d bs a R x l (RLayer d) (Sh.layerAt n1) n3 q3 H3 i Hc q us xs)
      ⟨q3, [], [], none, rfl, Lp.start h3l A3 far⟩ ?_ ?_
    · rintro i σ Hc hi ⟨q, us, xs, v, rfl, L⟩
      have fc : RField d H Hc v1 n1 := RField.ins t3 fun b C dx fs n h => L.kp b _ (fun z => by rw [z, A0.hR] at n; cases n) (fun z => by rw [z, h3l] at h; cases h) h
      refine ⟨_, rfl, .inl ⟨rfl, _, SqL.of L.hl⟩, _, rfl, _, rfl, R, _, bs, a, x, q, _, rfl, L.at_, ⟨v1, n1, H, rfl, fc, rfl⟩, ?_⟩
      cases e5 : Sh.layerAt n1 q (bs.drop q) with
      | error e =>
        have e6 : n3 - i = (n3 - (i + 1)) + 1 := by omega
        rw [L.eq, e6, ahead_err e5] at k
        exact k
      | ok y =>
        obtain ⟨n5, q5, r5⟩ := y
        intro v5 H5 k5 h5 l5 g5 t5
        dsimp only at h5 l5 g5 t5
        subst g5
        refine ⟨l, us, v5, rfl, rfl, k5 l _ L.ne L.hl, ?_, ?_⟩
        · rw [L.len]
          exact Nat.lt_of_lt_of_le hi (Nat.le_trans b4 (by decide))
        · exact ⟨q5, _, _, _, rfl, Lp.turn (R1 := RLayer d) (fun _ _ _ _ _ _ m z => RLayer.mv z m) h3 h3l L hi e5 k5 h5 l5 t5⟩
    · rintro σ Hc ⟨q, us, xs, v, rfl, L⟩
      refine ⟨_, rfl, _, rfl, ?_⟩
      refine made rfl fun y dy H7 ny s7 hy => ?_
      have ee : many (Sh.layerAt n1) n3 q3 (bs.drop q3) = .ok (xs, q, bs.drop q) := by
        rw [L.eq, Nat.sub_self]
        show Except.ok (xs ++ [], q, bs.drop q) = _
        rw [List.append_nil]
      rw [ee] at k
      have kc : Keep R H Hc := fun b o nb hb => L.kp b o nb (ne_of_none hb nlH) (K3 b o nb hb)
      have fc : RField d H Hc v1 n1 := RField.ins t3 fun b C dx fs n h => L.kp b _ (fun z => by rw [z, A0.hR] at n; cases n) (fun z => by rw [z, h3l] at h; cases h) h
      refine k _ H7 (kc.trans (Keep.of s7)) (s7 _ _ L.at_.hR) L.at_.le rfl ⟨v1, l, us, ⟨y, dy, rfl, kc.free L.at_.hR ny, hy⟩, fc.mv (Mv.here s7), ⟨nlH, s7 _ _ L.hl⟩, ?_⟩
      exact L.all.mono fun _ _ z => RLayer.mv z ⟨fun b h => K3.free h3 h, fun b o _ h => s7 b o h⟩
end
end HC

namespace HC
open PySem PySem.Spec PyProof.Rows L2
section
variable {P : Program} {w : World} {K : PySem.W.Frag} {mg : Str → Option Value} {base : Heap} {d : Ad}
theorem Mv.keep {R : Addr} {H0 H H0' H' H2 : Hp} {o : HO} (m : Mv H0 H H0' H') (hR : H0 R = some o) (k : Keep R H' H2) : Mv H0 H H0' H2 :=
  ⟨m.nw, fun b u n h => k b u (fun z => by rw [z, hR] at n; cases n) (m.st b u n h)⟩
theorem Mv.id (H0 H : Hp) : Mv H0 H H0 H := ⟨fun _ h => h, fun _ _ _ h => h⟩
/-! ### marks -/
def marksAt : Par (List (Nat × Nat)) := fun p b => match Sh.numAt 0 ShMarsh.MARKS Sh.ANY p b with
  | .error e => .error e
  | .ok n => ShMarsh.marksFrom n.1 n.2.1 n.2.2
abbrev spMarks (K : PySem.W.Frag) (d : Ad) : Sp := spRd K d (pre0 marksAt) (RMarks d)
theorem sc_take_marks : FnScope ["reader", "marks", "slot", "g"] ["reader"] (defScope s_take_marks) := ⟨rfl, rfl, rfl, by decide +kernel, rfl, by decide +kernel, by decide +kernel⟩
theorem ok_take_marks (T : Txt K mg d) : OkD P w K mg base (L2.CX P w) 7 d.f_take_marks ["reader"] (spMarks K d) := by
  obtain ⟨fd, F, B⟩ := T.k_take_marks.ex
  obtain ⟨⟨fd_Reader_take, G_Reader_take, B_Reader_take⟩, kp_Reader_take⟩ := ok_Reader_take (P := P) (w := w) (base := base) T
  obtain ⟨⟨fd_Mark, G_Mark, B_Mark⟩, kp_Mark⟩ := ok_Mark_init (P := P) (w := w) (base := base) T
  obtain ⟨c_MOST_MARKS, m_MOST_MARKS⟩ := T.nMOST_MARKS
  obtain ⟨c_MOST_G, m_MOST_G⟩ := T.nMOST_G
  obtain ⟨c_LEAST_K, m_LEAST_K⟩ := T.nLEAST_K
  obtain ⟨c_MOST_K, m_MOST_K⟩ := T.nMOST_K
  refine ⟨⟨fd, F.okX sc_take_marks (fun vs H Q E h => ?_) (fun cdv A outer s H vs Q E hr h => ?_), B⟩, F.kp⟩
  · obtain ⟨R, us, bs, a, x, p, par, rfl, _, ⟨rfl, rfl⟩, _⟩ := h
    rfl
  · obtain ⟨R, us, bs, a, x, q0, par, rfl, A0, ⟨rfl, rfl⟩, k⟩ := h
    have hr_Reader_take : Room 3 _ := hr.mono (by decide)
    have hr_Mark : Room 2 _ := hr.mono (by decide)
    have K0 : Keep R H H := Keep.refl R H
    refine ⟨_, pss_cons (ps_set (i := 1) sc_take_marks.nd rfl (Or.inl rfl) (pe_lst pa_nil))
      (pss_cons (ps_for ownX rfl (pi_range1 rfl T.b_range (pa_cons (pe_meth (pv 0) T.kReader.cl T.kReader_take.me G_Reader_take hr_Reader_take B_Reader_take .nil passX (pa_cons pe_int (pa_cons (pgi m_MOST_MARKS) pa_nil))) pa_nil)) (pg_name (i := 2) sc_take_marks.nd rfl (Or.inl rfl))
        (pss_cons (ps_set (i := 3) sc_take_marks.nd rfl (Or.inl rfl) (pe_meth (pv 0) T.kReader.cl T.kReader_take.me G_Reader_take hr_Reader_take B_Reader_take .nil passX (pa_cons pe_int (pa_cons (pgi m_MOST_G) pa_nil))))
      (pss_one (ps_expr (pe_bm PySem.F.plainAttrs_list PySem.F.slot_list_append PySem.F.type_list_append mt_append (pv 1) (pa_cons (pe_make T.kMark.mak G_Mark hr_Mark rfl T.kMark.gl B_Mark .nil pass0 (pa_cons (pv 3) (pa_cons (pe_meth (pv 0) T.kReader.cl T.kReader_take.me G_Reader_take hr_Reader_take B_Reader_take .nil passX (pa_cons (pgi m_LEAST_K) (pa_cons (pgi m_MOST_K) pa_nil))) pa_nil))) pa_nil))))))
      (pss_one (ps_ret (pv 1)))), ?_⟩
    unfold marksAt at k
    refine ⟨Nat.zero_le _, fun l nl => ?_⟩
    have nlR : l ≠ R := (ne_of_none A0.hR nl).symm
    have far := A0.far nl
    have A2 : At K d bs a R x (upd H l (.lst [])) q0 := A0.off far nlR.symm
    have K2 : Keep R H (upd H l (.lst [])) := fun b o nb hb => by
      rw [upd_ne (ne_of_none hb nl)]
      exact hb
    refine ⟨_, rfl, R, x, _, rfl, A2.hR, lk_take, R, _, bs, a, x, q0, _, rfl, A2, ⟨0, ShMarsh.MARKS, rfl, rfl⟩, ?_⟩
    cases e3 : Sh.numAt 0 ShMarsh.MARKS Sh.ANY q0 (bs.drop q0) with
    | error e =>
      rw [e3] at k
      exact k
    | ok y =>
    obtain ⟨n3, q3, r3⟩ := y
    rw [e3] at k
    have b3 := (num_ok (x := 0) e3).2.2.1
    have b4 : n3 ≤ 60 := b3
    intro v3 H3 k3 h3 l3 g3 t3
    dsimp only at k h3 l3 g3 t3
    subst g3
    cases t3
    have A3 := A2.step k3 h3 l3
    have h3l : H3 l = some (.lst []) := k3 l _ nlR upd_same
    have K3 : Keep R H H3 := K2.trans k3
    rw [marks_many] at k
    refine ⟨_, rfl, by omega, by omega, ?_⟩
    refine for_range (lo := 0) (n := n3) (fun i σ Hc => ∃ (q : Nat) (us : List V) (xs : List (Nat × Nat)) (v g : Option V), σ = [some (.ref R), some (.ref l), v, g] ∧ Lp K d bs a R x l (RMark d) markAt n3 q3 H3 i Hc q us xs)
      ⟨q3, [], [], none, none, rfl, Lp.start h3l A3 far⟩ ?_ ?_
    · rintro i σ Hc hi ⟨q, us, xs, v, g, rfl, L⟩
      have e6 : n3 - i = (n3 - (i + 1)) + 1 := by omega
      refine ⟨_, rfl, R, x, _, rfl, L.at_.hR, lk_take, R, _, bs, a, x, q, _, rfl, L.at_, ⟨0, 127, rfl, rfl⟩, ?_⟩
      cases e4 : Sh.numAt 0 127 Sh.ANY q (bs.drop q) with
      | error e =>
        have e5 : markAt q (bs.drop q) = .error e := by
          unfold markAt
          rw [e4]
        rw [L.eq, e6, ahead_err e5] at k
        exact k
      | ok y =>
      obtain ⟨n4, q4, r4⟩ := y
      intro v4 H4 k4 h4 l4 g4 t4
      dsimp only at h4 l4 g4 t4
      subst g4
      cases t4
      have A4 := L.at_.step k4 h4 l4
      refine ⟨_, rfl, .inl ⟨rfl, _, SqL.of (k4 l _ L.ne L.hl)⟩, _, rfl, _, rfl, R, x, _, rfl, A4.hR, lk_take, R, _, bs, a, x, q4, _, rfl, A4, ⟨1, 255, rfl, rfl⟩, ?_⟩
      cases e7 : Sh.numAt 1 255 Sh.ANY q4 (bs.drop q4) with
      | error e =>
        have e5 : markAt q (bs.drop q) = .error e := by
          unfold markAt
          rw [e4]
          dsimp only
          rw [e7]
        rw [L.eq, e6, ahead_err e5] at k
        exact k
      | ok y =>
      obtain ⟨n7, q7, r7⟩ := y
      intro v7 H7 k7 h7 l7 g7 t7
      dsimp only at h7 l7 g7 t7
      subst g7
      cases t7
      have e5 : markAt q (bs.drop q) = .ok ((n4, n7), q7, bs.drop q7) := by
        unfold markAt
        rw [e4]
        dsimp only
        rw [e7]
      have K7 : Keep R Hc H7 := k4.trans k7
      refine made rfl fun y dy H8 ny s8 hy => ?_
      have K8 : Keep R Hc H8 := K7.trans (Keep.of s8)
      refine ⟨l, us, _, rfl, rfl, K8 l _ L.ne L.hl, ?_, ?_⟩
      · rw [L.len]
        exact Nat.lt_of_lt_of_le hi (Nat.le_trans b4 (by decide))
      · exact ⟨q7, _, _, _, _, rfl, Lp.turn (R1 := RMark d) (fun _ _ _ _ _ _ m z => RMark.mv z m) h3 h3l L hi e5 K8 (s8 _ _ h7) l7 ⟨y, dy, rfl, K7.free h7 ny, hy⟩⟩
    · rintro σ Hc ⟨q, us, xs, v, g, rfl, L⟩
      have ee : many markAt n3 q3 (bs.drop q3) = .ok (xs, q, bs.drop q) := by
        rw [L.eq, Nat.sub_self]
        show Except.ok (xs ++ [], q, bs.drop q) = _
        rw [List.append_nil]
      rw [ee] at k
      have kc : Keep R H Hc := fun b o nb hb => L.kp b o nb (ne_of_none hb nl) (K3 b o nb hb)
      refine ⟨_, rfl, k _ Hc kc L.at_.hR L.at_.le rfl ⟨l, us, rfl, ⟨nl, L.hl⟩, ?_⟩⟩
      exact L.all.mono fun _ _ z => RMark.mv z ⟨fun b h => K3.free h3 h, fun b o _ h => h⟩
/-! ### marked arms -/
abbrev spMarked (K : PySem.W.Frag) (d : Ad) : Sp := spRd K d (pre0 ShMarsh.markedFrom) (RMarked d)
theorem sc_take_marked : FnScope ["reader", "arms", "canton"] ["reader"] (defScope s_take_marked) := ⟨rfl, rfl, rfl, by decide +kernel, rfl, by decide +kernel, by decide +kernel⟩
theorem ok_take_marked (T : Txt K mg d) : OkD P w K mg base (L2.CX P w) 17 d.f_take_marked ["reader"] (spMarked K d) := by
  obtain ⟨fd, F, B⟩ := T.k_take_marked.ex
  obtain ⟨⟨fd_take_arms, G_take_arms, B_take_arms⟩, kp_take_arms⟩ := ok_take_arms (P := P) (w := w) (base := base) T
  obtain ⟨⟨fd_Marked, G_Marked, B_Marked⟩, kp_Marked⟩ := ok_Marked_init (P := P) (w := w) (base := base) T
  obtain ⟨⟨fd_Reader_take, G_Reader_take, B_Reader_take⟩, kp_Reader_take⟩ := ok_Reader_take (P := P) (w := w) (base := base) T
  obtain ⟨⟨fd_take_marks, G_take_marks, B_take_marks⟩, kp_take_marks⟩ := ok_take_marks (P := P) (w := w) (base := base) T
  refine ⟨⟨fd, F.okX sc_take_marked (fun vs H Q E h => ?_) (fun cdv A outer s H vs Q E hr h => ?_), B⟩, F.kp⟩
  · obtain ⟨R, us, bs, a, x, p, par, rfl, _, ⟨rfl, rfl⟩, _⟩ := h
    rfl
  · obtain ⟨R, us, bs, a, x, q0, par, rfl, A0, ⟨rfl, rfl⟩, k⟩ := h
    have hr_take_arms : Room 15 _ := hr.mono (by decide)
    have hr_Marked : Room 2 _ := hr.mono (by decide)
    have hr_Reader_take : Room 3 _ := hr.mono (by decide)
    have hr_take_marks : Room 7 _ := hr.mono (by decide)
    have K0 : Keep R H H := Keep.refl R H
    refine ⟨_, pss_cons (ps_set (i := 1) sc_take_marked.nd rfl (Or.inl rfl) (pe_call G_take_arms hr_take_arms rfl T.k_take_arms.gl kp_take_arms B_take_arms .nil passX (pa_cons (pv 0) pa_nil)))
      (pss_cons (ps_set (i := 2) sc_take_marked.nd rfl (Or.inl rfl) pe_non)
      (pss_cons (ps_if (pt_cmpR op_eq (pe_meth (pv 0) T.kReader.cl T.kReader_take.me G_Reader_take hr_Reader_take B_Reader_take .nil passX (pa_cons pe_int (pa_cons pe_int pa_nil))) pe_int (nomark _))
        (pss_one (ps_set (i := 2) sc_take_marked.nd rfl (Or.inl rfl) (pe_call G_take_arms hr_take_arms rfl T.k_take_arms.gl kp_take_arms B_take_arms .nil passX (pa_cons (pv 0) pa_nil))))
        pss_nil)
      (pss_one (ps_ret (pe_make T.kMarked.mak G_Marked hr_Marked rfl T.kMarked.gl B_Marked .nil pass0 (pa_cons (pv 1) (pa_cons (pv 2) (pa_cons (pe_call G_take_marks hr_take_marks rfl T.k_take_marks.gl kp_take_marks B_take_marks .nil passX (pa_cons (pv 0) pa_nil)) pa_nil)))))))), ?_⟩
    unfold ShMarsh.markedFrom at k
    refine ⟨_, rfl, R, _, bs, a, x, q0, _, rfl, A0, ⟨rfl, rfl⟩, ?_⟩
    cases e1 : ShMarsh.armsFrom q0 (bs.drop q0) with
    | error e =>
      rw [e1] at k
      exact k
    | ok y =>
    obtain ⟨n1, q1, r1⟩ := y
    rw [e1] at k
    intro v1 H1 k1 h1 l1 g1 t1
    dsimp only at k h1 l1 g1 t1
    subst g1
    have K1 : Keep R H H1 := K0.trans k1
    have A1 := A0.step k1 h1 l1
    refine ⟨_, rfl, R, x, _, rfl, A1.hR, lk_take, R, _, bs, a, x, q1, _, rfl, A1, ⟨0, 1, rfl, rfl⟩, ?_⟩
    cases e2 : Sh.numAt 0 1 Sh.ANY q1 (bs.drop q1) with
    | error e =>
      rw [e2] at k
      exact k
    | ok y =>
    obtain ⟨n2, q2, r2⟩ := y
    rw [e2] at k
    intro v2 H2 k2 h2 l2 g2 t2
    dsimp only at k h2 l2 g2 t2
    subst g2
    have K2 : Keep R H H2 := K1.trans k2
    have A2 := A1.step k2 h2 l2
    cases t2
    refine ⟨rfl, _, rfl, ?_⟩
    refine ite2 (fun c => ?_) (fun c => ?_)
    · have c' : ¬ n2 = 0 := by have := eqv c; omega
      rw [if_neg c'] at k
      refine ⟨_, rfl, R, _, bs, a, x, q2, _, rfl, A2, ⟨rfl, rfl⟩, ?_⟩
      cases e3 : ShMarsh.armsFrom q2 (bs.drop q2) with
      | error e =>
        rw [e3] at k
        exact k
      | ok y =>
      obtain ⟨n3, q3, r3⟩ := y
      rw [e3] at k
      intro v3 H3 k3 h3 l3 g3 t3
      dsimp only [Except.map] at k h3 l3 g3 t3
      subst g3
      have K3 : Keep R H H3 := K2.trans k3
      have A3 := A2.step k3 h3 l3
      refine ⟨_, rfl, _, rfl, _, rfl, R, _, bs, a, x, q3, _, rfl, A3, ⟨rfl, rfl⟩, ?_⟩
      cases e4 : marksAt q3 (bs.drop q3) with
      | error e =>
        unfold marksAt at e4
        cases e5 : Sh.numAt 0 ShMarsh.MARKS Sh.ANY q3 (bs.drop q3) with
        | error e' =>
          rw [e5] at e4 k
          cases e4
          exact k
        | ok n =>
          rw [e5] at e4 k
          dsimp only at e4 k
          rw [e4] at k
          exact k
      | ok y =>
      obtain ⟨n4, q4, r4⟩ := y
      intro v4 H4 k4 h4 l4 g4 t4
      dsimp only at h4 l4 g4 t4
      subst g4
      have K4 : Keep R H H4 := K3.trans k4
      refine made rfl fun y dy H5 ny s5 hy => ?_
      have k' : Give d bs a R x (RMarked d) H Q E (.ok (⟨n1, some n3, n4⟩, q4, bs.drop q4)) := by
        unfold marksAt at e4
        cases e5 : Sh.numAt 0 ShMarsh.MARKS Sh.ANY q3 (bs.drop q3) with
        | error e' =>
          rw [e5] at e4
          cases e4
        | ok n =>
          rw [e5] at e4 k
          dsimp only at e4 k
          rw [e4] at k
          exact k
      refine k' _ H5 (K4.trans (Keep.of s5)) (s5 _ _ h4) l4 rfl ⟨v1, v3, v4, ⟨y, dy, rfl, K4.free h4 ny, hy⟩, ?_, ?_, ?_⟩
      · exact RArms.mv t1 ((((Mv.id H H1).keep A0.hR k2).keep A0.hR k3).keep A0.hR (k4.trans (Keep.of s5)))
      · exact RArms.mv t3 (((K2.mv h2).keep h2 k4).same s5)
      · exact RMarks.mv t4 ((K3.mv h3).same s5)
    · have b2 := (num_ok (x := 0) e2).2.2.1
      have c' : n2 = 0 := by
        have := neqv c
        omega
      rw [if_pos c'] at k
      dsimp only at k
      refine ⟨_, rfl, _, rfl, _, rfl, R, _, bs, a, x, q2, _, rfl, A2, ⟨rfl, rfl⟩, ?_⟩
      cases e4 : marksAt q2 (bs.drop q2) with
      | error e =>
        unfold marksAt at e4
        cases e5 : Sh.numAt 0 ShMarsh.MARKS Sh.ANY q2 (bs.drop q2) with
        | error e' =>
          rw [e5] at e4 k
          cases e4
          exact k
        | ok n =>
          rw [e5] at e4 k
          dsimp only at e4 k
          rw [e4] at k
          exact k
      | ok y =>
      obtain ⟨n4, q4, r4⟩ := y
      intro v4 H4 k4 h4 l4 g4 t4
      dsimp only at h4 l4 g4 t4
      subst g4
      have K4 : Keep R H H4 := K2.trans k4
      refine made rfl fun y dy H5 ny s5 hy => ?_
      have k' : Give d bs a R x (RMarked d) H Q E (.ok (⟨n1, none, n4⟩, q4, bs.drop q4)) := by
        unfold marksAt at e4
        cases e5 : Sh.numAt 0 ShMarsh.MARKS Sh.ANY q2 (bs.drop q2) with
        | error e' =>
          rw [e5] at e4
          cases e4
        | ok n =>
          rw [e5] at e4 k
          dsimp only at e4 k
          rw [e4] at k
          exact k
      refine k' _ H5 (K4.trans (Keep.of s5)) (s5 _ _ h4) l4 rfl ⟨v1, .non, v4, ⟨y, dy, rfl, K4.free h4 ny, hy⟩, ?_, rfl, ?_⟩
      · exact RArms.mv t1 (((Mv.id H H1).keep A0.hR k2).keep A0.hR (k4.trans (Keep.of s5)))
      · exact RMarks.mv t4 ((K2.mv h2).same s5)
end
end HC

namespace HC
open PySem PySem.Spec PyProof.Rows L2
section
variable {P : Program} {w : World} {K : PySem.W.Frag} {mg : Str → Option Value} {base : Heap} {d : Ad}
/-! ### coats -/
/-- a coat n deep at most, at the depth 5 - n -/
def preCoat (n : Nat) (_ : Hp) (us : List V) (par : Par ShMarsh.Coat) : Prop := ∃ z : Int, us = [.int z] ∧ z = 5 - (n : Int) ∧ 0 < n ∧ par = ShMarsh.coatFrom n
abbrev spCoat (K : PySem.W.Frag) (d : Ad) (n : Nat) : Sp := spRd K d (preCoat n) (RC d)
def quartAt (n : Nat) : Par ShMarsh.Coat := fun p b => match Sh.numAt 2 ShMarsh.QUARTERS Sh.ANY p b with
  | .error e => .error e
  | .ok m => match ShMarsh.several (ShMarsh.coatFrom n) m.1 m.2.1 m.2.2 with
    | .error e => .error e
    | .ok l => .ok (.quarters l.1, l.2)
def preQuart (n : Nat) (_ : Hp) (us : List V) (par : Par ShMarsh.Coat) : Prop := ∃ z : Int, us = [.int z] ∧ z + 1 = 5 - (n : Int) ∧ 0 < n ∧ par = quartAt n
abbrev spQuart (K : PySem.W.Frag) (d : Ad) (n : Nat) : Sp := spRd K d (preQuart n) (RC d)
def lc : Nat → Nat
  | 0 => 18
  | n + 1 => lc n + 1 + 1
theorem lc_le : ∀ n, 18 ≤ lc n
  | 0 => Nat.le_refl _
  | n + 1 => by
    have := lc_le n
    show 18 ≤ lc n + 1 + 1
    omega
theorem sc_take_quarterly : FnScope ["reader", "depth", "coats", "k"] ["reader", "depth"] (defScope s_take_quarterly) := ⟨rfl, rfl, rfl, by decide +kernel, rfl, by decide +kernel, by decide +kernel⟩
theorem ok_take_quarterly (T : Txt K mg d) {n : Nat} (hC : OkD P w K mg base (L2.CX P w) (lc n) d.f_take_coat ["reader", "depth"] (spCoat K d n)) : OkD P w K mg base (L2.CX P w) (lc n + 1) d.f_take_quarterly ["reader", "depth"] (spQuart K d n) := by
  obtain ⟨fd, F, B⟩ := T.k_take_quarterly.ex
  obtain ⟨⟨fd_take_coat, G_take_coat, B_take_coat⟩, kp_take_coat⟩ := hC
  obtain ⟨⟨fd_Reader_take, G_Reader_take, B_Reader_take⟩, kp_Reader_take⟩ := ok_Reader_take (P := P) (w := w) (base := base) T
  obtain ⟨⟨fd_Quarterly, G_Quarterly, B_Quarterly⟩, kp_Quarterly⟩ := ok_Quarterly_init (P := P) (w := w) (base := base) T
  obtain ⟨c_FEWEST_QUARTERS, m_FEWEST_QUARTERS⟩ := T.nFEWEST_QUARTERS
  obtain ⟨c_MOST_QUARTERS, m_MOST_QUARTERS⟩ := T.nMOST_QUARTERS
  refine ⟨⟨fd, F.okX sc_take_quarterly (fun vs H Q E h => ?_) (fun cdv A outer s H vs Q E hr h => ?_), B⟩, F.kp⟩
  · obtain ⟨R, us, bs, a, x, p, par, rfl, _, ⟨z, rfl, _⟩, _⟩ := h
    rfl
  · obtain ⟨R, us, bs, a, x, q0, par, rfl, A0, ⟨z, rfl, hz, hn, rfl⟩, k⟩ := h
    have hlc := lc_le n
    have hr_take_coat : Room (lc n) _ := hr
    have hr_Reader_take : Room 3 _ := hr.mono (by omega)
    have hr_Quarterly : Room 2 _ := hr.mono (by omega)
    refine ⟨_, pss_cons (ps_set (i := 2) sc_take_quarterly.nd rfl (Or.inl rfl) (pe_lst pa_nil))
      (pss_cons (ps_for ownX rfl (pi_range1 rfl T.b_range (pa_cons (pe_meth (pv 0) T.kReader.cl T.kReader_take.me G_Reader_take hr_Reader_take B_Reader_take .nil passX (pa_cons (pgi m_FEWEST_QUARTERS) (pa_cons (pgi m_MOST_QUARTERS) pa_nil))) pa_nil)) (pg_name (i := 3) sc_take_quarterly.nd rfl (Or.inl rfl))
        (pss_one (ps_expr (pe_bm PySem.F.plainAttrs_list PySem.F.slot_list_append PySem.F.type_list_append mt_append (pv 2) (pa_cons (pe_call G_take_coat hr_take_coat rfl T.k_take_coat.gl kp_take_coat B_take_coat .nil passX (pa_cons (pv 0) (pa_cons (pe_op op_add (pv 1) pe_int) pa_nil))) pa_nil)))))
      (pss_one (ps_ret (pe_make T.kQuarterly.mak G_Quarterly hr_Quarterly rfl T.kQuarterly.gl B_Quarterly .nil pass0 (pa_cons (pv 2) pa_nil))))), ?_⟩
    unfold quartAt at k
    refine ⟨Nat.zero_le _, fun l nl => ?_⟩
    have nlR : l ≠ R := (ne_of_none A0.hR nl).symm
    have far := A0.far nl
    have A2 : At K d bs a R x (upd H l (.lst [])) q0 := A0.off far nlR.symm
    have K2 : Keep R H (upd H l (.lst [])) := fun b o nb hb => by
      rw [upd_ne (ne_of_none hb nl)]
      exact hb
    refine ⟨_, rfl, R, x, _, rfl, A2.hR, lk_take, R, _, bs, a, x, q0, _, rfl, A2, ⟨2, ShMarsh.QUARTERS, rfl, rfl⟩, ?_⟩
    cases e3 : Sh.numAt 2 ShMarsh.QUARTERS Sh.ANY q0 (bs.drop q0) with
    | error e =>
      rw [e3] at k
      exact k
    | ok y =>
    obtain ⟨n3, q3, r3⟩ := y
    rw [e3] at k
    have b3 := (num_ok (x := 0) e3).2.2.1
    have b4 : n3 ≤ 9 := b3
    intro v3 H3 k3 h3 l3 g3 t3
    dsimp only at k h3 l3 g3 t3
    subst g3
    cases t3
    have A3 := A2.step k3 h3 l3
    have h3l : H3 l = some (.lst []) := k3 l _ nlR upd_same
    have K3 : Keep R H H3 := K2.trans k3
    rw [several_many] at k
    refine ⟨_, rfl, by omega, by omega, ?_⟩
    refine for_range (lo := 0) (n := n3) (fun i σ Hc => ∃ (q : Nat) (us : List V) (xs : List ShMarsh.Coat) (v : Option V), σ = [some (.ref R), some (.int z), some (.ref l), v] ∧ Lp K d bs a R x l (RC d) (ShMarsh.coatFrom n) n3 q3 H3 i Hc q us xs)
      ⟨q3, [], [], none, rfl, Lp.start h3l A3 far⟩ ?_ ?_
    · rintro i σ Hc hi ⟨q, us, xs, v, rfl, L⟩
      refine ⟨_, rfl, .inl ⟨rfl, _, SqL.of L.hl⟩, _, rfl, _, rfl, _, _, rfl, rfl, R, _, bs, a, x, q, _, rfl, L.at_, ⟨_, rfl, hz, hn, rfl⟩, ?_⟩
      cases e5 : ShMarsh.coatFrom n q (bs.drop q) with
      | error e =>
        have e6 : n3 - i = (n3 - (i + 1)) + 1 := by omega
        rw [L.eq, e6, ahead_err e5] at k
        exact k
      | ok y =>
        obtain ⟨n5, q5, r5⟩ := y
        intro v5 H5 k5 h5 l5 g5 t5
        dsimp only at h5 l5 g5 t5
        subst g5
        refine ⟨l, us, v5, rfl, rfl, k5 l _ L.ne L.hl, ?_, ?_⟩
        · rw [L.len]
          exact Nat.lt_of_lt_of_le hi (Nat.le_trans b4 (by decide))
        · exact ⟨q5, _, _, _, rfl, Lp.turn (R1 := RC d) (fun _ _ _ _ _ _ m z => RC.mv z m) h3 h3l L hi e5 k5 h5 l5 t5⟩
    · rintro σ Hc ⟨q, us, xs, v, rfl, L⟩
      refine ⟨_, rfl, ?_⟩
      refine made rfl fun y dy H7 ny s7 hy => ?_
      have ee : many (ShMarsh.coatFrom n) n3 q3 (bs.drop q3) = .ok (xs, q, bs.drop q) := by
        rw [L.eq, Nat.sub_self]
        show Except.ok (xs ++ [], q, bs.drop q) = _
        rw [List.append_nil]
      rw [ee] at k
      have kc : Keep R H Hc := fun b o nb hb => L.kp b o nb (ne_of_none hb nl) (K3 b o nb hb)
      refine k _ H7 (kc.trans (Keep.of s7)) (s7 _ _ L.at_.hR) L.at_.le rfl ⟨l, us, ⟨y, dy, rfl, kc.free L.at_.hR ny, hy⟩, ⟨nl, s7 _ _ L.hl⟩, ?_⟩
      exact rcoats_of (L.all.mono fun _ _ z => RC.mv z ⟨fun b h => K3.free h3 h, fun b o _ h => s7 b o h⟩)
theorem sc_take_coat : FnScope ["reader", "depth", "kind", "first", "second"] ["reader", "depth"] (defScope s_take_coat) := ⟨rfl, rfl, rfl, by decide +kernel, rfl, by decide +kernel, by decide +kernel⟩
theorem ok_take_coat (T : Txt K mg d) : ∀ n : Nat, OkD P w K mg base (L2.CX P w) (lc n) d.f_take_coat ["reader", "depth"] (spCoat K d n)
  | 0 => by
    obtain ⟨fd, F, B⟩ := T.k_take_coat.ex
    refine ⟨⟨fd, ?_, B⟩, F.kp⟩
    refine F.okX (k := 17) sc_take_coat (fun vs H Q E h => ?_) (fun cdv A outer s H vs Q E hr h => ?_)
    · obtain ⟨R, us, bs, a, x, p, par, rfl, _, ⟨z, rfl, _⟩, _⟩ := h
      rfl
    · obtain ⟨R, us, bs, a, x, p, par, rfl, _, ⟨z, rfl, _, hn, _⟩, _⟩ := h
      exact absurd hn (Nat.lt_irrefl _)
  | n + 1 => by
    have hC := ok_take_coat T n
    obtain ⟨⟨fd_take_quarterly, G_take_quarterly, B_take_quarterly⟩, kp_take_quarterly⟩ := ok_take_quarterly T hC
    obtain ⟨⟨fd_take_coat, G_take_coat, B_take_coat⟩, kp_take_coat⟩ := hC
    obtain ⟨fd, F, B⟩ := T.k_take_coat.ex
    obtain ⟨⟨fd_Reader_take, G_Reader_take, B_Reader_take⟩, kp_Reader_take⟩ := ok_Reader_take (P := P) (w := w) (base := base) T
    obtain ⟨⟨fd_take_marked, G_take_marked, B_take_marked⟩, kp_take_marked⟩ := ok_take_marked (P := P) (w := w) (base := base) T
    obtain ⟨⟨fd_Impaled, G_Impaled, B_Impaled⟩, kp_Impaled⟩ := ok_Impaled_init (P := P) (w := w) (base := base) T
    obtain ⟨⟨fd_Pretence, G_Pretence, B_Pretence⟩, kp_Pretence⟩ := ok_Pretence_init (P := P) (w := w) (base := base) T
    obtain ⟨c_MOST_DEEP, m_MOST_DEEP⟩ := T.nMOST_DEEP
    refine ⟨⟨fd, ?_, B⟩, F.kp⟩
    refine F.okX (k := lc n + 1) sc_take_coat (fun vs H Q E h => ?_) (fun cdv A outer s H vs Q E hr h => ?_)
    · obtain ⟨R, us, bs, a, x, p, par, rfl, _, ⟨z, rfl, _⟩, _⟩ := h
      rfl
    · obtain ⟨R, us, bs, a, x, q0, par, rfl, A0, ⟨z, rfl, hz, hn, rfl⟩, k⟩ := h
      have hlc := lc_le n
      have hr_take_quarterly : Room (lc n + 1) _ := hr
      have hr_take_coat : Room (lc n) _ := hr.mono (Nat.le_succ _)
      have hr_Reader_take : Room 3 _ := hr.mono (by omega)
      have hr_take_marked : Room 17 _ := hr.mono (by omega)
      have hr_Impaled : Room 2 _ := hr.mono (by omega)
      have hr_Pretence : Room 2 _ := hr.mono (by omega)
      have K0 : Keep R H H := Keep.refl R H
      refine ⟨_, pss_cons (ps_set (i := 2) sc_take_coat.nd rfl (Or.inl rfl) (pe_meth (pv 0) T.kReader.cl T.kReader_take.me G_Reader_take hr_Reader_take B_Reader_take .nil passX (pa_cons pe_int (pa_cons (pe_ifExp (pt_cmpR op_lt (pv 1) (pgi m_MOST_DEEP) (nomark _)) pe_int pe_int) pa_nil))))
      (pss_cons (ps_if (pt_cmpR op_eq (pv 2) pe_int (nomark _))
        (pss_one (ps_ret (pe_call G_take_marked hr_take_marked rfl T.k_take_marked.gl kp_take_marked B_take_marked .nil passX (pa_cons (pv 0) pa_nil))))
        pss_nil)
      (pss_cons (ps_if (pt_cmpR op_eq (pv 2) pe_int (nomark _))
        (pss_one (ps_ret (pe_call G_take_quarterly hr_take_quarterly rfl T.k_take_quarterly.gl kp_take_quarterly B_take_quarterly .nil passX (pa_cons (pv 0) (pa_cons (pv 1) pa_nil)))))
        pss_nil)
      (pss_cons (ps_set (i := 3) sc_take_coat.nd rfl (Or.inl rfl) (pe_call G_take_coat hr_take_coat rfl T.k_take_coat.gl kp_take_coat B_take_coat .nil passX (pa_cons (pv 0) (pa_cons (pe_op op_add (pv 1) pe_int) pa_nil))))
      (pss_cons (ps_set (i := 4) sc_take_coat.nd rfl (Or.inl rfl) (pe_call G_take_coat hr_take_coat rfl T.k_take_coat.gl kp_take_coat B_take_coat .nil passX (pa_cons (pv 0) (pa_cons (pe_op op_add (pv 1) pe_int) pa_nil))))
      (pss_cons (ps_if (pt_cmpR op_eq (pv 2) pe_int (nomark _))
        (pss_one (ps_ret (pe_make T.kImpaled.mak G_Impaled hr_Impaled rfl T.kImpaled.gl B_Impaled .nil pass0 (pa_cons (pv 3) (pa_cons (pv 4) pa_nil)))))
        pss_nil)
      (pss_one (ps_ret (pe_make T.kPretence.mak G_Pretence hr_Pretence rfl T.kPretence.gl B_Pretence .nil pass0 (pa_cons (pv 3) (pa_cons (pv 4) pa_nil)))))))))), ?_⟩
      unfold ShMarsh.coatFrom at k
      refine ⟨_, rfl, R, x, _, rfl, A0.hR, lk_take, _, rfl, _, _, rfl, rfl, _, rfl, ?_⟩
      refine ite2 (fun c => ?_) (fun c => ?_)
      · have c' : ¬ n = 0 := by
          have := of_decide_eq_true c
          omega
        rw [if_neg c'] at k
        have hn' : 0 < n := Nat.pos_of_ne_zero c'
        have hz' : z + 1 = 5 - (n : Int) := by omega
        refine ⟨R, _, bs, a, x, q0, _, rfl, A0, ⟨0, 3, rfl, rfl⟩, ?_⟩
        cases e1 : Sh.numAt 0 3 Sh.ANY q0 (bs.drop q0) with
        | error e =>
          rw [e1] at k
          exact k
        | ok y =>
        obtain ⟨n1, q1, r1⟩ := y
        rw [e1] at k
        intro v1 H1 k1 h1 l1 g1 t1
        dsimp only at k h1 l1 g1 t1
        subst g1
        have K1 : Keep R H H1 := K0.trans k1
        have A1 := A0.step k1 h1 l1
        cases t1
        refine ⟨_, rfl, rfl, _, rfl, ?_⟩
        refine ite2 (fun c1 => ?_) (fun c1 => ?_)
        · have c2 : n1 = 0 := by have := eqv c1; omega
          rw [if_pos c2] at k
          refine ⟨_, rfl, R, _, bs, a, x, q1, _, rfl, A1, ⟨rfl, rfl⟩, ?_⟩
          cases e2 : ShMarsh.markedFrom q1 (bs.drop q1) with
          | error e =>
            rw [e2] at k
            exact k
          | ok y =>
          obtain ⟨n2, q2, r2⟩ := y
          rw [e2] at k
          intro v2 H2 k2 h2 l2 g2 t2
          dsimp only at k h2 l2 g2 t2
          subst g2
          have K2 : Keep R H H2 := K1.trans k2
          have A2 := A1.step k2 h2 l2
          exact k _ H2 K2 h2 l2 rfl (RMarked.mv t2 (K1.mv h1))
        · have c2 : ¬ n1 = 0 := fun e => neqv c1 (by rw [e]; rfl)
          rw [if_neg c2] at k
          refine ⟨_, rfl, rfl, _, rfl, ?_⟩
          refine ite2 (fun c3 => ?_) (fun c3 => ?_)
          · have c4 : n1 = 1 := by have := eqv c3; omega
            rw [if_pos c4] at k
            have k' : Give d bs a R x (RC d) H Q E (quartAt n q1 (bs.drop q1)) := k
            refine ⟨_, rfl, _, rfl, R, _, bs, a, x, q1, _, rfl, A1, ⟨z, rfl, hz', hn', rfl⟩, ?_⟩
            exact Give.up K1 h1 (fun _ _ _ _ _ m z => RC.mv z m) k'
          · have c4 : ¬ n1 = 1 := fun e => neqv c3 (by rw [e]; rfl)
            rw [if_neg c4] at k
            refine ⟨_, rfl, _, rfl, _, _, rfl, rfl, R, _, bs, a, x, q1, _, rfl, A1, ⟨_, rfl, hz', hn', rfl⟩, ?_⟩
            cases e2 : ShMarsh.coatFrom n q1 (bs.drop q1) with
            | error e =>
              rw [e2] at k
              exact k
            | ok y =>
            obtain ⟨n2, q2, r2⟩ := y
            rw [e2] at k
            intro v2 H2 k2 h2 l2 g2 t2
            dsimp only at k h2 l2 g2 t2
            subst g2
            have K2 : Keep R H H2 := K1.trans k2
            have A2 := A1.step k2 h2 l2
            refine ⟨_, rfl, _, rfl, _, _, rfl, rfl, R, _, bs, a, x, q2, _, rfl, A2, ⟨_, rfl, hz', hn', rfl⟩, ?_⟩
            cases e3 : ShMarsh.coatFrom n q2 (bs.drop q2) with
            | error e =>
              rw [e3] at k
              exact k
            | ok y =>
            obtain ⟨n3, q3, r3⟩ := y
            rw [e3] at k
            intro v3 H3 k3 h3 l3 g3 t3
            dsimp only at k h3 l3 g3 t3
            subst g3
            have K3 : Keep R H H3 := K2.trans k3
            have A3 := A2.step k3 h3 l3
            refine ⟨_, rfl, rfl, _, rfl, ?_⟩
            refine ite2 (fun c5 => ?_) (fun c5 => ?_)
            · have c6 : n1 = 2 := by have := eqv c5; omega
              rw [if_pos c6] at k
              refine ⟨_, rfl, _, rfl, ?_⟩
              refine made rfl fun y dy H4 ny s4 hy => ?_
              refine k _ H4 (K3.trans (Keep.of s4)) (s4 _ _ h3) l3 rfl ⟨v2, v3, ⟨y, dy, rfl, K3.free h3 ny, hy⟩, ?_, ?_⟩
              · exact RC.mv t2 (((K1.mv h1).keep h1 k3).same s4)
              · exact RC.mv t3 ((K2.mv h2).same s4)
            · have c6 : ¬ n1 = 2 := fun e => neqv c5 (by rw [e]; rfl)
              rw [if_neg c6] at k
              refine ⟨_, rfl, _, rfl, ?_⟩
              refine made rfl fun y dy H4 ny s4 hy => ?_
              refine k _ H4 (K3.trans (Keep.of s4)) (s4 _ _ h3) l3 rfl ⟨v2, v3, ⟨y, dy, rfl, K3.free h3 ny, hy⟩, ?_, ?_⟩
              · exact RC.mv t2 (((K1.mv h1).keep h1 k3).same s4)
              · exact RC.mv t3 ((K2.mv h2).same s4)
      · have c' : n = 0 := by
          have := of_decide_eq_false (by simpa using c : decide (z < 4) = false)
          omega
        rw [if_pos c'] at k
        refine ⟨R, _, bs, a, x, q0, _, rfl, A0, ⟨0, 0, rfl, rfl⟩, ?_⟩
        cases e1 : Sh.numAt 0 0 Sh.ANY q0 (bs.drop q0) with
        | error e =>
          rw [e1] at k
          exact k
        | ok y =>
        obtain ⟨n1, q1, r1⟩ := y
        rw [e1] at k
        intro v1 H1 k1 h1 l1 g1 t1
        dsimp only at k h1 l1 g1 t1
        subst g1
        have K1 : Keep R H H1 := K0.trans k1
        have A1 := A0.step k1 h1 l1
        cases t1
        have b1 := (num_ok (x := 0) e1).2.2.1
        have c2 : n1 = 0 := by omega
        rw [if_pos c2] at k
        refine ⟨_, rfl, rfl, _, rfl, ?_⟩
        refine ite2 (fun c1 => ?_) (fun c1 => absurd (by rw [c2]; rfl) (neqv c1))
        refine ⟨_, rfl, R, _, bs, a, x, q1, _, rfl, A1, ⟨rfl, rfl⟩, ?_⟩
        cases e2 : ShMarsh.markedFrom q1 (bs.drop q1) with
        | error e =>
          rw [e2] at k
          exact k
        | ok y =>
        obtain ⟨n2, q2, r2⟩ := y
        rw [e2] at k
        intro v2 H2 k2 h2 l2 g2 t2
        dsimp only at k h2 l2 g2 t2
        subst g2
        have K2 : Keep R H H2 := K1.trans k2
        have A2 := A1.step k2 h2 l2
        exact k _ H2 K2 h2 l2 rfl (RMarked.mv t2 (K1.mv h1))
/-! ### decode -/
def spDecode (K : PySem.W.Frag) (d : Ad) : Sp := fun vs H Q E => ∃ (a : Addr) (bs : List UInt8), vs = [.ref a] ∧ SqL K H a (vals bs) ∧
  match ShMarsh.readCoat bs with
  | .error e => Err d E e
  | .ok c => ∀ v H', Same H H' → RC d H H' v c → Q v H'
theorem sc_decode : FnScope ["numbers", "reader", "coat"] ["numbers"] (defScope s_decode) := ⟨rfl, rfl, rfl, by decide +kernel, rfl, by decide +kernel, by decide +kernel⟩
theorem ok_decode (T : Txt K mg d) : OkD P w K mg base (L2.CX P w) 28 d.f_decode ["numbers"] (spDecode K d) := by
  obtain ⟨fd, F, B⟩ := T.k_decode.ex
  obtain ⟨⟨fd_Reader, G_Reader, B_Reader⟩, kp_Reader⟩ := ok_Reader_init (P := P) (w := w) (base := base) T
  obtain ⟨⟨fd_take_coat, G_take_coat, B_take_coat⟩, kp_take_coat⟩ := ok_take_coat (P := P) (w := w) (base := base) T 4
  obtain ⟨⟨fd_Reader_at_end, G_Reader_at_end, B_Reader_at_end⟩, kp_Reader_at_end⟩ := ok_Reader_at_end (P := P) (w := w) (base := base) T
  refine ⟨⟨fd, F.okX sc_decode (fun vs H Q E h => ?_) (fun cdv A outer s H vs Q E hr h => ?_), B⟩, F.kp⟩
  · obtain ⟨a, bs, rfl, _⟩ := h
    rfl
  · obtain ⟨a, bs, rfl, hS, k⟩ := h
    have hr_take_coat : Room (lc 4) _ := hr.mono (by decide)
    have hr_Reader : Room 2 _ := hr.mono (by decide)
    have hr_Reader_at_end : Room 1 _ := hr.mono (by decide)
    refine ⟨_, pss_cons (ps_set (i := 1) sc_decode.nd rfl (Or.inl rfl) (pe_make T.kReader.mak G_Reader hr_Reader rfl T.kReader.gl B_Reader .nil pass0 (pa_cons (pv 0) pa_nil)))
      (pss_cons (ps_set (i := 2) sc_decode.nd rfl (Or.inl rfl) (pe_call G_take_coat hr_take_coat rfl T.k_take_coat.gl kp_take_coat B_take_coat .nil passX (pa_cons (pv 1) (pa_cons pe_int pa_nil))))
      (pss_cons (ps_if (pt_not (pt_val (pe_meth0 (pv 1) T.kReader.cl T.kReader_at_end.me G_Reader_at_end hr_Reader_at_end B_Reader_at_end .nil pass0)))
        (pss_one (ps_raiseLow rfl T.xMisplaced hr takesX (pa_cons (pe_fld (pv 1) rfl) pa_nil)))
        pss_nil)
      (pss_one (ps_ret (pv 2))))), ?_⟩
    refine ⟨_, rfl, ?_⟩
    intro R x nR nx ne
    refine ⟨R, x, a, rfl, upd_same, fun H1 hb hR => ⟨rfl, ?_⟩⟩
    have s1 : Same H H1 := fun b o e => by
      rw [hb b (ne_of_none e nR), upd_ne (ne_of_none e nR), upd_ne (ne_of_none e nx)]
      exact e
    have A1 : At K d bs a R x H1 0 := ⟨hR, s1.seq hS, Nat.zero_le _⟩
    refine ⟨_, rfl, R, _, bs, a, x, 0, _, rfl, A1, ⟨_, rfl, by decide, by decide, rfl⟩, ?_⟩
    unfold ShMarsh.readCoat at k
    cases e2 : ShMarsh.coatFrom 4 0 (bs.drop 0) with
    | error e =>
      have e3 : ShMarsh.coatFrom ShMarsh.DEEP 0 bs = .error e := e2
      rw [e3] at k
      exact k
    | ok y =>
    obtain ⟨n2, q2, r2⟩ := y
    have e3 : ShMarsh.coatFrom ShMarsh.DEEP 0 bs = .ok (n2, q2, r2) := e2
    rw [e3] at k
    intro v2 H2 k2 h2 l2 g2 t2
    dsimp only at k h2 l2 g2 t2
    subst g2
    have A2 := A1.step k2 h2 l2
    refine ⟨_, rfl, R, x, _, rfl, A2.hR, lk_end, R, bs, a, x, q2, rfl, A2, _, rfl, ?_⟩
    by_cases c : q2 = bs.length
    · rw [decide_eq_true c]
      have c' : bs.drop q2 = [] := by rw [c, List.drop_length]
      rw [if_pos c'] at k
      refine iteF ?_
      refine ⟨_, rfl, k v2 H2 (fun b o e => k2 b o (ne_of_none e nR) (s1 b o e)) (RC.mv t2 ⟨fun b h => s1.free h, fun _ _ _ h => h⟩)⟩
    · rw [decide_eq_false c]
      have c' : ¬ bs.drop q2 = [] := fun z => c (by
        have := List.drop_eq_nil_iff.mp z
        omega)
      rw [if_neg c'] at k
      refine iteT ?_
      exact ⟨_, rfl, R, d.cReader, x, _, _, rfl, h2, T.kReader.cl, T.kReader.no.2.1, lk_pla, _, rfl, fun z hz => k z _ upd_same⟩
/-- return [-1, fault.place], fault the error that the suite holds at a (class cls, dict x), in slot i -/
def t_fault (d : Ad) (i : Nat) : Addr → Value → Option Addr → TS := fun a cls x => tRet (tLst (tCons (tUn (rU fun i => .int (-i)) (tC (.int 1))) (tCons (tByLow d.xMisplaced a cls x (tVar i)) tNil)))
end
end HC

namespace HC
open PySem L2
/-- the bytes that are handed in -/
def bytesOf (ns : List Int) : List UInt8 := ns.map fun n => UInt8.ofNat n.toNat
def Byt (ns : List Int) : Prop := ∀ n ∈ ns, 0 ≤ n ∧ n ≤ 255
theorem text_some {ns : List Int} (h : Byt ns) : CoatNeutral.text? ns = some (bytesOf ns) := by
  unfold CoatNeutral.text?
  rw [if_pos]
  · rfl
  · unfold NeutralIO.bytes
    rw [List.all_eq_true]
    intro n hn
    have := h n hn
    simp
    omega
theorem vals_of : ∀ {ns : List Int}, Byt ns → vals (bytesOf ns) = ns.map V.int
  | [], _ => rfl
  | n :: ns, h => by
    have h1 := h n List.mem_cons_self
    have ih := vals_of (ns := ns) fun m hm => h m (List.mem_cons_of_mem _ hm)
    show V.int ((UInt8.ofNat n.toNat).toNat : Int) :: vals (bytesOf ns) = V.int n :: ns.map V.int
    rw [ih]
    have e : ((UInt8.ofNat n.toNat).toNat : Int) = n := by
      rw [UInt8.toNat_ofNat']
      omega
    rw [e]
theorem f_of {c : CoatNeutral.Call} {x : ShCoats.Call} (h : CoatNeutral.callOf c = some x) : CoatNeutral.f c = (ShCoats.answer x).ret :: (((ShCoats.answer x).nums.map fun (n : Nat) => (n : Int)) ++ (ShCoats.answer x).bytes.map fun (b : UInt8) => (b.toNat : Int)) := by
  unfold CoatNeutral.f
  rw [h]
theorem check_is {ns : List Int} (h : Byt ns) : PyWqaqbh.check ns = match ShMarsh.readCoat (bytesOf ns) with
    | .error e => [-1, (e : Int)]
    | .ok _ => [0] := by
  have hc : CoatNeutral.callOf [[1], ns] = some (.check (bytesOf ns)) := by
    show (CoatNeutral.text? ns).map ShCoats.Call.check = _
    rw [text_some h]
    rfl
  show CoatNeutral.f [[1], ns] = _
  rw [f_of hc]
  unfold ShCoats.answer ShCoats.ofCoat
  dsimp only
  cases ShMarsh.readCoat (bytesOf ns) with
  | error e => rfl
  | ok c => rfl
theorem byt_of {l : List Int} (q : l.all (PySem.W.Codec.inInt 0 255) = true) : Byt l := by
  intro n hn
  have h := List.all_eq_true.mp q n hn
  unfold PySem.W.Codec.inInt at h
  simp at h
  omega
end HC
namespace HC
open PySem PySem.Spec PyProof.Rows L2 LamX NdefX
section
variable {P : Program} {w : World} {K : PySem.W.Frag} {mg : Str → Option Value} {base : Heap} {d : Ad}
/-! ### answered: the coat is taken in and handed on -/
def spAns (K : PySem.W.Frag) (d : Ad) (f : Addr) (sp : Sp) : Sp := fun vs H Q _ => ∃ (a : Addr) (bs : List UInt8), vs = [.ref a, .ref f] ∧ SqL K H a (vals bs) ∧ IsF H f ∧
  match ShMarsh.readCoat bs with
  | .error e => ∀ (H' : Hp) (q : Addr), H' q = some (.lst [.int (-1), vN e]) → Q (.ref q) H'
  | .ok c => ∀ v H', Same H H' → RC d H H' v c → sp [v] H' Q E0
theorem sc_answered : FnScope ["c", "tell", "coat", "fault"] ["c", "tell"] (defScope s_answered) := ⟨rfl, rfl, rfl, by decide +kernel, rfl, by decide +kernel, by decide +kernel⟩
theorem ok_answered (T : Txt K mg d) : ∃ fd, GivOk P w K mg base 40 39 d.f_answered fd ["c", "tell"] (spAns K d) ∧ Binds K fd ["c", "tell"] [] ∧ PySem.W.keepIn K (.ref d.f_answered) = true := by
  obtain ⟨fd, F, B⟩ := T.k_answered.ex
  obtain ⟨⟨fd_decode, G_decode, B_decode⟩, kp_decode⟩ := ok_decode (P := P) (w := w) (base := base) T
  refine ⟨fd, giv_of F sc_answered (fun f sp vs H Q E h => ?_) (fun cdv A outer s H vs Q f sp hr TL h => ?_), B, F.kp⟩
  · obtain ⟨a, bs, rfl, _⟩ := h
    rfl
  · obtain ⟨a, bs, rfl, hS, hF, k⟩ := h
    have hr_decode : Room 28 _ := hr.mono (by decide)
    refine ⟨_, pss_cons (ps_try_as (i := 3) (tb := fun W => tAsg (tCallS (spDecode K d) (WE W) (tCons (tVar 0) tNil)) (gName 2)) (ts := t_fault d 3) (Wout := fun _ _ _ _ => False) rfl rfl sc_answered.nd rfl rfl ⟨rfl, by decide, Or.inl T.xMisplaced.gC⟩ L2.takes0
        (fun W pn xe tk _ => pss_one (ps_set (i := 2) sc_answered.nd rfl (Or.inl rfl) (by exact (pe_callS G_decode hr_decode rfl T.k_decode.gl kp_decode B_decode (fun σ => passAt tk σ) (by exact (pa_cons (pv 0) pa_nil))))))
        (fun a oe cls x pn hz hf => pss_one (ps_ret (by exact (pe_lst (pa_cons (pe_un un_neg pe_int) (pa_cons (pe_byLow T.xMisplaced hz hf (pv 3)) pa_nil)))))))
      (pss_one (ps_ret (pe_tell (i := 1) (f := f) (sp := sp) TL rfl hr rfl (Or.inl rfl) (pa_cons (pv 2) pa_nil)))), ?_⟩
    refine ⟨_, rfl, a, bs, rfl, hS, ?_⟩
    cases e : ShMarsh.readCoat bs with
    | error e' =>
      rw [e] at k
      intro x H1 hx
      refine ⟨true, T.xMisplaced.te, fun _ a0 _ => ?_, fun q => Bool.noConfusion q⟩
      refine ⟨_, rfl, _, rfl, rfl, rfl, x, _, rfl, hx, ?_⟩
      exact ⟨(by show 2 ≤ sizeLine; decide), fun q hq => k _ q upd_same⟩
    | ok c =>
      rw [e] at k
      intro v H1 s1 t1
      exact ⟨rfl, hF.same s1, _, rfl, hF.same s1, k v H1 s1 t1⟩
/-- a call of one list of bytes -/
def spOne (g : List Int → List Int) (K : PySem.W.Frag) (cs : List (Addr × Addr)) : Sp := fun vs H Q _ => ∃ (a : Addr) (ns : List Int), vs = [.ref a] ∧ (∀ p ∈ cs, H p.2 = some (.tbl #[])) ∧ SqL K H a (ns.map V.int) ∧ Byt ns ∧
  ∀ (H' : Hp) (p : Addr), H' p = some (.lst ((g ns).map V.int)) → Q (.ref p) H'
end
end HC

namespace HC
/-! ### the specification's tables, row by row -/
theorem off_1 (t : Int) : Sh.off 1 t = if t % 48 < 24 then 12 - (t % 24 - 12) * (t % 24 - 12) / 12 else (t % 24 - 12) * (t % 24 - 12) / 12 - 12 := rfl
theorem off_2 (t : Int) : Sh.off 2 t = if t % 48 < 24 then 12 else -12 := rfl
theorem off_3 (t : Int) : Sh.off 3 t = if t % 48 < 24 then t % 48 - 12 else 36 - t % 48 := rfl
theorem off_4 (t : Int) : Sh.off 4 t = (t % 24 - 12) * (t % 24 - 12) / 6 - 12 := rfl
theorem off_5 (t : Int) : Sh.off 5 t = 12 - (t % 24 - 12) * (t % 24 - 12) / 6 := rfl
theorem oh_6 (l : Nat) (p r : Int) : Sh.ordHas 6 l p r = Sh.within 0 (r - 168 - Sh.dist p - Sh.off l p) 144 := rfl
theorem oh_7 (l : Nat) (p r : Int) : Sh.ordHas 7 l p r = (Sh.within (180 + Sh.off l r) p (300 + Sh.off l r) || Sh.within (228 + Sh.off l p) r (348 + Sh.off l p)) := rfl
theorem oh_8 (l : Nat) (p r : Int) : Sh.ordHas 8 l p r = (Sh.nearDiag l 560 p r || Sh.nearDiag l 560 (Sh.flip p) r) := rfl
theorem oh_10 (l : Nat) (p r : Int) : Sh.ordHas 10 l p r = (decide (p < 48 + Sh.off l r) || (decide (432 - Sh.off l r ≤ p) || (decide (r < 48 + Sh.off l p) || decide (528 - Sh.off l p ≤ r)))) := rfl
section
variable {x y : Int} (h : -48 ≤ x ∧ x ≤ 48 ∧ -48 ≤ y ∧ y ≤ 48)
include h
theorem in48 : ¬ (48 < Sh.size x ∨ 48 < Sh.size y) := by
  unfold Sh.size
  split <;> split <;> omega
theorem ch_0 : Sh.chargeHas 0 x y = decide (x * x + y * y < 2304) := by
  unfold Sh.chargeHas; rw [if_neg (in48 h)]; rfl
theorem ch_1 : Sh.chargeHas 1 x y = Sh.within 1024 (x * x + y * y) 2304 := by
  unfold Sh.chargeHas; rw [if_neg (in48 h)]; rfl
theorem ch_2 : Sh.chargeHas 2 x y = decide (4 * Sh.size x + 3 * Sh.size y < 144) := by
  unfold Sh.chargeHas; rw [if_neg (in48 h)]; rfl
theorem ch_3 : Sh.chargeHas 3 x y = Sh.within 60 (4 * Sh.size x + 3 * Sh.size y) 144 := by
  unfold Sh.chargeHas; rw [if_neg (in48 h)]; rfl
theorem ch_4 : Sh.chargeHas 4 x y = decide (3 * Sh.size x + Sh.size y < 48) := by
  unfold Sh.chargeHas; rw [if_neg (in48 h)]; rfl
theorem ch_5 : Sh.chargeHas 5 x y = (decide (Sh.size x < 24) && decide (Sh.size y < 44)) := by
  unfold Sh.chargeHas; rw [if_neg (in48 h)]; rfl
theorem ch_6 : Sh.chargeHas 6 x y = ((decide (y ≤ 24) && decide (7 * Sh.size x ≤ 4 * (y + 48))) || (decide (-24 ≤ y) && decide (7 * Sh.size x ≤ 4 * (48 - y)))) := by
  unfold Sh.chargeHas; rw [if_neg (in48 h)]; rfl
theorem ch_7 : Sh.chargeHas 7 x y = (decide (x * x + y * y < 2304) && decide (1444 ≤ x * x + (y + 18) * (y + 18))) := by
  unfold Sh.chargeHas; rw [if_neg (in48 h)]; rfl
theorem ch_8 : Sh.chargeHas 8 x y = (decide (x * x + y * y < 2304) && decide (1444 ≤ (x + 18) * (x + 18) + y * y)) := by
  unfold Sh.chargeHas; rw [if_neg (in48 h)]; rfl
theorem ch_9 : Sh.chargeHas 9 x y = ((decide (Sh.size x < 14) && decide (Sh.size y < 44)) || (decide (Sh.size y < 14) && decide (Sh.size x < 44))) := by
  unfold Sh.chargeHas; rw [if_neg (in48 h)]; rfl
theorem ch_10 : Sh.chargeHas 10 x y = (decide (Sh.size (Sh.size x - Sh.size y) < 14) && (decide (Sh.size x < 40) && decide (Sh.size y < 40))) := by
  unfold Sh.chargeHas; rw [if_neg (in48 h)]; rfl
theorem ch_11 : Sh.chargeHas 11 x y = (decide (Sh.size x < 32) && (decide (-40 ≤ y) && decide (2 * Sh.size x + y < 72))) := by
  unfold Sh.chargeHas; rw [if_neg (in48 h)]; rfl
theorem ch_12 : Sh.chargeHas 12 x y = ((decide (Sh.size x < 30) && Sh.within (-20) y 44) || (Sh.within (-40) y (-20) && (decide (Sh.size x < 8) || Sh.within 22 (Sh.size x) 38))) := by
  unfold Sh.chargeHas; rw [if_neg (in48 h)]; rfl
theorem ch_13 : Sh.chargeHas 13 x y = ((decide (Sh.size x < 4) && decide (Sh.size y < 46)) || (decide (Sh.size x < 20) && Sh.within 18 y 26)) := by
  unfold Sh.chargeHas; rw [if_neg (in48 h)]; rfl
theorem ch_14 : Sh.chargeHas 14 x y = (Sh.within 1156 (x * x + y * y) 2304 || (decide (x * x + y * y < 1156) && (decide (Sh.size x < 5) || decide (Sh.size y < 5)))) := by
  unfold Sh.chargeHas; rw [if_neg (in48 h)]; rfl
theorem ch_15 : Sh.chargeHas 15 x y = ((decide (Sh.size x < 4) && decide (Sh.size y < 46)) || ((Sh.within (-46) y (-16) && decide (2 * Sh.size x < y + 48)) || (Sh.within 30 y 46 && decide (Sh.size x < 12)))) := by
  unfold Sh.chargeHas; rw [if_neg (in48 h)]; rfl
end
end HC
namespace HC
/-! ### what the bytes of a well made coat tell -/
def WField : Sh.Field → Prop
  | .plain _ => True
  | .parted d l a b => d ≤ 7 ∧ l ≤ 5 ∧ a ≠ b
  | .varied v n l a b => v ≤ 6 ∧ 2 ≤ n ∧ n ≤ 24 ∧ l ≤ 5 ∧ a ≠ b
def WFill (below : Sh.Field) : Sh.Fill → Prop
  | .solid f => WField f
  | .counter => below.two.isSome = true
def WLayer (below : Sh.Field) : Sh.Layer → Prop
  | .ord o l f => o ≤ 12 ∧ l ≤ 5 ∧ WFill below f
  | .group c n m s f => c ≤ 15 ∧ 1 ≤ n ∧ n ≤ 10 ∧ m ≤ 6 ∧ 1 ≤ s ∧ s ≤ 4 ∧ WFill below f
def WArms (a : Sh.Arms) : Prop := WField a.field ∧ ∀ x ∈ a.layers, WLayer a.field x
def WOpt : Option Sh.Arms → Prop
  | none => True
  | some a => WArms a
def WMarked (m : ShMarsh.Marked) : Prop := WArms m.arms ∧ WOpt m.canton ∧ m.marks.length ≤ 60 ∧ ∀ x ∈ m.marks, x.1 ≤ 127 ∧ x.2 ≤ 255
mutual
def WCoat : ShMarsh.Coat → Prop
  | .one m => WMarked m
  | .quarters l => 2 ≤ l.length ∧ l.length ≤ 9 ∧ WCoats l
  | .impaled a b => WCoat a ∧ WCoat b
  | .pretence a b => WCoat a ∧ WCoat b
def WCoats : List ShMarsh.Coat → Prop
  | [] => True
  | x :: l => WCoat x ∧ WCoats l
end
theorem na {lo hi x p : Nat} {b : Sh.Bytes} {y : Nat × Nat × Sh.Bytes} (h : Sh.numAt lo hi x p b = .ok y) : lo ≤ y.1 ∧ y.1 ≤ hi ∧ y.1 ≠ x := by
  unfold Sh.numAt at h
  split at h
  · cases h
  · split at h
    · cases h
    · rename_i c r hn
      cases h
      refine ⟨?_, ?_, ?_⟩
      · have : ¬ c.toNat < lo := fun z => hn (.inl z)
        show lo ≤ c.toNat
        omega
      · have : ¬ hi < c.toNat := fun z => hn (.inr (.inl z))
        show c.toNat ≤ hi
        omega
      · exact fun z => hn (.inr (.inr z))
theorem two_ok {p : Nat} {b : Sh.Bytes} {y : (Nat × Nat) × Nat × Sh.Bytes} (h : Sh.twoAt p b = .ok y) : y.1.1 ≠ y.1.2 := by
  unfold Sh.twoAt at h
  split at h
  · cases h
  · split at h
    · cases h
    · rename_i a _ c hc
      cases h
      exact fun e => (na hc).2.2 e.symm
theorem field_ok {p : Nat} {b : Sh.Bytes} {y : Sh.Field × Nat × Sh.Bytes} (h : Sh.fieldAt p b = .ok y) : WField y.1 := by
  unfold Sh.fieldAt at h
  split at h
  · cases h
  · split at h
    · split at h
      · cases h
      · cases h; trivial
    · split at h
      · split at h
        · cases h
        · rename_i d hd
          split at h
          · cases h
          · rename_i l hl
            split at h
            · cases h
            · rename_i t ht
              cases h
              exact ⟨(na hd).2.1, (na hl).2.1, two_ok ht⟩
      · split at h
        · cases h
        · rename_i v hv
          split at h
          · cases h
          · rename_i n hn
            split at h
            · cases h
            · rename_i l hl
              split at h
              · cases h
              · rename_i t ht
                cases h
                refine ⟨(na hv).2.1, (na hn).1, (na hn).2.1, ?_, two_ok ht⟩
                have := (na hl).2.1
                split at this <;> omega
theorem fill_ok {f : Sh.Field} {p : Nat} {b : Sh.Bytes} {y : Sh.Fill × Nat × Sh.Bytes} (h : Sh.fillAt f p b = .ok y) : WFill f y.1 := by
  unfold Sh.fillAt at h
  split at h
  · cases h
  · rename_i k hk
    split at h
    · rename_i h1
      cases h
      have := (na hk).2.1
      show f.two.isSome = true
      split at this
      · assumption
      · omega
    · split at h
      · cases h
      · rename_i g hg
        cases h
        exact field_ok hg
theorem layer_ok {f : Sh.Field} {p : Nat} {b : Sh.Bytes} {y : Sh.Layer × Nat × Sh.Bytes} (h : Sh.layerAt f p b = .ok y) : WLayer f y.1 := by
  unfold Sh.layerAt at h
  split at h
  · cases h
  · split at h
    · split at h
      · cases h
      · rename_i o ho
        split at h
        · cases h
        · rename_i l hl
          split at h
          · cases h
          · rename_i g hg
            cases h
            exact ⟨(na ho).2.1, (na hl).2.1, fill_ok hg⟩
    · split at h
      · cases h
      · rename_i c hc
        split at h
        · cases h
        · rename_i n hn
          split at h
          · cases h
          · rename_i m hm
            split at h
            · cases h
            · rename_i s hs
              split at h
              · cases h
              · rename_i g hg
                cases h
                exact ⟨(na hc).2.1, (na hn).1, (na hn).2.1, (na hm).2.1, (na hs).1, (na hs).2.1, fill_ok hg⟩
theorem layers_ok {f : Sh.Field} : ∀ {n p : Nat} {b : Sh.Bytes} {y : List Sh.Layer × Nat × Sh.Bytes}, Sh.layersFrom f n p b = .ok y → ∀ x ∈ y.1, WLayer f x
  | 0, _, _, _, h => by
    cases h
    intro x hx
    cases hx
  | n + 1, _, _, _, h => by
    unfold Sh.layersFrom at h
    split at h
    · cases h
    · rename_i x hx
      split at h
      · cases h
      · rename_i l hl
        cases h
        intro z hz
        rcases List.mem_cons.mp hz with e | e
        · subst e; exact layer_ok hx
        · exact layers_ok hl z e
theorem arms_ok {p : Nat} {b : Sh.Bytes} {y : Sh.Arms × Nat × Sh.Bytes} (h : ShMarsh.armsFrom p b = .ok y) : WArms y.1 := by
  unfold ShMarsh.armsFrom at h
  split at h
  · cases h
  · rename_i f hf
    split at h
    · cases h
    · split at h
      · cases h
      · rename_i l hl
        cases h
        exact ⟨field_ok hf, layers_ok hl⟩
theorem marks_ok : ∀ {n p : Nat} {b : Sh.Bytes} {y : List (Nat × Nat) × Nat × Sh.Bytes}, ShMarsh.marksFrom n p b = .ok y → y.1.length = n ∧ ∀ x ∈ y.1, x.1 ≤ 127 ∧ x.2 ≤ 255
  | 0, _, _, _, h => by
    cases h
    exact ⟨rfl, fun x hx => nomatch hx⟩
  | n + 1, _, _, _, h => by
    unfold ShMarsh.marksFrom at h
    split at h
    · cases h
    · rename_i g hg
      split at h
      · cases h
      · rename_i k hk
        split at h
        · cases h
        · rename_i l hl
          cases h
          have ih := marks_ok hl
          refine ⟨by rw [List.length_cons, ih.1], fun z hz => ?_⟩
          rcases List.mem_cons.mp hz with e | e
          · subst e; exact ⟨(na hg).2.1, (na hk).2.1⟩
          · exact ih.2 z e
theorem marked_ok {p : Nat} {b : Sh.Bytes} {y : ShMarsh.Marked × Nat × Sh.Bytes} (h : ShMarsh.markedFrom p b = .ok y) : WMarked y.1 := by
  unfold ShMarsh.markedFrom at h
  split at h
  · cases h
  · rename_i a ha
    split at h
    · cases h
    · rename_i k hk
      split at h
      · cases h
      · rename_i c hc
        split at h
        · cases h
        · rename_i n hn
          split at h
          · cases h
          · rename_i m hm
            cases h
            have hmk := marks_ok hm
            refine ⟨arms_ok ha, ?_, by rw [hmk.1]; exact (na hn).2.1, hmk.2⟩
            split at hc
            · cases hc; trivial
            · cases e : ShMarsh.armsFrom k.2.1 k.2.2 with
              | error e' => rw [e] at hc; cases hc
              | ok z => rw [e] at hc; cases hc; exact arms_ok e
theorem several_ok {one : Nat → Sh.Bytes → Except Nat (ShMarsh.Coat × Nat × Sh.Bytes)} (ho : ∀ p b y, one p b = .ok y → WCoat y.1) : ∀ {n p : Nat} {b : Sh.Bytes} {y : List ShMarsh.Coat × Nat × Sh.Bytes}, ShMarsh.several one n p b = .ok y → y.1.length = n ∧ WCoats y.1
  | 0, _, _, _, h => by
    cases h
    exact ⟨rfl, trivial⟩
  | n + 1, _, _, _, h => by
    unfold ShMarsh.several at h
    split at h
    · cases h
    · rename_i x hx
      split at h
      · cases h
      · rename_i l hl
        cases h
        have ih := several_ok ho hl
        exact ⟨by rw [List.length_cons, ih.1], ho _ _ _ hx, ih.2⟩
theorem coat_ok : ∀ {d p : Nat} {b : Sh.Bytes} {y : ShMarsh.Coat × Nat × Sh.Bytes}, ShMarsh.coatFrom d p b = .ok y → WCoat y.1
  | 0, _, _, _, h => by cases h
  | d + 1, _, _, _, h => by
    unfold ShMarsh.coatFrom at h
    split at h
    · cases h
    · split at h
      · split at h
        · cases h
        · rename_i m hm
          cases h
          exact marked_ok hm
      · split at h
        · split at h
          · cases h
          · rename_i n hn
            split at h
            · cases h
            · rename_i l hl
              cases h
              have hs := several_ok (fun p b y => coat_ok) hl
              exact ⟨by rw [hs.1]; exact (na hn).1, by rw [hs.1]; exact (na hn).2.1, hs.2⟩
        · split at h
          · cases h
          · rename_i x hx
            split at h
            · cases h
            · rename_i z hz
              cases h
              show WCoat (if _ then ShMarsh.Coat.impaled x.1 z.1 else ShMarsh.Coat.pretence x.1 z.1)
              split
              · exact ⟨coat_ok hx, coat_ok hz⟩
              · exact ⟨coat_ok hx, coat_ok hz⟩
theorem read_ok {b : Sh.Bytes} {c : ShMarsh.Coat} (h : ShMarsh.readCoat b = .ok c) : WCoat c := by
  unfold ShMarsh.readCoat at h
  split at h
  · cases h
  · rename_i x hx
    split at h
    · cases h
      exact coat_ok hx
    · cases h
end HC
namespace HC
/-! ### how deep what is read may be -/
theorem several_deep {one : Nat → Sh.Bytes → Except Nat (ShMarsh.Coat × Nat × Sh.Bytes)} {m : Nat} (ho : ∀ p b y, one p b = .ok y → y.1.deep ≤ m) : ∀ {n p : Nat} {b : Sh.Bytes} {y : List ShMarsh.Coat × Nat × Sh.Bytes}, ShMarsh.several one n p b = .ok y → ShMarsh.deepest y.1 ≤ m
  | 0, p, b, y, h => by
    cases h
    exact Nat.zero_le _
  | n + 1, p, b, y, h => by
    unfold ShMarsh.several at h
    cases e : one p b with
    | error z => rw [e] at h; cases h
    | ok x =>
      rw [e] at h
      dsimp only at h
      cases e2 : ShMarsh.several one n x.2.1 x.2.2 with
      | error z => rw [e2] at h; cases h
      | ok l =>
        rw [e2] at h
        cases h
        exact Nat.max_le.mpr ⟨ho _ _ _ e, several_deep ho e2⟩
theorem coat_deep : ∀ {n p : Nat} {b : Sh.Bytes} {y : ShMarsh.Coat × Nat × Sh.Bytes}, ShMarsh.coatFrom n p b = .ok y → y.1.deep ≤ n
  | 0, p, b, y, h => by cases h
  | n + 1, p, b, y, h => by
    unfold ShMarsh.coatFrom at h
    cases e : Sh.numAt 0 (if n = 0 then 0 else 3) Sh.ANY p b with
    | error z => rw [e] at h; cases h
    | ok k =>
      rw [e] at h
      dsimp only at h
      by_cases c0 : k.1 = 0
      · rw [if_pos c0] at h
        cases e1 : ShMarsh.markedFrom k.2.1 k.2.2 with
        | error z => rw [e1] at h; cases h
        | ok m =>
          rw [e1] at h
          cases h
          show 1 ≤ n + 1
          omega
      · rw [if_neg c0] at h
        by_cases c1 : k.1 = 1
        · rw [if_pos c1] at h
          cases e1 : Sh.numAt 2 ShMarsh.QUARTERS Sh.ANY k.2.1 k.2.2 with
          | error z => rw [e1] at h; cases h
          | ok m =>
            rw [e1] at h
            dsimp only at h
            cases e2 : ShMarsh.several (ShMarsh.coatFrom n) m.1 m.2.1 m.2.2 with
            | error z => rw [e2] at h; cases h
            | ok l =>
              rw [e2] at h
              cases h
              exact Nat.succ_le_succ (several_deep (fun _ _ _ z => coat_deep z) e2)
        · rw [if_neg c1] at h
          cases e1 : ShMarsh.coatFrom n k.2.1 k.2.2 with
          | error z => rw [e1] at h; cases h
          | ok x =>
            rw [e1] at h
            dsimp only at h
            cases e2 : ShMarsh.coatFrom n x.2.1 x.2.2 with
            | error z => rw [e2] at h; cases h
            | ok z =>
              rw [e2] at h
              cases h
              have h1 := coat_deep e1
              have h2 := coat_deep e2
              show ShMarsh.Coat.deep (if _ then ShMarsh.Coat.impaled x.1 z.1 else ShMarsh.Coat.pretence x.1 z.1) ≤ n + 1
              split
              · exact Nat.succ_le_succ (Nat.max_le.mpr ⟨h1, h2⟩)
              · exact Nat.succ_le_succ (Nat.max_le.mpr ⟨h1, h2⟩)
theorem read_deep {b : Sh.Bytes} {c : ShMarsh.Coat} (h : ShMarsh.readCoat b = .ok c) : c.deep ≤ 4 := by
  unfold ShMarsh.readCoat at h
  cases e : ShMarsh.coatFrom ShMarsh.DEEP 0 b with
  | error z => rw [e] at h; cases h
  | ok x =>
    rw [e] at h
    dsimp only at h
    by_cases c : x.2.2 = []
    · rw [if_pos c] at h
      cases h
      exact coat_deep e
    · rw [if_neg c] at h
      cases h
end HC
namespace HC
open PySem PySem.Spec PyProof.Rows L2
/-! ### max(t) of a tuple of ints -/
def rMaxT (K : PySem.W.Frag) : List V → Hp → VK → Prop := fun vs H Q => ∃ (a : Addr) (n : Int) (ns : List Int), vs = [V.ref a] ∧ SqT K H a ((n :: ns).map V.int) ∧ Q (.int (PySem.W.maxOf n ns)) H
theorem int_held {h : Heap} {v : Value} {n : Int} (hv : PySem.W.Holds h v n) : ∃ t, v = .int n t := by
  obtain ⟨as, r⟩ := hv
  cases r with
  | int _ t => exact ⟨t, rfl⟩
theorem cr_maxT {X : Cx} {k : Nat} (hc : X.calm = true) (hr : Room k X.A) : CallR X (.builtin "max") (rMaxT X.K) := by
  intro pins sh st Hh vals us Qv Iv rel hw
  obtain ⟨a, n, ns, rfl, hs, q⟩ := hw
  obtain ⟨its, rv, tl, _⟩ := Iv.tuple hs
  rw [Vals.ref1 rel]
  have hu : X.A.units + 1 + PySem.W.Datum.depth Int < cLine := by
    have h1 := hr.units
    have h2 : PySem.W.Datum.depth Int ≤ 8 := by decide
    omega
  refine PySem.W.max_tuple_datum (Iv.ok.hd hc) tl (PySem.W.HoldAll.of_ints (by simpa using rv.ints)) hu fun i v h' tk hi hv hk => ?_
  obtain ⟨t, rfl⟩ := int_held hv
  exact ⟨.int _, Hh, Iv.kept hk, ⟨_, rfl⟩, q⟩
/-! ### enumerate(t) of a tuple -/
section
variable {prog : Program} {w : World} {A : Around} {E : Value → Shared → Prop} {sh : Shared}
set_option maxHeartbeats 1000000 in
theorem meets_en1 {val : Value} {ob : Obj} {Hb : Heap → Prop} (Bg : Begins val ob Hb) :
    Meets (Builtin.«enumerate.__new__» ⟨[.type "enumerate", val], []⟩) (fun _ Rr z => Hb z.heap ∧
      Rr (.ok (.ret (.ref (z.heap.push ob).objs.size))) { z with heap := (z.heap.push ob).push { cls := .type "enumerate", data := .fields #[.none, .bool false, .ref z.heap.objs.size, rawInt 0, .none, .none] } }) :=
  .of_wp fun pr wo Ar Rr z hz => by
    obtain ⟨hp0, g0, d0, tk0, os0⟩ := z
    obtain ⟨hb1, hz⟩ := hz
    have sube := sub_enumerate
    have goes : ∀ {Ar' : Around} {Er : Value → Shared → Prop} {Qr : Value → Shared → Prop}, Qr (.ref hp0.objs.size) ⟨hp0.push ob, g0, d0, tk0, os0⟩ → wpAny (model pr wo) Ar' (pyIter val) Qr Er ⟨hp0, g0, d0, tk0, os0⟩ :=
      fun q => Bg.iter pr wo _ _ ⟨hp0, g0, d0, tk0, os0⟩ _ hb1 q
    wp_walk using goes
    refine wpAny_stack_any fun stk => wpAny_pure ?_
    split
    · rename_i cc _ _ _ _ _
      cases (cc == Value.type "enumerate")
      · (wp_walk using goes); exact ⟨_, rfl, hz⟩
      · (wp_walk using goes); exact ⟨_, rfl, hz⟩
    · (wp_walk using goes); exact ⟨_, rfl, hz⟩
theorem begin_en1 {val : Value} {ob : Obj} {Hb : Heap → Prop} {Qr : Value → Shared → Prop} (Bg : Begins val ob Hb) (hb1 : Hb sh.heap)
    (hgo : ∀ h2, IsEnum h2 (sh.heap.objs.size + 1) sh.heap.objs.size 0 .none → h2.get? sh.heap.objs.size = some ob → (∀ b o, sh.heap.get? b = some o → h2.get? b = some o) → Qr (.ref (sh.heap.objs.size + 1)) { sh with heap := h2 }) :
    wpAny (model prog w) A (call (.type "enumerate") [val]) Qr E sh := by
  refine callType_new F.called_enumerate (by decide) (F.typeCall_enumerate_1 _) (F.newCall_enumerate_1 _) (fun obj => F.args_object_init_2 obj _) F.entry_enumerate_new (meets_en1 Bg) ⟨hb1, ?_⟩
  have size1 : (sh.heap.push ob).objs.size = sh.heap.objs.size + 1 := Heap.size_push ..
  show _ ∧ _
  rw [size1]
  have isE : IsEnum ((sh.heap.push ob).push { cls := .type "enumerate", data := .fields #[.none, .bool false, .ref sh.heap.objs.size, rawInt 0, .none, .none] }) (sh.heap.objs.size + 1) sh.heap.objs.size 0 .none := by
    have tt := Heap.get?_push_size (sh.heap.push ob) (o := { cls := .type "enumerate", data := .fields #[.none, .bool false, .ref sh.heap.objs.size, rawInt 0, .none, .none] }) rfl
    rw [size1] at tt
    exact tt
  exact ⟨⟨_, isE, rfl⟩, hgo _ isE (Heap.get?_push_of_some _ (Heap.get?_push_size _ Bg.free)) fun b o x => Heap.get?_push_of_some _ (Heap.get?_push_of_some _ x)⟩
end
/-- the tuple at a, of xs, each item in a new pair -/
def IeT (K : PySem.W.Frag) (a : Addr) (xs : List V) : It :=
  ⟨fun i H => SqT K H a xs ∧ i < xs.length, fun i H v H' => ∃ T x, v = .ref T ∧ H T = none ∧ H' = upd H T (.tup [.int (i : Nat), x]) ∧ xs[i]? = some x, fun i H => SqT K H a xs ∧ i = xs.length⟩
theorem turnET {P : Program} {w : World} {K : PySem.W.Frag} {elts : List Expr} {kk : Nat} {tpos : Pos} (a e it : Addr) (xs : List V) :
    Turn P w K (.Tuple elts kk tpos) (IeT K a xs) [e, it] e (fun i h => (∃ old, IsEnum h e it ((i : Nat) : Int) old) ∧ h.IsTupleIter it a i ∧ e ≠ it ∧ e ≠ a ∧ a ≠ it) where
  mem := by simp
  obj := fun i h st b hb => by
    obtain ⟨⟨old, isE⟩, ⟨ob, hob, _, hdt⟩, _⟩ := st
    rcases (show b = e ∨ b = it by simpa using hb) with z | z
    · subst z; exact ⟨_, isE, fun v q => nomatch q⟩
    · subst z; exact ⟨ob, hob, fun v q => by rw [hdt] at q; cases q⟩
  keep := fun i h h' st k => let ⟨⟨old, isE⟩, isI, rest⟩ := st; ⟨⟨old, k e (by simp) _ isE⟩, isI.at fun o q => k it (by simp) o q, rest⟩
  item := by
    intro X hP hW hK hc i pins sh st Hh Ee Iv fpok tns hgo
    subst hP hW hK
    obtain ⟨⟨old, isE⟩, isI, n1, n2, n3⟩ := tns
    obtain ⟨hsq, hlt⟩ := hgo
    obtain ⟨its, rv, isT, _⟩ := Iv.tuple hsq
    have lt1 : e < sh.heap.objs.size := Heap.lt_size isE
    have lt2 : it < sh.heap.objs.size := by obtain ⟨_, q, _⟩ := isI; exact Heap.lt_size q
    have Dr := Draws.tuple (prog := X.prog) (w := X.w) (A := X.A.in1) (Iv.ok.hd hc) it a n3 its.toArray
    have hlen := rv.length
    refine wpAny_pyNext_enum_itemD Dr isE ⟨isI, isT⟩ (by simp; omega) n1 (by simp [n1, n2]) fun u h1 tk hu outE hst hT hsz hkp => ?_
    refine ⟨_, rfl, wpAny_letOwnedTupleGo_enum (s := { sh with heap := h1, toks := tk + 1 }) outE fun h2 isE2 sb => ?_⟩
    have hx : ∃ x, xs[i]? = some x ∧ RelV x u := by
      have hu' : its[i]? = some u := by simpa using hu
      have hxx : xs[i]? = some xs[i] := List.getElem?_eq_getElem hlt
      obtain ⟨u2, hu2, ru2⟩ := rv.get hxx
      rw [hu'] at hu2
      cases hu2
      exact ⟨_, hxx, ru2⟩
    obtain ⟨x, hxi, ru⟩ := hx
    have hT2 : h2.get? sh.heap.objs.size = some { cls := .type "tuple", data := .seq #[.int i tk, u] } := (sb.2 _ (Nat.ne_of_gt lt1)).trans hT
    have fresh : ObjOk X.prog X.w (upd Hh sh.heap.objs.size (.tup [.int (i : Nat), x])) h2 sh.heap.objs.size (.tup [.int (i : Nat), x]) :=
      ⟨by show 2 ≤ sizeLine; decide, [.int i tk, u], .cons ⟨_, rfl⟩ (.cons ru .nil), ⟨_, hT2, rfl, _, rfl⟩⟩
    have Iv2 : Inv X pins st (upd Hh sh.heap.objs.size (.tup [.int (i : Nat), x])) { sh with heap := h2, toks := tk + 1 } :=
      Iv.turnedNew (ch := [e, it]) (fun b ob hb q => (sb.2 b (fun z => hb (by simp [z]))).trans (hkp b ob (fun z => hb (by simp [z])) (fun z => hb (by simp [z])) q)) fpok (Nat.le_refl _) fresh
    refine ⟨.ref sh.heap.objs.size, _, Iv2, rfl, ⟨_, x, rfl, Iv.hok.fresh (Nat.le_refl _), rfl, hxi⟩, ⟨⟨u, ?_⟩, hst.1.at fun o q => (sb.2 it (Ne.symm n1)).trans q, n1, n2, n3⟩, fun b hb => ?_⟩
    · rw [show ((i + 1 : Nat) : Int) = (i : Int) + 1 by omega]
      exact isE2
    · have blt : b < sh.heap.objs.size := by
        rcases (show b = e ∨ b = it by simpa using hb) with z | z <;> (subst z; assumption)
      rw [upd_ne (Nat.ne_of_lt blt)]
      exact (fpok b hb).1
  done := by
    intro X hP hW hK hc i pins sh st Hh Ee Iv fpok tns hgo
    subst hP hW hK
    obtain ⟨⟨old, isE⟩, isI, n1, n2, n3⟩ := tns
    obtain ⟨hsq, hlt⟩ := hgo
    obtain ⟨its, rv, isT, _⟩ := Iv.tuple hsq
    obtain ⟨f0, f1, f2, f3, f4, f5⟩ := fpok it (by simp)
    have hlen := rv.length
    have ei : i = its.toArray.size := by simp; omega
    have Dr := Draws.tuple (prog := X.prog) (w := X.w) (A := X.A.in1) (Iv.ok.hd hc) it a n3 its.toArray
    subst ei
    exact wpAny_pyNext_enum_endD Dr isE ⟨isI, isT⟩ fun h1 eb => ⟨rfl, Iv.turned (t' := sh.toks) (fun b o hb q => eb b o hb q) f0 f1 f3 f4 f5⟩
  self := fun Ar i z Qr Er tns hq => let ⟨⟨_, isE⟩, _⟩ := tns; wpAny_pyIter_enum isE hq
def iEnT (K : PySem.W.Frag) (ta : TA) : TI := fun σ H R => ta σ H fun vs H1 => ∃ a xs, vs = [.ref a] ∧ SqT K H1 a xs ∧ R (IeT K a xs) H1
theorem pi_enumT {X : Cx} {e : Expr} {ta : TA} {p pos tpos : Pos} {elts : List Expr} {kk : Nat} (hg : Gl X "enumerate") (hm : X.mg "enumerate" = none) (ha : PA X [e] ta) (hs : starEach [e] X.env = [(false, eval e X.env)] := by rfl) :
    PI X (.Tuple elts kk tpos) (.Call (.Name "enumerate" p) [e] [] pos) (iEnT X.K ta) := by
  refine ⟨fun pins sh st Hh Rr Iv hw => ?_⟩
  refine Call_ (ld_blt Iv hg hm boot_enumerate (PyProof.Rows.callWith_type1 (thn (ha.run pos pins sh st Hh _ Iv hw) fun us s1 ⟨vs, H1, I1, r1, q1⟩ => ?_) hs rfl))
  obtain ⟨a, xs, rfl, hsq, q⟩ := q1
  rw [Vals.ref1 r1]
  obtain ⟨its, rv, isT, _⟩ := I1.tuple hsq
  have alt : a < s1.heap.objs.size := by obtain ⟨_, z, _⟩ := isT; exact Heap.lt_size z
  refine begin_en1 (begins_tuple a its.toArray) isT fun h2 isE hob hkp => wpAny_pyIter_enum isE ?_
  have I2 : Inv X pins st H1 { s1 with heap := h2 } := I1.kept (t' := s1.toks) hkp
  refine ⟨s1.heap.objs.size + 1, [s1.heap.objs.size + 1, s1.heap.objs.size], _, _, H1, rfl, I2, turnET a (s1.heap.objs.size + 1) s1.heap.objs.size xs, ⟨⟨.none, isE⟩, ⟨_, hob, rfl, rfl⟩, Nat.succ_ne_self _, Nat.ne_of_gt (Nat.lt_succ_of_lt alt), Nat.ne_of_lt alt⟩, fun b hb => ?_, q⟩
  have ble : s1.heap.objs.size ≤ b := by
    rcases (show b = s1.heap.objs.size + 1 ∨ b = s1.heap.objs.size by simpa using hb) with z | z
    · rw [z]; exact Nat.le_add_right _ _
    · rw [z]; exact Nat.le_refl _
  exact I1.fpOk ble (I1.hok.fresh ble)
theorem for_enumT {K : PySem.W.Frag} {a : Addr} {xs : List V} {g : TG} {tb : TS} {D : Ends} {σ : L2.St} {H : Hp} (Pv : Nat → L2.St → Hp → Prop) (h0 : Pv 0 σ H) (hq : ∀ i σ H, Pv i σ H → SqT K H a xs)
    (hs : ∀ i x σ H, xs[i]? = some x → Pv i σ H → ∀ T, H T = none → g (.ref T) σ (upd H T (.tup [.int (i : Nat), x])) fun σ2 H2 => tb { D with nx := Pv (i + 1), ct := Pv (i + 1), bk := D.nx } σ2 H2) (hd : ∀ σ H, Pv xs.length σ H → D.nx σ H) :
    ∃ W : Nat → Nat → L2.St → Hp → Prop, (∃ m, W 0 m σ H) ∧ ∀ i m σ H, W i m σ H →
      ((IeT K a xs).stop i H ∧ D.nx σ H) ∨ ((IeT K a xs).go i H ∧ ∃ N : L2.St → Hp → Prop, (∀ σ' H', N σ' H' → ∃ m', m' < m ∧ W (i + 1) m' σ' H') ∧ ∀ x H', (IeT K a xs).yld i H x H' → g x σ H' fun σ2 H2 => tb { D with nx := N, ct := N, bk := D.nx } σ2 H2) := by
  refine ⟨fun i m σ H => i + m = xs.length ∧ Pv i σ H, ⟨xs.length, Nat.zero_add _, h0⟩, ?_⟩
  rintro i m σ H ⟨him, pv⟩
  by_cases lt : i < xs.length
  · refine .inr ⟨⟨hq i σ H pv, lt⟩, Pv (i + 1), fun σ' H' p' => ⟨m - 1, by omega, by omega, p'⟩, fun x H' y => ?_⟩
    obtain ⟨T, u, rfl, hT, rfl, hu⟩ := y
    exact hs i u σ H hu pv T hT
  · have ei : i = xs.length := by omega
    subst ei
    exact .inl ⟨⟨hq _ σ H pv, rfl⟩, hd σ H pv⟩
end HC
namespace HC
open PySem PySem.Spec PyProof.Rows L2
section
variable {P : Program} {w : World} {K : PySem.W.Frag} {mg : Str → Option Value} {base : Heap} {d : Ad}
abbrev sp_from_scallop_middle : Sp := spI1 (fun t => True) (fun t => .int (t % 24 - 12))
theorem sc_from_scallop_middle : FnScope ["t"] ["t"] (defScope s_from_scallop_middle) := ⟨rfl, rfl, rfl, by decide +kernel, rfl, by decide +kernel, by decide +kernel⟩
theorem ok_from_scallop_middle (T : Txt K mg d) : OkD P w K mg base CX0 1 d.f_from_scallop_middle ["t"] (sp_from_scallop_middle) := by
  obtain ⟨fd, F, B⟩ := T.k_from_scallop_middle.ex
  refine ⟨⟨fd, F.ok sc_from_scallop_middle (fun vs H Q E h => ?_) (fun cdv A outer s H vs Q E hr h => ?_), B⟩, F.kp⟩
  · obtain ⟨t, rfl, _⟩ := h
    rfl
  · obtain ⟨t, rfl, hC, k⟩ := h
    refine ⟨_, pss_one (ps_ret (pe_op op_sub (pe_op op_mod (pv 0) pe_int) pe_int)), ?_⟩
    refine ⟨_, rfl, _, _, rfl, rfl, (by show (0 : Int) < 24; decide), _, _, rfl, rfl, ?_⟩
    exact castI k (by (first | rfl | (skip; (repeat' split) <;> omega)))
abbrev sp_in_first_half : Sp := spI1 (fun t => True) (fun t => .bl (decide (t % 48 < 24)))
theorem sc_in_first_half : FnScope ["t"] ["t"] (defScope s_in_first_half) := ⟨rfl, rfl, rfl, by decide +kernel, rfl, by decide +kernel, by decide +kernel⟩
theorem ok_in_first_half (T : Txt K mg d) : OkD P w K mg base CX0 1 d.f_in_first_half ["t"] (sp_in_first_half) := by
  obtain ⟨fd, F, B⟩ := T.k_in_first_half.ex
  refine ⟨⟨fd, F.ok sc_in_first_half (fun vs H Q E h => ?_) (fun cdv A outer s H vs Q E hr h => ?_), B⟩, F.kp⟩
  · obtain ⟨t, rfl, _⟩ := h
    rfl
  · obtain ⟨t, rfl, hC, k⟩ := h
    refine ⟨_, pss_one (ps_ret (pe_cmpR op_lt (pe_op op_mod (pv 0) pe_int) pe_int (nomark _))), ?_⟩
    refine ⟨_, rfl, _, _, rfl, rfl, (by show (0 : Int) < 48; decide), _, _, rfl, rfl, ?_⟩
    exact castB k (by (first | rfl | (rw [Bool.eq_iff_iff]; simp only [decide_eq_true_eq, Bool.and_eq_true, Bool.or_eq_true, Bool.not_eq_true', decide_eq_false_iff_not, Bool.false_eq_true, reduceCtorEq, iff_false, iff_true] <;> omega)))
abbrev sp_straight : Sp := spI1 (fun t => True) (fun t => .int (Sh.off 0 t))
theorem sc_straight : FnScope ["t"] ["t"] (defScope s_straight) := ⟨rfl, rfl, rfl, by decide +kernel, rfl, by decide +kernel, by decide +kernel⟩
theorem ok_straight (T : Txt K mg d) : OkD P w K mg base CX0 1 d.f_straight ["t"] (sp_straight) := by
  obtain ⟨fd, F, B⟩ := T.k_straight.ex
  refine ⟨⟨fd, F.ok sc_straight (fun vs H Q E h => ?_) (fun cdv A outer s H vs Q E hr h => ?_), B⟩, F.kp⟩
  · obtain ⟨t, rfl, _⟩ := h
    rfl
  · obtain ⟨t, rfl, hC, k⟩ := h
    refine ⟨_, pss_one (ps_ret pe_int), ?_⟩
    exact castI k (by (first | rfl | (skip; (repeat' split) <;> omega)))
abbrev sp_wavy : Sp := spI1 (fun t => True) (fun t => .int (Sh.off 1 t))
theorem sc_wavy : FnScope ["t", "w"] ["t"] (defScope s_wavy) := ⟨rfl, rfl, rfl, by decide +kernel, rfl, by decide +kernel, by decide +kernel⟩
theorem ok_wavy (T : Txt K mg d) : OkD P w K mg base CX0 2 d.f_wavy ["t"] (sp_wavy) := by
  obtain ⟨fd, F, B⟩ := T.k_wavy.ex
  obtain ⟨⟨fd_from_scallop_middle, G_from_scallop_middle, B_from_scallop_middle⟩, kp_from_scallop_middle⟩ := ok_from_scallop_middle (P := P) (w := w) (base := base) T
  obtain ⟨⟨fd_in_first_half, G_in_first_half, B_in_first_half⟩, kp_in_first_half⟩ := ok_in_first_half (P := P) (w := w) (base := base) T
  refine ⟨⟨fd, F.ok sc_wavy (fun vs H Q E h => ?_) (fun cdv A outer s H vs Q E hr h => ?_), B⟩, F.kp⟩
  · obtain ⟨t, rfl, _⟩ := h
    rfl
  · obtain ⟨t, rfl, hC, k⟩ := h
    have hr_from_scallop_middle : Room 1 _ := hr.mono (by decide)
    have hr_in_first_half : Room 1 _ := hr.mono (by decide)
    refine ⟨_, pss_cons (ps_set (i := 1) sc_wavy.nd rfl (Or.inl rfl) (pe_call G_from_scallop_middle hr_from_scallop_middle rfl T.k_from_scallop_middle.gl kp_from_scallop_middle B_from_scallop_middle .nil pass0 (pa_cons (pv 0) pa_nil)))
      (pss_cons (ps_if (pt_val (pe_call G_in_first_half hr_in_first_half rfl T.k_in_first_half.gl kp_in_first_half B_in_first_half .nil pass0 (pa_cons (pv 0) pa_nil)))
        (pss_one (ps_ret (pe_op op_sub pe_int (pe_op op_fdiv (pe_op op_mul (pv 1) (pv 1)) pe_int))))
        pss_nil)
      (pss_one (ps_ret (pe_op op_sub (pe_op op_fdiv (pe_op op_mul (pv 1) (pv 1)) pe_int) pe_int)))), ?_⟩
    refine ⟨_, rfl, _, rfl, trivial, _, rfl, _, rfl, trivial, _, rfl, ?_⟩
    refine ite2 (fun c1 => ?_) (fun c1 => ?_)
    · refine ⟨_, rfl, _, rfl, _, _, rfl, rfl, (by first | (apply Or.inl; constructor <;> (first | decide | omega)) | (apply Or.inr; constructor <;> (first | decide | omega))), _, _, rfl, rfl, (by constructor <;> first | decide | omega), _, _, rfl, rfl, ?_⟩
      exact castI k (by (try simp only [decide_eq_true_eq, Bool.not_eq_true, decide_eq_false_iff_not, beq_iff_eq, Bool.not_eq_true', Bool.true_eq_false, reduceCtorEq, not_true_eq_false] at c1) <;> (first | rfl | (simp only [off_1]; (repeat' split) <;> omega)))
    · refine ⟨_, rfl, _, rfl, _, _, rfl, rfl, (by first | (apply Or.inl; constructor <;> (first | decide | omega)) | (apply Or.inr; constructor <;> (first | decide | omega))), _, _, rfl, rfl, (by constructor <;> first | decide | omega), _, _, rfl, rfl, ?_⟩
      exact castI k (by (try simp only [decide_eq_true_eq, Bool.not_eq_true, decide_eq_false_iff_not, beq_iff_eq, Bool.not_eq_true', Bool.true_eq_false, reduceCtorEq, not_true_eq_false] at c1) <;> (first | rfl | (simp only [off_1]; (repeat' split) <;> omega)))
abbrev sp_embattled : Sp := spI1 (fun t => True) (fun t => .int (Sh.off 2 t))
theorem sc_embattled : FnScope ["t"] ["t"] (defScope s_embattled) := ⟨rfl, rfl, rfl, by decide +kernel, rfl, by decide +kernel, by decide +kernel⟩
theorem ok_embattled (T : Txt K mg d) : OkD P w K mg base CX0 2 d.f_embattled ["t"] (sp_embattled) := by
  obtain ⟨fd, F, B⟩ := T.k_embattled.ex
  obtain ⟨⟨fd_in_first_half, G_in_first_half, B_in_first_half⟩, kp_in_first_half⟩ := ok_in_first_half (P := P) (w := w) (base := base) T
  refine ⟨⟨fd, F.ok sc_embattled (fun vs H Q E h => ?_) (fun cdv A outer s H vs Q E hr h => ?_), B⟩, F.kp⟩
  · obtain ⟨t, rfl, _⟩ := h
    rfl
  · obtain ⟨t, rfl, hC, k⟩ := h
    have hr_in_first_half : Room 1 _ := hr.mono (by decide)
    refine ⟨_, pss_one (ps_ret (pe_ifExp (pt_val (pe_call G_in_first_half hr_in_first_half rfl T.k_in_first_half.gl kp_in_first_half B_in_first_half .nil pass0 (pa_cons (pv 0) pa_nil))) pe_int (pe_un un_neg pe_int))), ?_⟩
    refine ⟨_, rfl, _, rfl, trivial, _, rfl, ?_⟩
    refine ite2 (fun c1 => ?_) (fun c1 => ?_)
    · exact castI k (by (try simp only [decide_eq_true_eq, Bool.not_eq_true, decide_eq_false_iff_not, beq_iff_eq, Bool.not_eq_true', Bool.true_eq_false, reduceCtorEq, not_true_eq_false] at c1) <;> (first | rfl | (simp only [off_2]; (repeat' split) <;> omega)))
    · refine ⟨_, rfl, ?_⟩
      exact castI k (by (try simp only [decide_eq_true_eq, Bool.not_eq_true, decide_eq_false_iff_not, beq_iff_eq, Bool.not_eq_true', Bool.true_eq_false, reduceCtorEq, not_true_eq_false] at c1) <;> (first | rfl | (simp only [off_2]; (repeat' split) <;> omega)))
abbrev sp_indented : Sp := spI1 (fun t => True) (fun t => .int (Sh.off 3 t))
theorem sc_indented : FnScope ["t", "u"] ["t"] (defScope s_indented) := ⟨rfl, rfl, rfl, by decide +kernel, rfl, by decide +kernel, by decide +kernel⟩
theorem ok_indented (T : Txt K mg d) : OkD P w K mg base CX0 2 d.f_indented ["t"] (sp_indented) := by
  obtain ⟨fd, F, B⟩ := T.k_indented.ex
  obtain ⟨⟨fd_in_first_half, G_in_first_half, B_in_first_half⟩, kp_in_first_half⟩ := ok_in_first_half (P := P) (w := w) (base := base) T
  refine ⟨⟨fd, F.ok sc_indented (fun vs H Q E h => ?_) (fun cdv A outer s H vs Q E hr h => ?_), B⟩, F.kp⟩
  · obtain ⟨t, rfl, _⟩ := h
    rfl
  · obtain ⟨t, rfl, hC, k⟩ := h
    have hr_in_first_half : Room 1 _ := hr.mono (by decide)
    refine ⟨_, pss_cons (ps_set (i := 1) sc_indented.nd rfl (Or.inl rfl) (pe_op op_mod (pv 0) pe_int))
      (pss_one (ps_ret (pe_ifExp (pt_val (pe_call G_in_first_half hr_in_first_half rfl T.k_in_first_half.gl kp_in_first_half B_in_first_half .nil pass0 (pa_cons (pv 0) pa_nil))) (pe_op op_sub (pv 1) pe_int) (pe_op op_sub pe_int (pv 1))))), ?_⟩
    refine ⟨_, rfl, _, _, rfl, rfl, (by show (0 : Int) < 48; decide), _, rfl, _, rfl, trivial, _, rfl, ?_⟩
    refine ite2 (fun c1 => ?_) (fun c1 => ?_)
    · refine ⟨_, rfl, _, _, rfl, rfl, ?_⟩
      exact castI k (by (try simp only [decide_eq_true_eq, Bool.not_eq_true, decide_eq_false_iff_not, beq_iff_eq, Bool.not_eq_true', Bool.true_eq_false, reduceCtorEq, not_true_eq_false] at c1) <;> (first | rfl | (simp only [off_3]; (repeat' split) <;> omega)))
    · refine ⟨_, rfl, _, _, rfl, rfl, ?_⟩
      exact castI k (by (try simp only [decide_eq_true_eq, Bool.not_eq_true, decide_eq_false_iff_not, beq_iff_eq, Bool.not_eq_true', Bool.true_eq_false, reduceCtorEq, not_true_eq_false] at c1) <;> (first | rfl | (simp only [off_3]; (repeat' split) <;> omega)))
abbrev sp_engrailed : Sp := spI1 (fun t => True) (fun t => .int (Sh.off 4 t))
theorem sc_engrailed : FnScope ["t", "w"] ["t"] (defScope s_engrailed) := ⟨rfl, rfl, rfl, by decide +kernel, rfl, by decide +kernel, by decide +kernel⟩
theorem ok_engrailed (T : Txt K mg d) : OkD P w K mg base CX0 2 d.f_engrailed ["t"] (sp_engrailed) := by
  obtain ⟨fd, F, B⟩ := T.k_engrailed.ex
  obtain ⟨⟨fd_from_scallop_middle, G_from_scallop_middle, B_from_scallop_middle⟩, kp_from_scallop_middle⟩ := ok_from_scallop_middle (P := P) (w := w) (base := base) T
  refine ⟨⟨fd, F.ok sc_engrailed (fun vs H Q E h => ?_) (fun cdv A outer s H vs Q E hr h => ?_), B⟩, F.kp⟩
  · obtain ⟨t, rfl, _⟩ := h
    rfl
  · obtain ⟨t, rfl, hC, k⟩ := h
    have hr_from_scallop_middle : Room 1 _ := hr.mono (by decide)
    refine ⟨_, pss_cons (ps_set (i := 1) sc_engrailed.nd rfl (Or.inl rfl) (pe_call G_from_scallop_middle hr_from_scallop_middle rfl T.k_from_scallop_middle.gl kp_from_scallop_middle B_from_scallop_middle .nil pass0 (pa_cons (pv 0) pa_nil)))
      (pss_one (ps_ret (pe_op op_sub (pe_op op_fdiv (pe_op op_mul (pv 1) (pv 1)) pe_int) pe_int))), ?_⟩
    refine ⟨_, rfl, _, rfl, trivial, _, rfl, _, rfl, _, _, rfl, rfl, (by first | (apply Or.inl; constructor <;> (first | decide | omega)) | (apply Or.inr; constructor <;> (first | decide | omega))), _, _, rfl, rfl, (by constructor <;> first | decide | omega), _, _, rfl, rfl, ?_⟩
    exact castI k (by (first | rfl | (simp only [off_4]; (repeat' split) <;> omega)))
abbrev sp_invected : Sp := spI1 (fun t => True) (fun t => .int (Sh.off 5 t))
theorem sc_invected : FnScope ["t"] ["t"] (defScope s_invected) := ⟨rfl, rfl, rfl, by decide +kernel, rfl, by decide +kernel, by decide +kernel⟩
theorem ok_invected (T : Txt K mg d) : OkD P w K mg base CX0 3 d.f_invected ["t"] (sp_invected) := by
  obtain ⟨fd, F, B⟩ := T.k_invected.ex
  obtain ⟨⟨fd_engrailed, G_engrailed, B_engrailed⟩, kp_engrailed⟩ := ok_engrailed (P := P) (w := w) (base := base) T
  refine ⟨⟨fd, F.ok sc_invected (fun vs H Q E h => ?_) (fun cdv A outer s H vs Q E hr h => ?_), B⟩, F.kp⟩
  · obtain ⟨t, rfl, _⟩ := h
    rfl
  · obtain ⟨t, rfl, hC, k⟩ := h
    have hr_engrailed : Room 2 _ := hr.mono (by decide)
    refine ⟨_, pss_one (ps_ret (pe_un un_neg (pe_call G_engrailed hr_engrailed rfl T.k_engrailed.gl kp_engrailed B_engrailed .nil pass0 (pa_cons (pv 0) pa_nil)))), ?_⟩
    refine ⟨_, rfl, _, rfl, trivial, _, rfl, ?_⟩
    exact castI k (by (first | rfl | (simp only [off_5, off_4]; (repeat' split) <;> omega)))
abbrev sp_mirrored : Sp := spI1 (fun p => True) (fun p => .int (Sh.flip p))
theorem sc_mirrored : FnScope ["p"] ["p"] (defScope s_mirrored) := ⟨rfl, rfl, rfl, by decide +kernel, rfl, by decide +kernel, by decide +kernel⟩
theorem ok_mirrored (T : Txt K mg d) : OkD P w K mg base CX0 1 d.f_mirrored ["p"] (sp_mirrored) := by
  obtain ⟨fd, F, B⟩ := T.k_mirrored.ex
  obtain ⟨c_WIDTH, m_WIDTH⟩ := T.nWIDTH
  refine ⟨⟨fd, F.ok sc_mirrored (fun vs H Q E h => ?_) (fun cdv A outer s H vs Q E hr h => ?_), B⟩, F.kp⟩
  · obtain ⟨p, rfl, _⟩ := h
    rfl
  · obtain ⟨p, rfl, hC, k⟩ := h
    refine ⟨_, pss_one (ps_ret (pe_op op_sub (pe_op op_sub (pgi m_WIDTH) pe_int) (pv 0))), ?_⟩
    refine ⟨_, _, rfl, rfl, _, rfl, _, _, rfl, rfl, ?_⟩
    exact castI k (by (first | rfl | (simp only [Sh.flip]; (repeat' split) <;> omega)))
abbrev sp_from_middle : Sp := spI1 (fun p => True) (fun p => .int (Sh.dist p))
theorem sc_from_middle : FnScope ["p"] ["p"] (defScope s_from_middle) := ⟨rfl, rfl, rfl, by decide +kernel, rfl, by decide +kernel, by decide +kernel⟩
theorem ok_from_middle (T : Txt K mg d) : OkD P w K mg base CX0 1 d.f_from_middle ["p"] (sp_from_middle) := by
  obtain ⟨fd, F, B⟩ := T.k_from_middle.ex
  refine ⟨⟨fd, F.ok sc_from_middle (fun vs H Q E h => ?_) (fun cdv A outer s H vs Q E hr h => ?_), B⟩, F.kp⟩
  · obtain ⟨p, rfl, _⟩ := h
    rfl
  · obtain ⟨p, rfl, hC, k⟩ := h
    refine ⟨_, pss_one (ps_ret (pe_callB call_abs (by rfl) T.b_abs (by decide +kernel) (pa_cons (pe_op op_sub (pv 0) pe_int) pa_nil))), ?_⟩
    refine ⟨_, rfl, _, _, rfl, rfl, _, rfl, ?_⟩
    exact castI k (by (first | rfl | (simp only [Sh.dist]; (repeat' split) <;> omega)))
abbrev sp_over_bend : Sp := spI2 (fun p r => True) (fun p r => .int (Sh.diag p r))
theorem sc_over_bend : FnScope ["p", "r"] ["p", "r"] (defScope s_over_bend) := ⟨rfl, rfl, rfl, by decide +kernel, rfl, by decide +kernel, by decide +kernel⟩
theorem ok_over_bend (T : Txt K mg d) : OkD P w K mg base CX0 1 d.f_over_bend ["p", "r"] (sp_over_bend) := by
  obtain ⟨fd, F, B⟩ := T.k_over_bend.ex
  refine ⟨⟨fd, F.ok sc_over_bend (fun vs H Q E h => ?_) (fun cdv A outer s H vs Q E hr h => ?_), B⟩, F.kp⟩
  · obtain ⟨p, r, rfl, _⟩ := h
    rfl
  · obtain ⟨p, r, rfl, hC, k⟩ := h
    refine ⟨_, pss_one (ps_ret (pe_op op_sub (pe_op op_mul pe_int (pv 0)) (pe_op op_mul pe_int (pv 1)))), ?_⟩
    refine ⟨_, rfl, _, _, rfl, rfl, (by first | (apply Or.inl; constructor <;> (first | decide | omega)) | (apply Or.inr; constructor <;> (first | decide | omega))), _, rfl, _, _, rfl, rfl, (by first | (apply Or.inl; constructor <;> (first | decide | omega)) | (apply Or.inr; constructor <;> (first | decide | omega))), _, _, rfl, rfl, ?_⟩
    exact castI k (by (first | rfl | (skip; (repeat' split) <;> omega)))
abbrev sp_along_bend : Sp := spI2 (fun p r => True) (fun p r => .int (Sh.along p r))
theorem sc_along_bend : FnScope ["p", "r"] ["p", "r"] (defScope s_along_bend) := ⟨rfl, rfl, rfl, by decide +kernel, rfl, by decide +kernel, by decide +kernel⟩
theorem ok_along_bend (T : Txt K mg d) : OkD P w K mg base CX0 1 d.f_along_bend ["p", "r"] (sp_along_bend) := by
  obtain ⟨fd, F, B⟩ := T.k_along_bend.ex
  refine ⟨⟨fd, F.ok sc_along_bend (fun vs H Q E h => ?_) (fun cdv A outer s H vs Q E hr h => ?_), B⟩, F.kp⟩
  · obtain ⟨p, r, rfl, _⟩ := h
    rfl
  · obtain ⟨p, r, rfl, hC, k⟩ := h
    refine ⟨_, pss_one (ps_ret (pe_op op_fdiv (pe_op op_add (pe_op op_mul pe_int (pv 0)) (pe_op op_mul pe_int (pv 1))) pe_int)), ?_⟩
    refine ⟨_, rfl, _, _, rfl, rfl, (by first | (apply Or.inl; constructor <;> (first | decide | omega)) | (apply Or.inr; constructor <;> (first | decide | omega))), _, rfl, _, _, rfl, rfl, (by first | (apply Or.inl; constructor <;> (first | decide | omega)) | (apply Or.inr; constructor <;> (first | decide | omega))), _, _, rfl, rfl, _, _, rfl, rfl, (by constructor <;> first | decide | omega), ?_⟩
    exact castI k (by (first | rfl | (skip; (repeat' split) <;> omega)))
abbrev sp_offset : Sp := spI2 (fun line t => 0 ≤ line ∧ line ≤ 5) (fun line t => .int (Sh.off line.toNat t))
theorem sc_offset : FnScope ["line", "t"] ["line", "t"] (defScope s_offset) := ⟨rfl, rfl, rfl, by decide +kernel, rfl, by decide +kernel, by decide +kernel⟩
theorem ok_offset (T : Txt K mg d) : OkD P w K mg base CX0 4 d.f_offset ["line", "t"] (sp_offset) := by
  obtain ⟨fd, F, B⟩ := T.k_offset.ex
  obtain ⟨a_LINES, m_LINES, q_LINES⟩ := T.tLINES
  obtain ⟨⟨fd_straight, G_straight, B_straight⟩, kp_straight⟩ := ok_straight (P := P) (w := w) (base := base) T
  obtain ⟨⟨fd_wavy, G_wavy, B_wavy⟩, kp_wavy⟩ := ok_wavy (P := P) (w := w) (base := base) T
  obtain ⟨⟨fd_embattled, G_embattled, B_embattled⟩, kp_embattled⟩ := ok_embattled (P := P) (w := w) (base := base) T
  obtain ⟨⟨fd_indented, G_indented, B_indented⟩, kp_indented⟩ := ok_indented (P := P) (w := w) (base := base) T
  obtain ⟨⟨fd_engrailed, G_engrailed, B_engrailed⟩, kp_engrailed⟩ := ok_engrailed (P := P) (w := w) (base := base) T
  obtain ⟨⟨fd_invected, G_invected, B_invected⟩, kp_invected⟩ := ok_invected (P := P) (w := w) (base := base) T
  refine ⟨⟨fd, F.ok sc_offset (fun vs H Q E h => ?_) (fun cdv A outer s H vs Q E hr h => ?_), B⟩, F.kp⟩
  · obtain ⟨line, t, rfl, _⟩ := h
    rfl
  · obtain ⟨line, t, rfl, hC, k⟩ := h
    have hr_LINES : Room 3 _ := hr.mono (by decide)
    refine ⟨_, pss_one (ps_ret (pe_callE hr_LINES (pe_ix ix_tup (pe_glob (v := .ref a_LINES) rfl m_LINES rfl) (pv 0) (fun _ _ => rfl)) (pa_cons (pv 1) pa_nil))), ?_⟩
    rcases (show line = 0 ∨ line = 1 ∨ line = 2 ∨ line = 3 ∨ line = 4 ∨ line = 5 by omega) with rfl | rfl | rfl | rfl | rfl | rfl
    · refine ⟨_, rfl, _, _, _, _, rfl, rfl, q_LINES _, (by rfl), _, sp_straight, rfl, ⟨_, _, _, (by decide), G_straight, B_straight, kp_straight⟩, _, rfl, _, rfl, trivial, ?_⟩
      exact castI k (by (first | rfl | (skip; (repeat' split) <;> omega)))
    · refine ⟨_, rfl, _, _, _, _, rfl, rfl, q_LINES _, (by rfl), _, sp_wavy, rfl, ⟨_, _, _, (by decide), G_wavy, B_wavy, kp_wavy⟩, _, rfl, _, rfl, trivial, ?_⟩
      exact castI k (by (first | rfl | (skip; (repeat' split) <;> omega)))
    · refine ⟨_, rfl, _, _, _, _, rfl, rfl, q_LINES _, (by rfl), _, sp_embattled, rfl, ⟨_, _, _, (by decide), G_embattled, B_embattled, kp_embattled⟩, _, rfl, _, rfl, trivial, ?_⟩
      exact castI k (by (first | rfl | (skip; (repeat' split) <;> omega)))
    · refine ⟨_, rfl, _, _, _, _, rfl, rfl, q_LINES _, (by rfl), _, sp_indented, rfl, ⟨_, _, _, (by decide), G_indented, B_indented, kp_indented⟩, _, rfl, _, rfl, trivial, ?_⟩
      exact castI k (by (first | rfl | (skip; (repeat' split) <;> omega)))
    · refine ⟨_, rfl, _, _, _, _, rfl, rfl, q_LINES _, (by rfl), _, sp_engrailed, rfl, ⟨_, _, _, (by decide), G_engrailed, B_engrailed, kp_engrailed⟩, _, rfl, _, rfl, trivial, ?_⟩
      exact castI k (by (first | rfl | (skip; (repeat' split) <;> omega)))
    · refine ⟨_, rfl, _, _, _, _, rfl, rfl, q_LINES _, (by rfl), _, sp_invected, rfl, ⟨_, _, _, (by decide), G_invected, B_invected, kp_invected⟩, _, rfl, _, rfl, trivial, ?_⟩
      exact castI k (by (first | rfl | (skip; (repeat' split) <;> omega)))
end
end HC
namespace HC
open PySem PySem.Spec PyProof.Rows L2
section
variable {P : Program} {w : World} {K : PySem.W.Frag} {mg : Str → Option Value} {base : Heap} {d : Ad}
abbrev sp_per_pale : Sp := spI3 (fun line p r => 0 ≤ line ∧ line ≤ 5) (fun line p r => .bl (Sh.firstAt 0 line.toNat p r))
theorem sc_per_pale : FnScope ["line", "p", "r"] ["line", "p", "r"] (defScope s_per_pale) := ⟨rfl, rfl, rfl, by decide +kernel, rfl, by decide +kernel, by decide +kernel⟩
theorem ok_per_pale (T : Txt K mg d) : OkD P w K mg base CX0 5 d.f_per_pale ["line", "p", "r"] (sp_per_pale) := by
  obtain ⟨fd, F, B⟩ := T.k_per_pale.ex
  obtain ⟨⟨fd_offset, G_offset, B_offset⟩, kp_offset⟩ := ok_offset (P := P) (w := w) (base := base) T
  refine ⟨⟨fd, F.ok sc_per_pale (fun vs H Q E h => ?_) (fun cdv A outer s H vs Q E hr h => ?_), B⟩, F.kp⟩
  · obtain ⟨line, p, r, rfl, _⟩ := h
    rfl
  · obtain ⟨line, p, r, rfl, hC, k⟩ := h
    have hr_offset : Room 4 _ := hr.mono (by decide)
    refine ⟨_, pss_one (ps_ret (pe_cmpR op_lt (pv 1) (pe_op op_add pe_int (pe_call G_offset hr_offset rfl T.k_offset.gl kp_offset B_offset .nil pass0 (pa_cons (pv 0) (pa_cons (pv 2) pa_nil)))) (nomark _))), ?_⟩
    refine ⟨_, rfl, _, rfl, _, rfl, _, _, rfl, (by first | trivial | assumption | omega), _, _, rfl, rfl, _, _, rfl, rfl, ?_⟩
    exact castB k (by (first | rfl | (rw [Bool.eq_iff_iff]; simp only [decide_eq_true_eq, Bool.and_eq_true, Bool.or_eq_true, Bool.not_eq_true', decide_eq_false_iff_not, Bool.false_eq_true, reduceCtorEq, iff_false, iff_true] <;> omega)))
abbrev sp_per_fess : Sp := spI3 (fun line p r => 0 ≤ line ∧ line ≤ 5) (fun line p r => .bl (Sh.firstAt 1 line.toNat p r))
theorem sc_per_fess : FnScope ["line", "p", "r"] ["line", "p", "r"] (defScope s_per_fess) := ⟨rfl, rfl, rfl, by decide +kernel, rfl, by decide +kernel, by decide +kernel⟩
theorem ok_per_fess (T : Txt K mg d) : OkD P w K mg base CX0 5 d.f_per_fess ["line", "p", "r"] (sp_per_fess) := by
  obtain ⟨fd, F, B⟩ := T.k_per_fess.ex
  obtain ⟨⟨fd_offset, G_offset, B_offset⟩, kp_offset⟩ := ok_offset (P := P) (w := w) (base := base) T
  refine ⟨⟨fd, F.ok sc_per_fess (fun vs H Q E h => ?_) (fun cdv A outer s H vs Q E hr h => ?_), B⟩, F.kp⟩
  · obtain ⟨line, p, r, rfl, _⟩ := h
    rfl
  · obtain ⟨line, p, r, rfl, hC, k⟩ := h
    have hr_offset : Room 4 _ := hr.mono (by decide)
    refine ⟨_, pss_one (ps_ret (pe_cmpR op_lt (pv 2) (pe_op op_add pe_int (pe_call G_offset hr_offset rfl T.k_offset.gl kp_offset B_offset .nil pass0 (pa_cons (pv 0) (pa_cons (pv 1) pa_nil)))) (nomark _))), ?_⟩
    refine ⟨_, rfl, _, rfl, _, rfl, _, _, rfl, (by first | trivial | assumption | omega), _, _, rfl, rfl, _, _, rfl, rfl, ?_⟩
    exact castB k (by (first | rfl | (rw [Bool.eq_iff_iff]; simp only [decide_eq_true_eq, Bool.and_eq_true, Bool.or_eq_true, Bool.not_eq_true', decide_eq_false_iff_not, Bool.false_eq_true, reduceCtorEq, iff_false, iff_true] <;> omega)))
abbrev sp_per_bend : Sp := spI3 (fun line p r => 0 ≤ line ∧ line ≤ 5) (fun line p r => .bl (Sh.firstAt 2 line.toNat p r))
theorem sc_per_bend : FnScope ["line", "p", "r"] ["line", "p", "r"] (defScope s_per_bend) := ⟨rfl, rfl, rfl, by decide +kernel, rfl, by decide +kernel, by decide +kernel⟩
theorem ok_per_bend (T : Txt K mg d) : OkD P w K mg base CX0 5 d.f_per_bend ["line", "p", "r"] (sp_per_bend) := by
  obtain ⟨fd, F, B⟩ := T.k_per_bend.ex
  obtain ⟨⟨fd_over_bend, G_over_bend, B_over_bend⟩, kp_over_bend⟩ := ok_over_bend (P := P) (w := w) (base := base) T
  obtain ⟨⟨fd_offset, G_offset, B_offset⟩, kp_offset⟩ := ok_offset (P := P) (w := w) (base := base) T
  obtain ⟨⟨fd_along_bend, G_along_bend, B_along_bend⟩, kp_along_bend⟩ := ok_along_bend (P := P) (w := w) (base := base) T
  refine ⟨⟨fd, F.ok sc_per_bend (fun vs H Q E h => ?_) (fun cdv A outer s H vs Q E hr h => ?_), B⟩, F.kp⟩
  · obtain ⟨line, p, r, rfl, _⟩ := h
    rfl
  · obtain ⟨line, p, r, rfl, hC, k⟩ := h
    have hr_over_bend : Room 1 _ := hr.mono (by decide)
    have hr_offset : Room 4 _ := hr.mono (by decide)
    have hr_along_bend : Room 1 _ := hr.mono (by decide)
    refine ⟨_, pss_one (ps_ret (pe_cmpR op_gt (pe_call G_over_bend hr_over_bend rfl T.k_over_bend.gl kp_over_bend B_over_bend .nil pass0 (pa_cons (pv 1) (pa_cons (pv 2) pa_nil))) (pe_op op_mul pe_int (pe_call G_offset hr_offset rfl T.k_offset.gl kp_offset B_offset .nil pass0 (pa_cons (pv 0) (pa_cons (pe_call G_along_bend hr_along_bend rfl T.k_along_bend.gl kp_along_bend B_along_bend .nil pass0 (pa_cons (pv 1) (pa_cons (pv 2) pa_nil))) pa_nil)))) (nomark _))), ?_⟩
    refine ⟨_, rfl, _, rfl, _, _, rfl, trivial, _, rfl, _, rfl, _, rfl, _, _, rfl, trivial, _, _, rfl, (by first | trivial | assumption | omega), _, _, rfl, rfl, (by first | (apply Or.inl; constructor <;> (first | decide | omega)) | (apply Or.inr; constructor <;> (first | decide | omega))), _, _, rfl, rfl, ?_⟩
    exact castB k (by (first | rfl | (rw [Bool.eq_iff_iff]; simp only [decide_eq_true_eq, Bool.and_eq_true, Bool.or_eq_true, Bool.not_eq_true', decide_eq_false_iff_not, Bool.false_eq_true, reduceCtorEq, iff_false, iff_true] <;> omega)))
abbrev sp_per_bend_sinister : Sp := spI3 (fun line p r => 0 ≤ line ∧ line ≤ 5) (fun line p r => .bl (Sh.firstAt 3 line.toNat p r))
theorem sc_per_bend_sinister : FnScope ["line", "p", "r"] ["line", "p", "r"] (defScope s_per_bend_sinister) := ⟨rfl, rfl, rfl, by decide +kernel, rfl, by decide +kernel, by decide +kernel⟩
theorem ok_per_bend_sinister (T : Txt K mg d) : OkD P w K mg base CX0 6 d.f_per_bend_sinister ["line", "p", "r"] (sp_per_bend_sinister) := by
  obtain ⟨fd, F, B⟩ := T.k_per_bend_sinister.ex
  obtain ⟨⟨fd_per_bend, G_per_bend, B_per_bend⟩, kp_per_bend⟩ := ok_per_bend (P := P) (w := w) (base := base) T
  obtain ⟨⟨fd_mirrored, G_mirrored, B_mirrored⟩, kp_mirrored⟩ := ok_mirrored (P := P) (w := w) (base := base) T
  refine ⟨⟨fd, F.ok sc_per_bend_sinister (fun vs H Q E h => ?_) (fun cdv A outer s H vs Q E hr h => ?_), B⟩, F.kp⟩
  · obtain ⟨line, p, r, rfl, _⟩ := h
    rfl
  · obtain ⟨line, p, r, rfl, hC, k⟩ := h
    have hr_per_bend : Room 5 _ := hr.mono (by decide)
    have hr_mirrored : Room 1 _ := hr.mono (by decide)
    refine ⟨_, pss_one (ps_ret (pe_call G_per_bend hr_per_bend rfl T.k_per_bend.gl kp_per_bend B_per_bend .nil pass0 (pa_cons (pv 0) (pa_cons (pe_call G_mirrored hr_mirrored rfl T.k_mirrored.gl kp_mirrored B_mirrored .nil pass0 (pa_cons (pv 1) pa_nil)) (pa_cons (pv 2) pa_nil))))), ?_⟩
    refine ⟨_, rfl, _, rfl, _, rfl, trivial, _, rfl, _, _, _, rfl, (by first | trivial | assumption | omega), ?_⟩
    exact castB k (by (first | rfl | (rw [Bool.eq_iff_iff]; simp only [decide_eq_true_eq, Bool.and_eq_true, Bool.or_eq_true, Bool.not_eq_true', decide_eq_false_iff_not, Bool.false_eq_true, reduceCtorEq, iff_false, iff_true] <;> omega)))
abbrev sp_per_chevron : Sp := spI3 (fun line p r => 0 ≤ line ∧ line ≤ 5) (fun line p r => .bl (Sh.firstAt 4 line.toNat p r))
theorem sc_per_chevron : FnScope ["line", "p", "r"] ["line", "p", "r"] (defScope s_per_chevron) := ⟨rfl, rfl, rfl, by decide +kernel, rfl, by decide +kernel, by decide +kernel⟩
theorem ok_per_chevron (T : Txt K mg d) : OkD P w K mg base CX0 5 d.f_per_chevron ["line", "p", "r"] (sp_per_chevron) := by
  obtain ⟨fd, F, B⟩ := T.k_per_chevron.ex
  obtain ⟨⟨fd_offset, G_offset, B_offset⟩, kp_offset⟩ := ok_offset (P := P) (w := w) (base := base) T
  obtain ⟨⟨fd_from_middle, G_from_middle, B_from_middle⟩, kp_from_middle⟩ := ok_from_middle (P := P) (w := w) (base := base) T
  refine ⟨⟨fd, F.ok sc_per_chevron (fun vs H Q E h => ?_) (fun cdv A outer s H vs Q E hr h => ?_), B⟩, F.kp⟩
  · obtain ⟨line, p, r, rfl, _⟩ := h
    rfl
  · obtain ⟨line, p, r, rfl, hC, k⟩ := h
    have hr_offset : Room 4 _ := hr.mono (by decide)
    have hr_from_middle : Room 1 _ := hr.mono (by decide)
    refine ⟨_, pss_one (ps_ret (pe_cmpR op_lt (pv 2) (pe_op op_add (pe_op op_add pe_int (pe_call G_from_middle hr_from_middle rfl T.k_from_middle.gl kp_from_middle B_from_middle .nil pass0 (pa_cons (pv 1) pa_nil))) (pe_call G_offset hr_offset rfl T.k_offset.gl kp_offset B_offset .nil pass0 (pa_cons (pv 0) (pa_cons (pv 1) pa_nil)))) (nomark _))), ?_⟩
    refine ⟨_, rfl, _, rfl, _, rfl, trivial, _, _, rfl, rfl, _, rfl, _, rfl, _, _, rfl, (by first | trivial | assumption | omega), _, _, rfl, rfl, _, _, rfl, rfl, ?_⟩
    exact castB k (by (first | rfl | (rw [Bool.eq_iff_iff]; simp only [decide_eq_true_eq, Bool.and_eq_true, Bool.or_eq_true, Bool.not_eq_true', decide_eq_false_iff_not, Bool.false_eq_true, reduceCtorEq, iff_false, iff_true] <;> omega)))
abbrev sp_per_saltire : Sp := spI3 (fun line p r => 0 ≤ line ∧ line ≤ 5) (fun line p r => .bl (Sh.firstAt 5 line.toNat p r))
theorem sc_per_saltire : FnScope ["line", "p", "r"] ["line", "p", "r"] (defScope s_per_saltire) := ⟨rfl, rfl, rfl, by decide +kernel, rfl, by decide +kernel, by decide +kernel⟩
theorem ok_per_saltire (T : Txt K mg d) : OkD P w K mg base CX0 7 d.f_per_saltire ["line", "p", "r"] (sp_per_saltire) := by
  obtain ⟨fd, F, B⟩ := T.k_per_saltire.ex
  obtain ⟨⟨fd_per_bend, G_per_bend, B_per_bend⟩, kp_per_bend⟩ := ok_per_bend (P := P) (w := w) (base := base) T
  obtain ⟨⟨fd_per_bend_sinister, G_per_bend_sinister, B_per_bend_sinister⟩, kp_per_bend_sinister⟩ := ok_per_bend_sinister (P := P) (w := w) (base := base) T
  refine ⟨⟨fd, F.ok sc_per_saltire (fun vs H Q E h => ?_) (fun cdv A outer s H vs Q E hr h => ?_), B⟩, F.kp⟩
  · obtain ⟨line, p, r, rfl, _⟩ := h
    rfl
  · obtain ⟨line, p, r, rfl, hC, k⟩ := h
    have hr_per_bend : Room 5 _ := hr.mono (by decide)
    have hr_per_bend_sinister : Room 6 _ := hr.mono (by decide)
    refine ⟨_, pss_one (ps_ret (pe_cmpR op_eq (pe_call G_per_bend hr_per_bend rfl T.k_per_bend.gl kp_per_bend B_per_bend .nil pass0 (pa_cons (pv 0) (pa_cons (pv 1) (pa_cons (pv 2) pa_nil)))) (pe_call G_per_bend_sinister hr_per_bend_sinister rfl T.k_per_bend_sinister.gl kp_per_bend_sinister B_per_bend_sinister .nil pass0 (pa_cons (pv 0) (pa_cons (pv 1) (pa_cons (pv 2) pa_nil)))) (nomark _))), ?_⟩
    refine ⟨_, rfl, _, rfl, _, rfl, _, _, _, rfl, (by first | trivial | assumption | omega), _, rfl, _, rfl, _, rfl, _, _, _, rfl, (by first | trivial | assumption | omega), rfl, ?_⟩
    exact castB k (by rw [dec_bl]; rfl)
abbrev sp_per_cross : Sp := spI3 (fun line p r => 0 ≤ line ∧ line ≤ 5) (fun line p r => .bl (Sh.firstAt 6 line.toNat p r))
theorem sc_per_cross : FnScope ["line", "p", "r"] ["line", "p", "r"] (defScope s_per_cross) := ⟨rfl, rfl, rfl, by decide +kernel, rfl, by decide +kernel, by decide +kernel⟩
theorem ok_per_cross (T : Txt K mg d) : OkD P w K mg base CX0 6 d.f_per_cross ["line", "p", "r"] (sp_per_cross) := by
  obtain ⟨fd, F, B⟩ := T.k_per_cross.ex
  obtain ⟨⟨fd_per_pale, G_per_pale, B_per_pale⟩, kp_per_pale⟩ := ok_per_pale (P := P) (w := w) (base := base) T
  obtain ⟨⟨fd_per_fess, G_per_fess, B_per_fess⟩, kp_per_fess⟩ := ok_per_fess (P := P) (w := w) (base := base) T
  refine ⟨⟨fd, F.ok sc_per_cross (fun vs H Q E h => ?_) (fun cdv A outer s H vs Q E hr h => ?_), B⟩, F.kp⟩
  · obtain ⟨line, p, r, rfl, _⟩ := h
    rfl
  · obtain ⟨line, p, r, rfl, hC, k⟩ := h
    have hr_per_pale : Room 5 _ := hr.mono (by decide)
    have hr_per_fess : Room 5 _ := hr.mono (by decide)
    refine ⟨_, pss_one (ps_ret (pe_cmpR op_eq (pe_call G_per_pale hr_per_pale rfl T.k_per_pale.gl kp_per_pale B_per_pale .nil pass0 (pa_cons (pv 0) (pa_cons (pv 1) (pa_cons (pv 2) pa_nil)))) (pe_call G_per_fess hr_per_fess rfl T.k_per_fess.gl kp_per_fess B_per_fess .nil pass0 (pa_cons (pv 0) (pa_cons (pv 1) (pa_cons (pv 2) pa_nil)))) (nomark _))), ?_⟩
    refine ⟨_, rfl, _, rfl, _, rfl, _, _, _, rfl, (by first | trivial | assumption | omega), _, rfl, _, rfl, _, rfl, _, _, _, rfl, (by first | trivial | assumption | omega), rfl, ?_⟩
    exact castB k (by rw [dec_bl]; rfl)
abbrev sp_gyronny : Sp := spI3 (fun line p r => 0 ≤ line ∧ line ≤ 5) (fun line p r => .bl (Sh.firstAt 7 line.toNat p r))
theorem sc_gyronny : FnScope ["line", "p", "r"] ["line", "p", "r"] (defScope s_gyronny) := ⟨rfl, rfl, rfl, by decide +kernel, rfl, by decide +kernel, by decide +kernel⟩
theorem ok_gyronny (T : Txt K mg d) : OkD P w K mg base CX0 8 d.f_gyronny ["line", "p", "r"] (sp_gyronny) := by
  obtain ⟨fd, F, B⟩ := T.k_gyronny.ex
  obtain ⟨⟨fd_per_saltire, G_per_saltire, B_per_saltire⟩, kp_per_saltire⟩ := ok_per_saltire (P := P) (w := w) (base := base) T
  obtain ⟨⟨fd_per_cross, G_per_cross, B_per_cross⟩, kp_per_cross⟩ := ok_per_cross (P := P) (w := w) (base := base) T
  refine ⟨⟨fd, F.ok sc_gyronny (fun vs H Q E h => ?_) (fun cdv A outer s H vs Q E hr h => ?_), B⟩, F.kp⟩
  · obtain ⟨line, p, r, rfl, _⟩ := h
    rfl
  · obtain ⟨line, p, r, rfl, hC, k⟩ := h
    have hr_per_saltire : Room 7 _ := hr.mono (by decide)
    have hr_per_cross : Room 6 _ := hr.mono (by decide)
    refine ⟨_, pss_one (ps_ret (pe_cmpR op_ne (pe_call G_per_saltire hr_per_saltire rfl T.k_per_saltire.gl kp_per_saltire B_per_saltire .nil pass0 (pa_cons (pv 0) (pa_cons (pv 1) (pa_cons (pv 2) pa_nil)))) (pe_call G_per_cross hr_per_cross rfl T.k_per_cross.gl kp_per_cross B_per_cross .nil pass0 (pa_cons (pv 0) (pa_cons (pv 1) (pa_cons (pv 2) pa_nil)))) (nomark _))), ?_⟩
    refine ⟨_, rfl, _, rfl, _, rfl, _, _, _, rfl, (by first | trivial | assumption | omega), _, rfl, _, rfl, _, rfl, _, _, _, rfl, (by first | trivial | assumption | omega), rfl, ?_⟩
    exact castB k (by rw [dec_bl]; rfl)
abbrev sp_barry : Sp := spI4 (fun pieces line p r => 0 ≤ line ∧ line ≤ 5 ∧ 0 ≤ pieces ∧ pieces ≤ 24) (fun pieces line p r => .int (Sh.pieceAt 0 pieces line.toNat p r))
theorem sc_barry : FnScope ["pieces", "line", "p", "r"] ["pieces", "line", "p", "r"] (defScope s_barry) := ⟨rfl, rfl, rfl, by decide +kernel, rfl, by decide +kernel, by decide +kernel⟩
theorem ok_barry (T : Txt K mg d) : OkD P w K mg base CX0 5 d.f_barry ["pieces", "line", "p", "r"] (sp_barry) := by
  obtain ⟨fd, F, B⟩ := T.k_barry.ex
  obtain ⟨⟨fd_offset, G_offset, B_offset⟩, kp_offset⟩ := ok_offset (P := P) (w := w) (base := base) T
  refine ⟨⟨fd, F.ok sc_barry (fun vs H Q E h => ?_) (fun cdv A outer s H vs Q E hr h => ?_), B⟩, F.kp⟩
  · obtain ⟨pieces, line, p, r, rfl, _⟩ := h
    rfl
  · obtain ⟨pieces, line, p, r, rfl, hC, k⟩ := h
    have hr_offset : Room 4 _ := hr.mono (by decide)
    refine ⟨_, pss_one (ps_ret (pe_op op_fdiv (pe_op op_mul (pe_op op_add (pv 3) (pe_call G_offset hr_offset rfl T.k_offset.gl kp_offset B_offset .nil pass0 (pa_cons (pv 1) (pa_cons (pv 2) pa_nil)))) (pv 0)) pe_int)), ?_⟩
    refine ⟨_, rfl, _, rfl, _, rfl, _, _, rfl, (by first | trivial | assumption | omega), _, _, rfl, rfl, _, rfl, _, _, rfl, rfl, (by first | (apply Or.inl; constructor <;> (first | decide | omega)) | (apply Or.inr; constructor <;> (first | decide | omega))), _, _, rfl, rfl, (by constructor <;> first | decide | omega), ?_⟩
    exact castI k (by (first | rfl | (skip; (repeat' split) <;> omega)))
abbrev sp_paly : Sp := spI4 (fun pieces line p r => 0 ≤ line ∧ line ≤ 5 ∧ 0 ≤ pieces ∧ pieces ≤ 24) (fun pieces line p r => .int (Sh.pieceAt 1 pieces line.toNat p r))
theorem sc_paly : FnScope ["pieces", "line", "p", "r"] ["pieces", "line", "p", "r"] (defScope s_paly) := ⟨rfl, rfl, rfl, by decide +kernel, rfl, by decide +kernel, by decide +kernel⟩
theorem ok_paly (T : Txt K mg d) : OkD P w K mg base CX0 5 d.f_paly ["pieces", "line", "p", "r"] (sp_paly) := by
  obtain ⟨fd, F, B⟩ := T.k_paly.ex
  obtain ⟨⟨fd_offset, G_offset, B_offset⟩, kp_offset⟩ := ok_offset (P := P) (w := w) (base := base) T
  refine ⟨⟨fd, F.ok sc_paly (fun vs H Q E h => ?_) (fun cdv A outer s H vs Q E hr h => ?_), B⟩, F.kp⟩
  · obtain ⟨pieces, line, p, r, rfl, _⟩ := h
    rfl
  · obtain ⟨pieces, line, p, r, rfl, hC, k⟩ := h
    have hr_offset : Room 4 _ := hr.mono (by decide)
    refine ⟨_, pss_one (ps_ret (pe_op op_fdiv (pe_op op_mul (pe_op op_add (pv 2) (pe_call G_offset hr_offset rfl T.k_offset.gl kp_offset B_offset .nil pass0 (pa_cons (pv 1) (pa_cons (pv 3) pa_nil)))) (pv 0)) pe_int)), ?_⟩
    refine ⟨_, rfl, _, rfl, _, rfl, _, _, rfl, (by first | trivial | assumption | omega), _, _, rfl, rfl, _, rfl, _, _, rfl, rfl, (by first | (apply Or.inl; constructor <;> (first | decide | omega)) | (apply Or.inr; constructor <;> (first | decide | omega))), _, _, rfl, rfl, (by constructor <;> first | decide | omega), ?_⟩
    exact castI k (by (first | rfl | (skip; (repeat' split) <;> omega)))
abbrev sp_bendy : Sp := spI4 (fun pieces line p r => 0 ≤ line ∧ line ≤ 5 ∧ 0 ≤ pieces ∧ pieces ≤ 24) (fun pieces line p r => .int (Sh.pieceAt 2 pieces line.toNat p r))
theorem sc_bendy : FnScope ["pieces", "line", "p", "r"] ["pieces", "line", "p", "r"] (defScope s_bendy) := ⟨rfl, rfl, rfl, by decide +kernel, rfl, by decide +kernel, by decide +kernel⟩
theorem ok_bendy (T : Txt K mg d) : OkD P w K mg base CX0 5 d.f_bendy ["pieces", "line", "p", "r"] (sp_bendy) := by
  obtain ⟨fd, F, B⟩ := T.k_bendy.ex
  obtain ⟨⟨fd_over_bend, G_over_bend, B_over_bend⟩, kp_over_bend⟩ := ok_over_bend (P := P) (w := w) (base := base) T
  obtain ⟨⟨fd_offset, G_offset, B_offset⟩, kp_offset⟩ := ok_offset (P := P) (w := w) (base := base) T
  obtain ⟨⟨fd_along_bend, G_along_bend, B_along_bend⟩, kp_along_bend⟩ := ok_along_bend (P := P) (w := w) (base := base) T
  refine ⟨⟨fd, F.ok sc_bendy (fun vs H Q E h => ?_) (fun cdv A outer s H vs Q E hr h => ?_), B⟩, F.kp⟩
  · obtain ⟨pieces, line, p, r, rfl, _⟩ := h
    rfl
  · obtain ⟨pieces, line, p, r, rfl, hC, k⟩ := h
    have hr_over_bend : Room 1 _ := hr.mono (by decide)
    have hr_offset : Room 4 _ := hr.mono (by decide)
    have hr_along_bend : Room 1 _ := hr.mono (by decide)
    refine ⟨_, pss_one (ps_ret (pe_op op_fdiv (pe_op op_mul (pe_op op_add (pe_op op_add (pe_call G_over_bend hr_over_bend rfl T.k_over_bend.gl kp_over_bend B_over_bend .nil pass0 (pa_cons (pv 2) (pa_cons (pv 3) pa_nil))) pe_int) (pe_op op_mul pe_int (pe_call G_offset hr_offset rfl T.k_offset.gl kp_offset B_offset .nil pass0 (pa_cons (pv 1) (pa_cons (pe_call G_along_bend hr_along_bend rfl T.k_along_bend.gl kp_along_bend B_along_bend .nil pass0 (pa_cons (pv 2) (pa_cons (pv 3) pa_nil))) pa_nil))))) (pv 0)) pe_int)), ?_⟩
    refine ⟨_, rfl, _, rfl, _, _, rfl, trivial, _, _, rfl, rfl, _, rfl, _, rfl, _, rfl, _, _, rfl, trivial, _, _, rfl, (by first | trivial | assumption | omega), _, _, rfl, rfl, (by first | (apply Or.inl; constructor <;> (first | decide | omega)) | (apply Or.inr; constructor <;> (first | decide | omega))), _, _, rfl, rfl, _, rfl, _, _, rfl, rfl, (by first | (apply Or.inl; constructor <;> (first | decide | omega)) | (apply Or.inr; constructor <;> (first | decide | omega))), _, _, rfl, rfl, (by constructor <;> first | decide | omega), ?_⟩
    exact castI k (by (first | rfl | (skip; (repeat' split) <;> omega)))
abbrev sp_bendy_sinister : Sp := spI4 (fun pieces line p r => 0 ≤ line ∧ line ≤ 5 ∧ 0 ≤ pieces ∧ pieces ≤ 24) (fun pieces line p r => .int (Sh.pieceAt 3 pieces line.toNat p r))
theorem sc_bendy_sinister : FnScope ["pieces", "line", "p", "r"] ["pieces", "line", "p", "r"] (defScope s_bendy_sinister) := ⟨rfl, rfl, rfl, by decide +kernel, rfl, by decide +kernel, by decide +kernel⟩
theorem ok_bendy_sinister (T : Txt K mg d) : OkD P w K mg base CX0 6 d.f_bendy_sinister ["pieces", "line", "p", "r"] (sp_bendy_sinister) := by
  obtain ⟨fd, F, B⟩ := T.k_bendy_sinister.ex
  obtain ⟨⟨fd_bendy, G_bendy, B_bendy⟩, kp_bendy⟩ := ok_bendy (P := P) (w := w) (base := base) T
  obtain ⟨⟨fd_mirrored, G_mirrored, B_mirrored⟩, kp_mirrored⟩ := ok_mirrored (P := P) (w := w) (base := base) T
  refine ⟨⟨fd, F.ok sc_bendy_sinister (fun vs H Q E h => ?_) (fun cdv A outer s H vs Q E hr h => ?_), B⟩, F.kp⟩
  · obtain ⟨pieces, line, p, r, rfl, _⟩ := h
    rfl
  · obtain ⟨pieces, line, p, r, rfl, hC, k⟩ := h
    have hr_bendy : Room 5 _ := hr.mono (by decide)
    have hr_mirrored : Room 1 _ := hr.mono (by decide)
    refine ⟨_, pss_one (ps_ret (pe_call G_bendy hr_bendy rfl T.k_bendy.gl kp_bendy B_bendy .nil pass0 (pa_cons (pv 0) (pa_cons (pv 1) (pa_cons (pe_call G_mirrored hr_mirrored rfl T.k_mirrored.gl kp_mirrored B_mirrored .nil pass0 (pa_cons (pv 2) pa_nil)) (pa_cons (pv 3) pa_nil)))))), ?_⟩
    refine ⟨_, rfl, _, rfl, _, rfl, _, rfl, trivial, _, rfl, _, _, _, _, rfl, (by first | trivial | assumption | omega), ?_⟩
    exact castI k (by (first | rfl | (skip; (repeat' split) <;> omega)))
abbrev sp_chevronny : Sp := spI4 (fun pieces line p r => 0 ≤ line ∧ line ≤ 5 ∧ 0 ≤ pieces ∧ pieces ≤ 24) (fun pieces line p r => .int (Sh.pieceAt 4 pieces line.toNat p r))
theorem sc_chevronny : FnScope ["pieces", "line", "p", "r"] ["pieces", "line", "p", "r"] (defScope s_chevronny) := ⟨rfl, rfl, rfl, by decide +kernel, rfl, by decide +kernel, by decide +kernel⟩
theorem ok_chevronny (T : Txt K mg d) : OkD P w K mg base CX0 5 d.f_chevronny ["pieces", "line", "p", "r"] (sp_chevronny) := by
  obtain ⟨fd, F, B⟩ := T.k_chevronny.ex
  obtain ⟨⟨fd_offset, G_offset, B_offset⟩, kp_offset⟩ := ok_offset (P := P) (w := w) (base := base) T
  obtain ⟨⟨fd_from_middle, G_from_middle, B_from_middle⟩, kp_from_middle⟩ := ok_from_middle (P := P) (w := w) (base := base) T
  refine ⟨⟨fd, F.ok sc_chevronny (fun vs H Q E h => ?_) (fun cdv A outer s H vs Q E hr h => ?_), B⟩, F.kp⟩
  · obtain ⟨pieces, line, p, r, rfl, _⟩ := h
    rfl
  · obtain ⟨pieces, line, p, r, rfl, hC, k⟩ := h
    have hr_offset : Room 4 _ := hr.mono (by decide)
    have hr_from_middle : Room 1 _ := hr.mono (by decide)
    refine ⟨_, pss_one (ps_ret (pe_op op_fdiv (pe_op op_mul (pe_op op_add (pe_op op_add (pe_op op_sub (pv 3) (pe_call G_from_middle hr_from_middle rfl T.k_from_middle.gl kp_from_middle B_from_middle .nil pass0 (pa_cons (pv 2) pa_nil))) pe_int) (pe_call G_offset hr_offset rfl T.k_offset.gl kp_offset B_offset .nil pass0 (pa_cons (pv 1) (pa_cons (pv 2) pa_nil)))) (pv 0)) pe_int)), ?_⟩
    refine ⟨_, rfl, _, rfl, _, rfl, trivial, _, _, rfl, rfl, _, _, rfl, rfl, _, rfl, _, rfl, _, _, rfl, (by first | trivial | assumption | omega), _, _, rfl, rfl, _, rfl, _, _, rfl, rfl, (by first | (apply Or.inl; constructor <;> (first | decide | omega)) | (apply Or.inr; constructor <;> (first | decide | omega))), _, _, rfl, rfl, (by constructor <;> first | decide | omega), ?_⟩
    exact castI k (by (first | rfl | (skip; (repeat' split) <;> omega)))
abbrev sp_chequy : Sp := spI4 (fun pieces line p r => 0 ≤ line ∧ line ≤ 5 ∧ 0 ≤ pieces ∧ pieces ≤ 24) (fun pieces line p r => .int (Sh.pieceAt 5 pieces line.toNat p r))
theorem sc_chequy : FnScope ["pieces", "line", "p", "r"] ["pieces", "line", "p", "r"] (defScope s_chequy) := ⟨rfl, rfl, rfl, by decide +kernel, rfl, by decide +kernel, by decide +kernel⟩
theorem ok_chequy (T : Txt K mg d) : OkD P w K mg base CX0 1 d.f_chequy ["pieces", "line", "p", "r"] (sp_chequy) := by
  obtain ⟨fd, F, B⟩ := T.k_chequy.ex
  refine ⟨⟨fd, F.ok sc_chequy (fun vs H Q E h => ?_) (fun cdv A outer s H vs Q E hr h => ?_), B⟩, F.kp⟩
  · obtain ⟨pieces, line, p, r, rfl, _⟩ := h
    rfl
  · obtain ⟨pieces, line, p, r, rfl, hC, k⟩ := h
    refine ⟨_, pss_one (ps_ret (pe_op op_add (pe_op op_fdiv (pe_op op_mul (pv 2) (pv 0)) pe_int) (pe_op op_fdiv (pe_op op_mul (pv 3) (pe_op op_fdiv (pe_op op_add (pe_op op_mul pe_int (pv 0)) pe_int) pe_int)) pe_int))), ?_⟩
    refine ⟨_, rfl, _, rfl, _, _, rfl, rfl, (by first | (apply Or.inl; constructor <;> (first | decide | omega)) | (apply Or.inr; constructor <;> (first | decide | omega))), _, _, rfl, rfl, (by constructor <;> first | decide | omega), _, rfl, _, rfl, _, _, rfl, rfl, (by first | (apply Or.inl; constructor <;> (first | decide | omega)) | (apply Or.inr; constructor <;> (first | decide | omega))), _, _, rfl, rfl, _, _, rfl, rfl, (by constructor <;> first | decide | omega), _, _, rfl, rfl, (by first | (apply Or.inl; constructor <;> (first | decide | omega)) | (apply Or.inr; constructor <;> (first | decide | omega))), _, _, rfl, rfl, (by constructor <;> first | decide | omega), _, _, rfl, rfl, ?_⟩
    exact castI k (by (first | rfl | (skip; (repeat' split) <;> omega)))
abbrev sp_lozengy : Sp := spI4 (fun pieces line p r => 0 ≤ line ∧ line ≤ 5 ∧ 0 ≤ pieces ∧ pieces ≤ 24) (fun pieces line p r => .int (Sh.pieceAt 6 pieces line.toNat p r))
theorem sc_lozengy : FnScope ["pieces", "line", "p", "r"] ["pieces", "line", "p", "r"] (defScope s_lozengy) := ⟨rfl, rfl, rfl, by decide +kernel, rfl, by decide +kernel, by decide +kernel⟩
theorem ok_lozengy (T : Txt K mg d) : OkD P w K mg base CX0 2 d.f_lozengy ["pieces", "line", "p", "r"] (sp_lozengy) := by
  obtain ⟨fd, F, B⟩ := T.k_lozengy.ex
  obtain ⟨⟨fd_over_bend, G_over_bend, B_over_bend⟩, kp_over_bend⟩ := ok_over_bend (P := P) (w := w) (base := base) T
  refine ⟨⟨fd, F.ok sc_lozengy (fun vs H Q E h => ?_) (fun cdv A outer s H vs Q E hr h => ?_), B⟩, F.kp⟩
  · obtain ⟨pieces, line, p, r, rfl, _⟩ := h
    rfl
  · obtain ⟨pieces, line, p, r, rfl, hC, k⟩ := h
    have hr_over_bend : Room 1 _ := hr.mono (by decide)
    refine ⟨_, pss_one (ps_ret (pe_op op_add (pe_op op_fdiv (pe_op op_mul (pe_op op_add (pe_op op_mul pe_int (pv 2)) (pe_op op_mul pe_int (pv 3))) (pv 0)) pe_int) (pe_op op_fdiv (pe_op op_mul (pe_op op_add (pe_call G_over_bend hr_over_bend rfl T.k_over_bend.gl kp_over_bend B_over_bend .nil pass0 (pa_cons (pv 2) (pa_cons (pv 3) pa_nil))) pe_int) (pv 0)) pe_int))), ?_⟩
    refine ⟨_, rfl, _, _, rfl, rfl, (by first | (apply Or.inl; constructor <;> (first | decide | omega)) | (apply Or.inr; constructor <;> (first | decide | omega))), _, rfl, _, _, rfl, rfl, (by first | (apply Or.inl; constructor <;> (first | decide | omega)) | (apply Or.inr; constructor <;> (first | decide | omega))), _, _, rfl, rfl, _, rfl, _, _, rfl, rfl, (by first | (apply Or.inl; constructor <;> (first | decide | omega)) | (apply Or.inr; constructor <;> (first | decide | omega))), _, _, rfl, rfl, (by constructor <;> first | decide | omega), _, rfl, _, rfl, _, _, rfl, trivial, _, _, rfl, rfl, _, rfl, _, _, rfl, rfl, (by first | (apply Or.inl; constructor <;> (first | decide | omega)) | (apply Or.inr; constructor <;> (first | decide | omega))), _, _, rfl, rfl, (by constructor <;> first | decide | omega), _, _, rfl, rfl, ?_⟩
    exact castI k (by (first | rfl | (skip; (repeat' split) <;> omega)))
end
end HC
namespace HC
open PySem PySem.Spec PyProof.Rows L2
section
variable {P : Program} {w : World} {K : PySem.W.Frag} {mg : Str → Option Value} {base : Heap} {d : Ad}
abbrev sp_upright : Sp := spI5 (fun line p r left right => 0 ≤ line ∧ line ≤ 5) (fun line p r left right => .bl (Sh.within (left + Sh.off line.toNat r) p (right + Sh.off line.toNat r)))
theorem sc_upright : FnScope ["line", "p", "r", "left", "right", "s"] ["line", "p", "r", "left", "right"] (defScope s_upright) := ⟨rfl, rfl, rfl, by decide +kernel, rfl, by decide +kernel, by decide +kernel⟩
theorem ok_upright (T : Txt K mg d) : OkD P w K mg base CX0 5 d.f_upright ["line", "p", "r", "left", "right"] (sp_upright) := by
  obtain ⟨fd, F, B⟩ := T.k_upright.ex
  obtain ⟨⟨fd_offset, G_offset, B_offset⟩, kp_offset⟩ := ok_offset (P := P) (w := w) (base := base) T
  refine ⟨⟨fd, F.ok sc_upright (fun vs H Q E h => ?_) (fun cdv A outer s H vs Q E hr h => ?_), B⟩, F.kp⟩
  · obtain ⟨line, p, r, left, right, rfl, _⟩ := h
    rfl
  · obtain ⟨line, p, r, left, right, rfl, hC, k⟩ := h
    have hr_offset : Room 4 _ := hr.mono (by decide)
    refine ⟨_, pss_cons (ps_set (i := 5) sc_upright.nd rfl (Or.inl rfl) (pe_call G_offset hr_offset rfl T.k_offset.gl kp_offset B_offset .nil pass0 (pa_cons (pv 0) (pa_cons (pv 2) pa_nil))))
      (pss_one (ps_ret (pe_chain op_le op_lt (pe_op op_add (pv 3) (pv 5)) (pv 1) (pe_op op_add (pv 4) (pv 5))))), ?_⟩
    refine ⟨_, rfl, _, rfl, _, _, rfl, (by first | trivial | assumption | omega), _, rfl, _, rfl, _, _, rfl, rfl, _, rfl, _, _, rfl, rfl, _, rfl, ?_⟩
    refine ite2 (fun c1 => ?_) (fun c1 => ?_)
    · refine ⟨_, rfl, _, rfl, _, _, rfl, rfl, _, _, rfl, rfl, ?_⟩
      exact castB k (by (try simp only [decide_eq_true_eq, Bool.not_eq_true, decide_eq_false_iff_not, beq_iff_eq, Bool.not_eq_true', Bool.true_eq_false, reduceCtorEq, not_true_eq_false] at c1) <;> (first | rfl | (rw [Bool.eq_iff_iff]; simp only [Sh.within, decide_eq_true_eq, Bool.and_eq_true, Bool.or_eq_true, Bool.not_eq_true', decide_eq_false_iff_not, Bool.false_eq_true, reduceCtorEq, iff_false, iff_true] <;> omega)))
    · exact castB k (by (try simp only [decide_eq_true_eq, Bool.not_eq_true, decide_eq_false_iff_not, beq_iff_eq, Bool.not_eq_true', Bool.true_eq_false, reduceCtorEq, not_true_eq_false] at c1) <;> (first | rfl | (rw [Bool.eq_iff_iff]; simp only [Sh.within, decide_eq_true_eq, Bool.and_eq_true, Bool.or_eq_true, Bool.not_eq_true', decide_eq_false_iff_not, Bool.false_eq_true, reduceCtorEq, iff_false, iff_true] <;> omega)))
abbrev sp_level : Sp := spI5 (fun line p r top bottom => 0 ≤ line ∧ line ≤ 5) (fun line p r top bottom => .bl (Sh.within (top + Sh.off line.toNat p) r (bottom + Sh.off line.toNat p)))
theorem sc_level : FnScope ["line", "p", "r", "top", "bottom", "s"] ["line", "p", "r", "top", "bottom"] (defScope s_level) := ⟨rfl, rfl, rfl, by decide +kernel, rfl, by decide +kernel, by decide +kernel⟩
theorem ok_level (T : Txt K mg d) : OkD P w K mg base CX0 5 d.f_level ["line", "p", "r", "top", "bottom"] (sp_level) := by
  obtain ⟨fd, F, B⟩ := T.k_level.ex
  obtain ⟨⟨fd_offset, G_offset, B_offset⟩, kp_offset⟩ := ok_offset (P := P) (w := w) (base := base) T
  refine ⟨⟨fd, F.ok sc_level (fun vs H Q E h => ?_) (fun cdv A outer s H vs Q E hr h => ?_), B⟩, F.kp⟩
  · obtain ⟨line, p, r, top, bottom, rfl, _⟩ := h
    rfl
  · obtain ⟨line, p, r, top, bottom, rfl, hC, k⟩ := h
    have hr_offset : Room 4 _ := hr.mono (by decide)
    refine ⟨_, pss_cons (ps_set (i := 5) sc_level.nd rfl (Or.inl rfl) (pe_call G_offset hr_offset rfl T.k_offset.gl kp_offset B_offset .nil pass0 (pa_cons (pv 0) (pa_cons (pv 1) pa_nil))))
      (pss_one (ps_ret (pe_chain op_le op_lt (pe_op op_add (pv 3) (pv 5)) (pv 2) (pe_op op_add (pv 4) (pv 5))))), ?_⟩
    refine ⟨_, rfl, _, rfl, _, _, rfl, (by first | trivial | assumption | omega), _, rfl, _, rfl, _, _, rfl, rfl, _, rfl, _, _, rfl, rfl, _, rfl, ?_⟩
    refine ite2 (fun c1 => ?_) (fun c1 => ?_)
    · refine ⟨_, rfl, _, rfl, _, _, rfl, rfl, _, _, rfl, rfl, ?_⟩
      exact castB k (by (try simp only [decide_eq_true_eq, Bool.not_eq_true, decide_eq_false_iff_not, beq_iff_eq, Bool.not_eq_true', Bool.true_eq_false, reduceCtorEq, not_true_eq_false] at c1) <;> (first | rfl | (rw [Bool.eq_iff_iff]; simp only [Sh.within, decide_eq_true_eq, Bool.and_eq_true, Bool.or_eq_true, Bool.not_eq_true', decide_eq_false_iff_not, Bool.false_eq_true, reduceCtorEq, iff_false, iff_true] <;> omega)))
    · exact castB k (by (try simp only [decide_eq_true_eq, Bool.not_eq_true, decide_eq_false_iff_not, beq_iff_eq, Bool.not_eq_true', Bool.true_eq_false, reduceCtorEq, not_true_eq_false] at c1) <;> (first | rfl | (rw [Bool.eq_iff_iff]; simp only [Sh.within, decide_eq_true_eq, Bool.and_eq_true, Bool.or_eq_true, Bool.not_eq_true', decide_eq_false_iff_not, Bool.false_eq_true, reduceCtorEq, iff_false, iff_true] <;> omega)))
abbrev sp_slanting : Sp := spI4 (fun line p r breadth => 0 ≤ line ∧ line ≤ 5) (fun line p r breadth => .bl (Sh.nearDiag line.toNat breadth p r))
theorem sc_slanting : FnScope ["line", "p", "r", "breadth"] ["line", "p", "r", "breadth"] (defScope s_slanting) := ⟨rfl, rfl, rfl, by decide +kernel, rfl, by decide +kernel, by decide +kernel⟩
theorem ok_slanting (T : Txt K mg d) : OkD P w K mg base CX0 5 d.f_slanting ["line", "p", "r", "breadth"] (sp_slanting) := by
  obtain ⟨fd, F, B⟩ := T.k_slanting.ex
  obtain ⟨⟨fd_over_bend, G_over_bend, B_over_bend⟩, kp_over_bend⟩ := ok_over_bend (P := P) (w := w) (base := base) T
  obtain ⟨⟨fd_offset, G_offset, B_offset⟩, kp_offset⟩ := ok_offset (P := P) (w := w) (base := base) T
  obtain ⟨⟨fd_along_bend, G_along_bend, B_along_bend⟩, kp_along_bend⟩ := ok_along_bend (P := P) (w := w) (base := base) T
  refine ⟨⟨fd, F.ok sc_slanting (fun vs H Q E h => ?_) (fun cdv A outer s H vs Q E hr h => ?_), B⟩, F.kp⟩
  · obtain ⟨line, p, r, breadth, rfl, _⟩ := h
    rfl
  · obtain ⟨line, p, r, breadth, rfl, hC, k⟩ := h
    have hr_over_bend : Room 1 _ := hr.mono (by decide)
    have hr_offset : Room 4 _ := hr.mono (by decide)
    have hr_along_bend : Room 1 _ := hr.mono (by decide)
    refine ⟨_, pss_one (ps_ret (pe_cmpR op_lt (pe_callB call_abs (by rfl) T.b_abs (by decide +kernel) (pa_cons (pe_op op_sub (pe_call G_over_bend hr_over_bend rfl T.k_over_bend.gl kp_over_bend B_over_bend .nil pass0 (pa_cons (pv 1) (pa_cons (pv 2) pa_nil))) (pe_op op_mul pe_int (pe_call G_offset hr_offset rfl T.k_offset.gl kp_offset B_offset .nil pass0 (pa_cons (pv 0) (pa_cons (pe_call G_along_bend hr_along_bend rfl T.k_along_bend.gl kp_along_bend B_along_bend .nil pass0 (pa_cons (pv 1) (pa_cons (pv 2) pa_nil))) pa_nil))))) pa_nil)) (pv 3) (nomark _))), ?_⟩
    refine ⟨_, rfl, _, rfl, _, _, rfl, trivial, _, rfl, _, rfl, _, rfl, _, _, rfl, trivial, _, _, rfl, (by first | trivial | assumption | omega), _, _, rfl, rfl, (by first | (apply Or.inl; constructor <;> (first | decide | omega)) | (apply Or.inr; constructor <;> (first | decide | omega))), _, _, rfl, rfl, _, rfl, _, rfl, _, _, rfl, rfl, ?_⟩
    exact castB k (by (first | rfl | (rw [Bool.eq_iff_iff]; simp only [Sh.nearDiag, Sh.within, decide_eq_true_eq, Bool.and_eq_true, Bool.or_eq_true, Bool.not_eq_true', decide_eq_false_iff_not, Bool.false_eq_true, reduceCtorEq, iff_false, iff_true] <;> omega)))
abbrev sp_in_corner : Sp := spI5 (fun line p r right bottom => 0 ≤ line ∧ line ≤ 5) (fun line p r right bottom => .bl (decide (p < right + Sh.off line.toNat r) && decide (r < bottom + Sh.off line.toNat p)))
theorem sc_in_corner : FnScope ["line", "p", "r", "right", "bottom"] ["line", "p", "r", "right", "bottom"] (defScope s_in_corner) := ⟨rfl, rfl, rfl, by decide +kernel, rfl, by decide +kernel, by decide +kernel⟩
theorem ok_in_corner (T : Txt K mg d) : OkD P w K mg base CX0 5 d.f_in_corner ["line", "p", "r", "right", "bottom"] (sp_in_corner) := by
  obtain ⟨fd, F, B⟩ := T.k_in_corner.ex
  obtain ⟨⟨fd_offset, G_offset, B_offset⟩, kp_offset⟩ := ok_offset (P := P) (w := w) (base := base) T
  refine ⟨⟨fd, F.ok sc_in_corner (fun vs H Q E h => ?_) (fun cdv A outer s H vs Q E hr h => ?_), B⟩, F.kp⟩
  · obtain ⟨line, p, r, right, bottom, rfl, _⟩ := h
    rfl
  · obtain ⟨line, p, r, right, bottom, rfl, hC, k⟩ := h
    have hr_offset : Room 4 _ := hr.mono (by decide)
    refine ⟨_, pss_one (ps_ret (pe_and (pe_cmpR op_lt (pv 1) (pe_op op_add (pv 3) (pe_call G_offset hr_offset rfl T.k_offset.gl kp_offset B_offset .nil pass0 (pa_cons (pv 0) (pa_cons (pv 2) pa_nil)))) (nomark _)) (pe_one (pe_cmpR op_lt (pv 2) (pe_op op_add (pv 4) (pe_call G_offset hr_offset rfl T.k_offset.gl kp_offset B_offset .nil pass0 (pa_cons (pv 0) (pa_cons (pv 1) pa_nil)))) (nomark _))))), ?_⟩
    refine ⟨_, rfl, _, rfl, _, rfl, _, rfl, _, _, rfl, (by first | trivial | assumption | omega), _, _, rfl, rfl, _, _, rfl, rfl, _, rfl, ?_⟩
    refine ite2 (fun c1 => ?_) (fun c1 => ?_)
    · refine ⟨_, rfl, _, rfl, _, rfl, _, rfl, _, _, rfl, (by first | trivial | assumption | omega), _, _, rfl, rfl, _, _, rfl, rfl, ?_⟩
      exact castB k (by (try simp only [decide_eq_true_eq, Bool.not_eq_true, decide_eq_false_iff_not, beq_iff_eq, Bool.not_eq_true', Bool.true_eq_false, reduceCtorEq, not_true_eq_false] at c1) <;> (first | rfl | (rw [Bool.eq_iff_iff]; simp only [decide_eq_true_eq, Bool.and_eq_true, Bool.or_eq_true, Bool.not_eq_true', decide_eq_false_iff_not, Bool.false_eq_true, reduceCtorEq, iff_false, iff_true] <;> omega)))
    · exact castB k (by (try simp only [decide_eq_true_eq, Bool.not_eq_true, decide_eq_false_iff_not, beq_iff_eq, Bool.not_eq_true', Bool.true_eq_false, reduceCtorEq, not_true_eq_false] at c1) <;> (first | rfl | (rw [Bool.eq_iff_iff]; simp only [decide_eq_true_eq, Bool.and_eq_true, Bool.or_eq_true, Bool.not_eq_true', decide_eq_false_iff_not, Bool.false_eq_true, reduceCtorEq, iff_false, iff_true] <;> omega)))
abbrev sp_chief : Sp := spI3 (fun line p r => 0 ≤ line ∧ line ≤ 5) (fun line p r => .bl (Sh.ordHas 0 line.toNat p r))
theorem sc_chief : FnScope ["line", "p", "r"] ["line", "p", "r"] (defScope s_chief) := ⟨rfl, rfl, rfl, by decide +kernel, rfl, by decide +kernel, by decide +kernel⟩
theorem ok_chief (T : Txt K mg d) : OkD P w K mg base CX0 5 d.f_chief ["line", "p", "r"] (sp_chief) := by
  obtain ⟨fd, F, B⟩ := T.k_chief.ex
  obtain ⟨⟨fd_offset, G_offset, B_offset⟩, kp_offset⟩ := ok_offset (P := P) (w := w) (base := base) T
  refine ⟨⟨fd, F.ok sc_chief (fun vs H Q E h => ?_) (fun cdv A outer s H vs Q E hr h => ?_), B⟩, F.kp⟩
  · obtain ⟨line, p, r, rfl, _⟩ := h
    rfl
  · obtain ⟨line, p, r, rfl, hC, k⟩ := h
    have hr_offset : Room 4 _ := hr.mono (by decide)
    refine ⟨_, pss_one (ps_ret (pe_cmpR op_lt (pv 2) (pe_op op_add pe_int (pe_call G_offset hr_offset rfl T.k_offset.gl kp_offset B_offset .nil pass0 (pa_cons (pv 0) (pa_cons (pv 1) pa_nil)))) (nomark _))), ?_⟩
    refine ⟨_, rfl, _, rfl, _, rfl, _, _, rfl, (by first | trivial | assumption | omega), _, _, rfl, rfl, _, _, rfl, rfl, ?_⟩
    exact castB k (by (first | rfl | (rw [Bool.eq_iff_iff]; simp only [decide_eq_true_eq, Bool.and_eq_true, Bool.or_eq_true, Bool.not_eq_true', decide_eq_false_iff_not, Bool.false_eq_true, reduceCtorEq, iff_false, iff_true] <;> omega)))
abbrev sp_base : Sp := spI3 (fun line p r => 0 ≤ line ∧ line ≤ 5) (fun line p r => .bl (Sh.ordHas 1 line.toNat p r))
theorem sc_base : FnScope ["line", "p", "r"] ["line", "p", "r"] (defScope s_base) := ⟨rfl, rfl, rfl, by decide +kernel, rfl, by decide +kernel, by decide +kernel⟩
theorem ok_base (T : Txt K mg d) : OkD P w K mg base CX0 5 d.f_base ["line", "p", "r"] (sp_base) := by
  obtain ⟨fd, F, B⟩ := T.k_base.ex
  obtain ⟨⟨fd_offset, G_offset, B_offset⟩, kp_offset⟩ := ok_offset (P := P) (w := w) (base := base) T
  refine ⟨⟨fd, F.ok sc_base (fun vs H Q E h => ?_) (fun cdv A outer s H vs Q E hr h => ?_), B⟩, F.kp⟩
  · obtain ⟨line, p, r, rfl, _⟩ := h
    rfl
  · obtain ⟨line, p, r, rfl, hC, k⟩ := h
    have hr_offset : Room 4 _ := hr.mono (by decide)
    refine ⟨_, pss_one (ps_ret (pe_cmpR op_ge (pv 2) (pe_op op_add pe_int (pe_call G_offset hr_offset rfl T.k_offset.gl kp_offset B_offset .nil pass0 (pa_cons (pv 0) (pa_cons (pv 1) pa_nil)))) (nomark _))), ?_⟩
    refine ⟨_, rfl, _, rfl, _, rfl, _, _, rfl, (by first | trivial | assumption | omega), _, _, rfl, rfl, _, _, rfl, rfl, ?_⟩
    exact castB k (by (first | rfl | (rw [Bool.eq_iff_iff]; simp only [decide_eq_true_eq, Bool.and_eq_true, Bool.or_eq_true, Bool.not_eq_true', decide_eq_false_iff_not, Bool.false_eq_true, reduceCtorEq, iff_false, iff_true] <;> omega)))
abbrev sp_pale : Sp := spI3 (fun line p r => 0 ≤ line ∧ line ≤ 5) (fun line p r => .bl (Sh.ordHas 2 line.toNat p r))
theorem sc_pale : FnScope ["line", "p", "r"] ["line", "p", "r"] (defScope s_pale) := ⟨rfl, rfl, rfl, by decide +kernel, rfl, by decide +kernel, by decide +kernel⟩
theorem ok_pale (T : Txt K mg d) : OkD P w K mg base CX0 6 d.f_pale ["line", "p", "r"] (sp_pale) := by
  obtain ⟨fd, F, B⟩ := T.k_pale.ex
  obtain ⟨⟨fd_upright, G_upright, B_upright⟩, kp_upright⟩ := ok_upright (P := P) (w := w) (base := base) T
  refine ⟨⟨fd, F.ok sc_pale (fun vs H Q E h => ?_) (fun cdv A outer s H vs Q E hr h => ?_), B⟩, F.kp⟩
  · obtain ⟨line, p, r, rfl, _⟩ := h
    rfl
  · obtain ⟨line, p, r, rfl, hC, k⟩ := h
    have hr_upright : Room 5 _ := hr.mono (by decide)
    refine ⟨_, pss_one (ps_ret (pe_call G_upright hr_upright rfl T.k_upright.gl kp_upright B_upright .nil pass0 (pa_cons (pv 0) (pa_cons (pv 1) (pa_cons (pv 2) (pa_cons pe_int (pa_cons pe_int pa_nil))))))), ?_⟩
    refine ⟨_, rfl, _, rfl, _, rfl, _, _, _, _, _, rfl, (by first | trivial | assumption | omega), ?_⟩
    exact castB k (by (first | rfl | (rw [Bool.eq_iff_iff]; simp only [decide_eq_true_eq, Bool.and_eq_true, Bool.or_eq_true, Bool.not_eq_true', decide_eq_false_iff_not, Bool.false_eq_true, reduceCtorEq, iff_false, iff_true] <;> omega)))
abbrev sp_fess : Sp := spI3 (fun line p r => 0 ≤ line ∧ line ≤ 5) (fun line p r => .bl (Sh.ordHas 3 line.toNat p r))
theorem sc_fess : FnScope ["line", "p", "r"] ["line", "p", "r"] (defScope s_fess) := ⟨rfl, rfl, rfl, by decide +kernel, rfl, by decide +kernel, by decide +kernel⟩
theorem ok_fess (T : Txt K mg d) : OkD P w K mg base CX0 6 d.f_fess ["line", "p", "r"] (sp_fess) := by
  obtain ⟨fd, F, B⟩ := T.k_fess.ex
  obtain ⟨⟨fd_level, G_level, B_level⟩, kp_level⟩ := ok_level (P := P) (w := w) (base := base) T
  refine ⟨⟨fd, F.ok sc_fess (fun vs H Q E h => ?_) (fun cdv A outer s H vs Q E hr h => ?_), B⟩, F.kp⟩
  · obtain ⟨line, p, r, rfl, _⟩ := h
    rfl
  · obtain ⟨line, p, r, rfl, hC, k⟩ := h
    have hr_level : Room 5 _ := hr.mono (by decide)
    refine ⟨_, pss_one (ps_ret (pe_call G_level hr_level rfl T.k_level.gl kp_level B_level .nil pass0 (pa_cons (pv 0) (pa_cons (pv 1) (pa_cons (pv 2) (pa_cons pe_int (pa_cons pe_int pa_nil))))))), ?_⟩
    refine ⟨_, rfl, _, rfl, _, rfl, _, _, _, _, _, rfl, (by first | trivial | assumption | omega), ?_⟩
    exact castB k (by (first | rfl | (rw [Bool.eq_iff_iff]; simp only [decide_eq_true_eq, Bool.and_eq_true, Bool.or_eq_true, Bool.not_eq_true', decide_eq_false_iff_not, Bool.false_eq_true, reduceCtorEq, iff_false, iff_true] <;> omega)))
abbrev sp_bend : Sp := spI3 (fun line p r => 0 ≤ line ∧ line ≤ 5) (fun line p r => .bl (Sh.ordHas 4 line.toNat p r))
theorem sc_bend : FnScope ["line", "p", "r"] ["line", "p", "r"] (defScope s_bend) := ⟨rfl, rfl, rfl, by decide +kernel, rfl, by decide +kernel, by decide +kernel⟩
theorem ok_bend (T : Txt K mg d) : OkD P w K mg base CX0 6 d.f_bend ["line", "p", "r"] (sp_bend) := by
  obtain ⟨fd, F, B⟩ := T.k_bend.ex
  obtain ⟨⟨fd_slanting, G_slanting, B_slanting⟩, kp_slanting⟩ := ok_slanting (P := P) (w := w) (base := base) T
  refine ⟨⟨fd, F.ok sc_bend (fun vs H Q E h => ?_) (fun cdv A outer s H vs Q E hr h => ?_), B⟩, F.kp⟩
  · obtain ⟨line, p, r, rfl, _⟩ := h
    rfl
  · obtain ⟨line, p, r, rfl, hC, k⟩ := h
    have hr_slanting : Room 5 _ := hr.mono (by decide)
    refine ⟨_, pss_one (ps_ret (pe_call G_slanting hr_slanting rfl T.k_slanting.gl kp_slanting B_slanting .nil pass0 (pa_cons (pv 0) (pa_cons (pv 1) (pa_cons (pv 2) (pa_cons pe_int pa_nil)))))), ?_⟩
    refine ⟨_, rfl, _, rfl, _, rfl, _, _, _, _, rfl, (by first | trivial | assumption | omega), ?_⟩
    exact castB k (by (first | rfl | (rw [Bool.eq_iff_iff]; simp only [decide_eq_true_eq, Bool.and_eq_true, Bool.or_eq_true, Bool.not_eq_true', decide_eq_false_iff_not, Bool.false_eq_true, reduceCtorEq, iff_false, iff_true] <;> omega)))
abbrev sp_bend_sinister : Sp := spI3 (fun line p r => 0 ≤ line ∧ line ≤ 5) (fun line p r => .bl (Sh.ordHas 5 line.toNat p r))
theorem sc_bend_sinister : FnScope ["line", "p", "r"] ["line", "p", "r"] (defScope s_bend_sinister) := ⟨rfl, rfl, rfl, by decide +kernel, rfl, by decide +kernel, by decide +kernel⟩
theorem ok_bend_sinister (T : Txt K mg d) : OkD P w K mg base CX0 6 d.f_bend_sinister ["line", "p", "r"] (sp_bend_sinister) := by
  obtain ⟨fd, F, B⟩ := T.k_bend_sinister.ex
  obtain ⟨⟨fd_slanting, G_slanting, B_slanting⟩, kp_slanting⟩ := ok_slanting (P := P) (w := w) (base := base) T
  obtain ⟨⟨fd_mirrored, G_mirrored, B_mirrored⟩, kp_mirrored⟩ := ok_mirrored (P := P) (w := w) (base := base) T
  refine ⟨⟨fd, F.ok sc_bend_sinister (fun vs H Q E h => ?_) (fun cdv A outer s H vs Q E hr h => ?_), B⟩, F.kp⟩
  · obtain ⟨line, p, r, rfl, _⟩ := h
    rfl
  · obtain ⟨line, p, r, rfl, hC, k⟩ := h
    have hr_slanting : Room 5 _ := hr.mono (by decide)
    have hr_mirrored : Room 1 _ := hr.mono (by decide)
    refine ⟨_, pss_one (ps_ret (pe_call G_slanting hr_slanting rfl T.k_slanting.gl kp_slanting B_slanting .nil pass0 (pa_cons (pv 0) (pa_cons (pe_call G_mirrored hr_mirrored rfl T.k_mirrored.gl kp_mirrored B_mirrored .nil pass0 (pa_cons (pv 1) pa_nil)) (pa_cons (pv 2) (pa_cons pe_int pa_nil)))))), ?_⟩
    refine ⟨_, rfl, _, rfl, _, rfl, trivial, _, rfl, _, _, _, _, rfl, (by first | trivial | assumption | omega), ?_⟩
    exact castB k (by (first | rfl | (rw [Bool.eq_iff_iff]; simp only [decide_eq_true_eq, Bool.and_eq_true, Bool.or_eq_true, Bool.not_eq_true', decide_eq_false_iff_not, Bool.false_eq_true, reduceCtorEq, iff_false, iff_true] <;> omega)))
abbrev sp_chevron : Sp := spI3 (fun line p r => 0 ≤ line ∧ line ≤ 5) (fun line p r => .bl (Sh.ordHas 6 line.toNat p r))
theorem sc_chevron : FnScope ["line", "p", "r"] ["line", "p", "r"] (defScope s_chevron) := ⟨rfl, rfl, rfl, by decide +kernel, rfl, by decide +kernel, by decide +kernel⟩
theorem ok_chevron (T : Txt K mg d) : OkD P w K mg base CX0 5 d.f_chevron ["line", "p", "r"] (sp_chevron) := by
  obtain ⟨fd, F, B⟩ := T.k_chevron.ex
  obtain ⟨⟨fd_offset, G_offset, B_offset⟩, kp_offset⟩ := ok_offset (P := P) (w := w) (base := base) T
  obtain ⟨⟨fd_from_middle, G_from_middle, B_from_middle⟩, kp_from_middle⟩ := ok_from_middle (P := P) (w := w) (base := base) T
  refine ⟨⟨fd, F.ok sc_chevron (fun vs H Q E h => ?_) (fun cdv A outer s H vs Q E hr h => ?_), B⟩, F.kp⟩
  · obtain ⟨line, p, r, rfl, _⟩ := h
    rfl
  · obtain ⟨line, p, r, rfl, hC, k⟩ := h
    have hr_offset : Room 4 _ := hr.mono (by decide)
    have hr_from_middle : Room 1 _ := hr.mono (by decide)
    refine ⟨_, pss_one (ps_ret (pe_chain op_le op_lt pe_int (pe_op op_sub (pe_op op_sub (pe_op op_sub (pv 2) pe_int) (pe_call G_from_middle hr_from_middle rfl T.k_from_middle.gl kp_from_middle B_from_middle .nil pass0 (pa_cons (pv 1) pa_nil))) (pe_call G_offset hr_offset rfl T.k_offset.gl kp_offset B_offset .nil pass0 (pa_cons (pv 0) (pa_cons (pv 1) pa_nil)))) pe_int)), ?_⟩
    refine ⟨_, rfl, _, _, rfl, rfl, _, rfl, _, rfl, trivial, _, _, rfl, rfl, _, rfl, _, rfl, _, _, rfl, (by first | trivial | assumption | omega), _, _, rfl, rfl, _, _, rfl, rfl, _, rfl, ?_⟩
    refine ite2 (fun c1 => ?_) (fun c1 => ?_)
    · refine ⟨_, _, rfl, rfl, ?_⟩
      exact castB k (by (try simp only [decide_eq_true_eq, Bool.not_eq_true, decide_eq_false_iff_not, beq_iff_eq, Bool.not_eq_true', Bool.true_eq_false, reduceCtorEq, not_true_eq_false] at c1) <;> (first | rfl | (rw [Bool.eq_iff_iff]; simp only [oh_6, Sh.within, decide_eq_true_eq, Bool.and_eq_true, Bool.or_eq_true, Bool.not_eq_true', decide_eq_false_iff_not, Bool.false_eq_true, reduceCtorEq, iff_false, iff_true] <;> omega)))
    · exact castB k (by (try simp only [decide_eq_true_eq, Bool.not_eq_true, decide_eq_false_iff_not, beq_iff_eq, Bool.not_eq_true', Bool.true_eq_false, reduceCtorEq, not_true_eq_false] at c1) <;> (first | rfl | (rw [Bool.eq_iff_iff]; simp only [oh_6, Sh.within, decide_eq_true_eq, Bool.and_eq_true, Bool.or_eq_true, Bool.not_eq_true', decide_eq_false_iff_not, Bool.false_eq_true, reduceCtorEq, iff_false, iff_true] <;> omega)))
abbrev sp_cross : Sp := spI3 (fun line p r => 0 ≤ line ∧ line ≤ 5) (fun line p r => .bl (Sh.ordHas 7 line.toNat p r))
theorem sc_cross : FnScope ["line", "p", "r"] ["line", "p", "r"] (defScope s_cross) := ⟨rfl, rfl, rfl, by decide +kernel, rfl, by decide +kernel, by decide +kernel⟩
theorem ok_cross (T : Txt K mg d) : OkD P w K mg base CX0 6 d.f_cross ["line", "p", "r"] (sp_cross) := by
  obtain ⟨fd, F, B⟩ := T.k_cross.ex
  obtain ⟨⟨fd_upright, G_upright, B_upright⟩, kp_upright⟩ := ok_upright (P := P) (w := w) (base := base) T
  obtain ⟨⟨fd_level, G_level, B_level⟩, kp_level⟩ := ok_level (P := P) (w := w) (base := base) T
  refine ⟨⟨fd, F.ok sc_cross (fun vs H Q E h => ?_) (fun cdv A outer s H vs Q E hr h => ?_), B⟩, F.kp⟩
  · obtain ⟨line, p, r, rfl, _⟩ := h
    rfl
  · obtain ⟨line, p, r, rfl, hC, k⟩ := h
    have hr_upright : Room 5 _ := hr.mono (by decide)
    have hr_level : Room 5 _ := hr.mono (by decide)
    refine ⟨_, pss_one (ps_ret (pe_or (pe_call G_upright hr_upright rfl T.k_upright.gl kp_upright B_upright .nil pass0 (pa_cons (pv 0) (pa_cons (pv 1) (pa_cons (pv 2) (pa_cons pe_int (pa_cons pe_int pa_nil)))))) (pe_one (pe_call G_level hr_level rfl T.k_level.gl kp_level B_level .nil pass0 (pa_cons (pv 0) (pa_cons (pv 1) (pa_cons (pv 2) (pa_cons pe_int (pa_cons pe_int pa_nil))))))))), ?_⟩
    refine ⟨_, rfl, _, rfl, _, rfl, _, _, _, _, _, rfl, (by first | trivial | assumption | omega), _, rfl, ?_⟩
    refine ite2 (fun c1 => ?_) (fun c1 => ?_)
    · exact castB k (by simp [oh_7, c1])
    · refine ⟨_, rfl, _, rfl, _, rfl, _, _, _, _, _, rfl, (by first | trivial | assumption | omega), ?_⟩
      exact castB k (by simp [oh_7, c1])
abbrev sp_saltire : Sp := spI3 (fun line p r => 0 ≤ line ∧ line ≤ 5) (fun line p r => .bl (Sh.ordHas 8 line.toNat p r))
theorem sc_saltire : FnScope ["line", "p", "r"] ["line", "p", "r"] (defScope s_saltire) := ⟨rfl, rfl, rfl, by decide +kernel, rfl, by decide +kernel, by decide +kernel⟩
theorem ok_saltire (T : Txt K mg d) : OkD P w K mg base CX0 6 d.f_saltire ["line", "p", "r"] (sp_saltire) := by
  obtain ⟨fd, F, B⟩ := T.k_saltire.ex
  obtain ⟨⟨fd_slanting, G_slanting, B_slanting⟩, kp_slanting⟩ := ok_slanting (P := P) (w := w) (base := base) T
  obtain ⟨⟨fd_mirrored, G_mirrored, B_mirrored⟩, kp_mirrored⟩ := ok_mirrored (P := P) (w := w) (base := base) T
  refine ⟨⟨fd, F.ok sc_saltire (fun vs H Q E h => ?_) (fun cdv A outer s H vs Q E hr h => ?_), B⟩, F.kp⟩
  · obtain ⟨line, p, r, rfl, _⟩ := h
    rfl
  · obtain ⟨line, p, r, rfl, hC, k⟩ := h
    have hr_slanting : Room 5 _ := hr.mono (by decide)
    have hr_mirrored : Room 1 _ := hr.mono (by decide)
    refine ⟨_, pss_one (ps_ret (pe_or (pe_call G_slanting hr_slanting rfl T.k_slanting.gl kp_slanting B_slanting .nil pass0 (pa_cons (pv 0) (pa_cons (pv 1) (pa_cons (pv 2) (pa_cons pe_int pa_nil))))) (pe_one (pe_call G_slanting hr_slanting rfl T.k_slanting.gl kp_slanting B_slanting .nil pass0 (pa_cons (pv 0) (pa_cons (pe_call G_mirrored hr_mirrored rfl T.k_mirrored.gl kp_mirrored B_mirrored .nil pass0 (pa_cons (pv 1) pa_nil)) (pa_cons (pv 2) (pa_cons pe_int pa_nil)))))))), ?_⟩
    refine ⟨_, rfl, _, rfl, _, rfl, _, _, _, _, rfl, (by first | trivial | assumption | omega), _, rfl, ?_⟩
    refine ite2 (fun c1 => ?_) (fun c1 => ?_)
    · exact castB k (by simp [oh_8, c1])
    · refine ⟨_, rfl, _, rfl, _, rfl, trivial, _, rfl, _, _, _, _, rfl, (by first | trivial | assumption | omega), ?_⟩
      exact castB k (by simp [oh_8, c1])
abbrev sp_pile : Sp := spI3 (fun line p r => 0 ≤ line ∧ line ≤ 5) (fun line p r => .bl (Sh.ordHas 9 line.toNat p r))
theorem sc_pile : FnScope ["line", "p", "r"] ["line", "p", "r"] (defScope s_pile) := ⟨rfl, rfl, rfl, by decide +kernel, rfl, by decide +kernel, by decide +kernel⟩
theorem ok_pile (T : Txt K mg d) : OkD P w K mg base CX0 5 d.f_pile ["line", "p", "r"] (sp_pile) := by
  obtain ⟨fd, F, B⟩ := T.k_pile.ex
  obtain ⟨⟨fd_from_middle, G_from_middle, B_from_middle⟩, kp_from_middle⟩ := ok_from_middle (P := P) (w := w) (base := base) T
  obtain ⟨⟨fd_offset, G_offset, B_offset⟩, kp_offset⟩ := ok_offset (P := P) (w := w) (base := base) T
  refine ⟨⟨fd, F.ok sc_pile (fun vs H Q E h => ?_) (fun cdv A outer s H vs Q E hr h => ?_), B⟩, F.kp⟩
  · obtain ⟨line, p, r, rfl, _⟩ := h
    rfl
  · obtain ⟨line, p, r, rfl, hC, k⟩ := h
    have hr_from_middle : Room 1 _ := hr.mono (by decide)
    have hr_offset : Room 4 _ := hr.mono (by decide)
    refine ⟨_, pss_one (ps_ret (pe_cmpR op_lt (pe_op op_mul pe_int (pe_call G_from_middle hr_from_middle rfl T.k_from_middle.gl kp_from_middle B_from_middle .nil pass0 (pa_cons (pv 1) pa_nil))) (pe_op op_add (pe_op op_mul pe_int (pe_op op_sub pe_int (pv 2))) (pe_op op_mul pe_int (pe_call G_offset hr_offset rfl T.k_offset.gl kp_offset B_offset .nil pass0 (pa_cons (pv 0) (pa_cons (pv 2) pa_nil))))) (nomark _))), ?_⟩
    refine ⟨_, rfl, _, rfl, trivial, _, _, rfl, rfl, (by first | (apply Or.inl; constructor <;> (first | decide | omega)) | (apply Or.inr; constructor <;> (first | decide | omega))), _, rfl, _, _, rfl, rfl, _, _, rfl, rfl, (by first | (apply Or.inl; constructor <;> (first | decide | omega)) | (apply Or.inr; constructor <;> (first | decide | omega))), _, rfl, _, rfl, _, _, rfl, (by first | trivial | assumption | omega), _, _, rfl, rfl, (by first | (apply Or.inl; constructor <;> (first | decide | omega)) | (apply Or.inr; constructor <;> (first | decide | omega))), _, _, rfl, rfl, _, _, rfl, rfl, ?_⟩
    exact castB k (by (first | rfl | (rw [Bool.eq_iff_iff]; simp only [decide_eq_true_eq, Bool.and_eq_true, Bool.or_eq_true, Bool.not_eq_true', decide_eq_false_iff_not, Bool.false_eq_true, reduceCtorEq, iff_false, iff_true] <;> omega)))
abbrev sp_bordure : Sp := spI3 (fun line p r => 0 ≤ line ∧ line ≤ 5) (fun line p r => .bl (Sh.ordHas 10 line.toNat p r))
theorem sc_bordure : FnScope ["line", "p", "r", "at_side"] ["line", "p", "r"] (defScope s_bordure) := ⟨rfl, rfl, rfl, by decide +kernel, rfl, by decide +kernel, by decide +kernel⟩
theorem ok_bordure (T : Txt K mg d) : OkD P w K mg base CX0 5 d.f_bordure ["line", "p", "r"] (sp_bordure) := by
  obtain ⟨fd, F, B⟩ := T.k_bordure.ex
  obtain ⟨⟨fd_offset, G_offset, B_offset⟩, kp_offset⟩ := ok_offset (P := P) (w := w) (base := base) T
  refine ⟨⟨fd, F.ok sc_bordure (fun vs H Q E h => ?_) (fun cdv A outer s H vs Q E hr h => ?_), B⟩, F.kp⟩
  · obtain ⟨line, p, r, rfl, _⟩ := h
    rfl
  · obtain ⟨line, p, r, rfl, hC, k⟩ := h
    have hr_offset : Room 4 _ := hr.mono (by decide)
    refine ⟨_, pss_cons (ps_set (i := 3) sc_bordure.nd rfl (Or.inl rfl) (pe_or (pe_cmpR op_lt (pv 1) (pe_op op_add pe_int (pe_call G_offset hr_offset rfl T.k_offset.gl kp_offset B_offset .nil pass0 (pa_cons (pv 0) (pa_cons (pv 2) pa_nil)))) (nomark _)) (pe_one (pe_cmpR op_ge (pv 1) (pe_op op_sub pe_int (pe_call G_offset hr_offset rfl T.k_offset.gl kp_offset B_offset .nil pass0 (pa_cons (pv 0) (pa_cons (pv 2) pa_nil)))) (nomark _)))))
      (pss_one (ps_ret (pe_or (pv 3) (pe_or (pe_cmpR op_lt (pv 2) (pe_op op_add pe_int (pe_call G_offset hr_offset rfl T.k_offset.gl kp_offset B_offset .nil pass0 (pa_cons (pv 0) (pa_cons (pv 1) pa_nil)))) (nomark _)) (pe_one (pe_cmpR op_ge (pv 2) (pe_op op_sub pe_int (pe_call G_offset hr_offset rfl T.k_offset.gl kp_offset B_offset .nil pass0 (pa_cons (pv 0) (pa_cons (pv 1) pa_nil)))) (nomark _))))))), ?_⟩
    refine ⟨_, rfl, _, rfl, _, rfl, _, _, rfl, (by first | trivial | assumption | omega), _, _, rfl, rfl, _, _, rfl, rfl, _, rfl, ?_⟩
    refine ite2 (fun c1 => ?_) (fun c1 => ?_)
    · refine ⟨_, rfl, _, rfl, ?_⟩
      refine ite2 (fun c2 => ?_) (fun c2 => ?_)
      · exact castB k (by (try simp only [decide_eq_true_eq, Bool.not_eq_true, decide_eq_false_iff_not, beq_iff_eq, Bool.not_eq_true', Bool.true_eq_false, reduceCtorEq, not_true_eq_false] at c1 c2) <;> (first | rfl | (rw [Bool.eq_iff_iff]; simp only [oh_10, decide_eq_true_eq, Bool.and_eq_true, Bool.or_eq_true, Bool.not_eq_true', decide_eq_false_iff_not, Bool.false_eq_true, reduceCtorEq, iff_false, iff_true] <;> omega)))
      · refine ⟨_, rfl, _, rfl, _, rfl, _, _, rfl, (by first | trivial | assumption | omega), _, _, rfl, rfl, _, _, rfl, rfl, _, rfl, ?_⟩
        refine ite2 (fun c3 => ?_) (fun c3 => ?_)
        · exact castB k (by (try simp only [decide_eq_true_eq, Bool.not_eq_true, decide_eq_false_iff_not, beq_iff_eq, Bool.not_eq_true', Bool.true_eq_false, reduceCtorEq, not_true_eq_false] at c1 c2 c3) <;> (first | rfl | (rw [Bool.eq_iff_iff]; simp only [oh_10, decide_eq_true_eq, Bool.and_eq_true, Bool.or_eq_true, Bool.not_eq_true', decide_eq_false_iff_not, Bool.false_eq_true, reduceCtorEq, iff_false, iff_true] <;> omega)))
        · refine ⟨_, rfl, _, rfl, _, rfl, _, _, rfl, (by first | trivial | assumption | omega), _, _, rfl, rfl, _, _, rfl, rfl, ?_⟩
          exact castB k (by (try simp only [decide_eq_true_eq, Bool.not_eq_true, decide_eq_false_iff_not, beq_iff_eq, Bool.not_eq_true', Bool.true_eq_false, reduceCtorEq, not_true_eq_false] at c1 c2 c3) <;> (first | rfl | (rw [Bool.eq_iff_iff]; simp only [oh_10, decide_eq_true_eq, Bool.and_eq_true, Bool.or_eq_true, Bool.not_eq_true', decide_eq_false_iff_not, Bool.false_eq_true, reduceCtorEq, iff_false, iff_true] <;> omega)))
    · refine ⟨_, rfl, _, rfl, _, rfl, _, _, rfl, (by first | trivial | assumption | omega), _, _, rfl, rfl, _, _, rfl, rfl, _, rfl, _, rfl, ?_⟩
      refine ite2 (fun c4 => ?_) (fun c4 => ?_)
      · exact castB k (by (try simp only [decide_eq_true_eq, Bool.not_eq_true, decide_eq_false_iff_not, beq_iff_eq, Bool.not_eq_true', Bool.true_eq_false, reduceCtorEq, not_true_eq_false] at c1 c4) <;> (first | rfl | (rw [Bool.eq_iff_iff]; simp only [oh_10, decide_eq_true_eq, Bool.and_eq_true, Bool.or_eq_true, Bool.not_eq_true', decide_eq_false_iff_not, Bool.false_eq_true, reduceCtorEq, iff_false, iff_true] <;> omega)))
      · refine ⟨_, rfl, _, rfl, _, rfl, _, _, rfl, (by first | trivial | assumption | omega), _, _, rfl, rfl, _, _, rfl, rfl, _, rfl, ?_⟩
        refine ite2 (fun c5 => ?_) (fun c5 => ?_)
        · exact castB k (by (try simp only [decide_eq_true_eq, Bool.not_eq_true, decide_eq_false_iff_not, beq_iff_eq, Bool.not_eq_true', Bool.true_eq_false, reduceCtorEq, not_true_eq_false] at c1 c4 c5) <;> (first | rfl | (rw [Bool.eq_iff_iff]; simp only [oh_10, decide_eq_true_eq, Bool.and_eq_true, Bool.or_eq_true, Bool.not_eq_true', decide_eq_false_iff_not, Bool.false_eq_true, reduceCtorEq, iff_false, iff_true] <;> omega)))
        · refine ⟨_, rfl, _, rfl, _, rfl, _, _, rfl, (by first | trivial | assumption | omega), _, _, rfl, rfl, _, _, rfl, rfl, ?_⟩
          exact castB k (by (try simp only [decide_eq_true_eq, Bool.not_eq_true, decide_eq_false_iff_not, beq_iff_eq, Bool.not_eq_true', Bool.true_eq_false, reduceCtorEq, not_true_eq_false] at c1 c4 c5) <;> (first | rfl | (rw [Bool.eq_iff_iff]; simp only [oh_10, decide_eq_true_eq, Bool.and_eq_true, Bool.or_eq_true, Bool.not_eq_true', decide_eq_false_iff_not, Bool.false_eq_true, reduceCtorEq, iff_false, iff_true] <;> omega)))
abbrev sp_canton : Sp := spI3 (fun line p r => 0 ≤ line ∧ line ≤ 5) (fun line p r => .bl (Sh.ordHas 11 line.toNat p r))
theorem sc_canton : FnScope ["line", "p", "r"] ["line", "p", "r"] (defScope s_canton) := ⟨rfl, rfl, rfl, by decide +kernel, rfl, by decide +kernel, by decide +kernel⟩
theorem ok_canton (T : Txt K mg d) : OkD P w K mg base CX0 6 d.f_canton ["line", "p", "r"] (sp_canton) := by
  obtain ⟨fd, F, B⟩ := T.k_canton.ex
  obtain ⟨⟨fd_in_corner, G_in_corner, B_in_corner⟩, kp_in_corner⟩ := ok_in_corner (P := P) (w := w) (base := base) T
  refine ⟨⟨fd, F.ok sc_canton (fun vs H Q E h => ?_) (fun cdv A outer s H vs Q E hr h => ?_), B⟩, F.kp⟩
  · obtain ⟨line, p, r, rfl, _⟩ := h
    rfl
  · obtain ⟨line, p, r, rfl, hC, k⟩ := h
    have hr_in_corner : Room 5 _ := hr.mono (by decide)
    refine ⟨_, pss_one (ps_ret (pe_call G_in_corner hr_in_corner rfl T.k_in_corner.gl kp_in_corner B_in_corner .nil pass0 (pa_cons (pv 0) (pa_cons (pv 1) (pa_cons (pv 2) (pa_cons pe_int (pa_cons pe_int pa_nil))))))), ?_⟩
    refine ⟨_, rfl, _, rfl, _, rfl, _, _, _, _, _, rfl, (by first | trivial | assumption | omega), ?_⟩
    exact castB k (by (first | rfl | (rw [Bool.eq_iff_iff]; simp only [decide_eq_true_eq, Bool.and_eq_true, Bool.or_eq_true, Bool.not_eq_true', decide_eq_false_iff_not, Bool.false_eq_true, reduceCtorEq, iff_false, iff_true] <;> omega)))
abbrev sp_quarter : Sp := spI3 (fun line p r => 0 ≤ line ∧ line ≤ 5) (fun line p r => .bl (Sh.ordHas 12 line.toNat p r))
theorem sc_quarter : FnScope ["line", "p", "r"] ["line", "p", "r"] (defScope s_quarter) := ⟨rfl, rfl, rfl, by decide +kernel, rfl, by decide +kernel, by decide +kernel⟩
theorem ok_quarter (T : Txt K mg d) : OkD P w K mg base CX0 6 d.f_quarter ["line", "p", "r"] (sp_quarter) := by
  obtain ⟨fd, F, B⟩ := T.k_quarter.ex
  obtain ⟨⟨fd_in_corner, G_in_corner, B_in_corner⟩, kp_in_corner⟩ := ok_in_corner (P := P) (w := w) (base := base) T
  refine ⟨⟨fd, F.ok sc_quarter (fun vs H Q E h => ?_) (fun cdv A outer s H vs Q E hr h => ?_), B⟩, F.kp⟩
  · obtain ⟨line, p, r, rfl, _⟩ := h
    rfl
  · obtain ⟨line, p, r, rfl, hC, k⟩ := h
    have hr_in_corner : Room 5 _ := hr.mono (by decide)
    refine ⟨_, pss_one (ps_ret (pe_call G_in_corner hr_in_corner rfl T.k_in_corner.gl kp_in_corner B_in_corner .nil pass0 (pa_cons (pv 0) (pa_cons (pv 1) (pa_cons (pv 2) (pa_cons pe_int (pa_cons pe_int pa_nil))))))), ?_⟩
    refine ⟨_, rfl, _, rfl, _, rfl, _, _, _, _, _, rfl, (by first | trivial | assumption | omega), ?_⟩
    exact castB k (by (first | rfl | (rw [Bool.eq_iff_iff]; simp only [decide_eq_true_eq, Bool.and_eq_true, Bool.or_eq_true, Bool.not_eq_true', decide_eq_false_iff_not, Bool.false_eq_true, reduceCtorEq, iff_false, iff_true] <;> omega)))
abbrev sp_ordinary_has : Sp := spI4 (fun figure line p r => 0 ≤ line ∧ line ≤ 5 ∧ 0 ≤ figure ∧ figure ≤ 12) (fun figure line p r => .bl (Sh.ordHas figure.toNat line.toNat p r))
theorem sc_ordinary_has : FnScope ["figure", "line", "p", "r"] ["figure", "line", "p", "r"] (defScope s_ordinary_has) := ⟨rfl, rfl, rfl, by decide +kernel, rfl, by decide +kernel, by decide +kernel⟩
theorem ok_ordinary_has (T : Txt K mg d) : OkD P w K mg base CX0 7 d.f_ordinary_has ["figure", "line", "p", "r"] (sp_ordinary_has) := by
  obtain ⟨fd, F, B⟩ := T.k_ordinary_has.ex
  obtain ⟨a_ORDINARIES, m_ORDINARIES, q_ORDINARIES⟩ := T.tORDINARIES
  obtain ⟨⟨fd_chief, G_chief, B_chief⟩, kp_chief⟩ := ok_chief (P := P) (w := w) (base := base) T
  obtain ⟨⟨fd_base, G_base, B_base⟩, kp_base⟩ := ok_base (P := P) (w := w) (base := base) T
  obtain ⟨⟨fd_pale, G_pale, B_pale⟩, kp_pale⟩ := ok_pale (P := P) (w := w) (base := base) T
  obtain ⟨⟨fd_fess, G_fess, B_fess⟩, kp_fess⟩ := ok_fess (P := P) (w := w) (base := base) T
  obtain ⟨⟨fd_bend, G_bend, B_bend⟩, kp_bend⟩ := ok_bend (P := P) (w := w) (base := base) T
  obtain ⟨⟨fd_bend_sinister, G_bend_sinister, B_bend_sinister⟩, kp_bend_sinister⟩ := ok_bend_sinister (P := P) (w := w) (base := base) T
  obtain ⟨⟨fd_chevron, G_chevron, B_chevron⟩, kp_chevron⟩ := ok_chevron (P := P) (w := w) (base := base) T
  obtain ⟨⟨fd_cross, G_cross, B_cross⟩, kp_cross⟩ := ok_cross (P := P) (w := w) (base := base) T
  obtain ⟨⟨fd_saltire, G_saltire, B_saltire⟩, kp_saltire⟩ := ok_saltire (P := P) (w := w) (base := base) T
  obtain ⟨⟨fd_pile, G_pile, B_pile⟩, kp_pile⟩ := ok_pile (P := P) (w := w) (base := base) T
  obtain ⟨⟨fd_bordure, G_bordure, B_bordure⟩, kp_bordure⟩ := ok_bordure (P := P) (w := w) (base := base) T
  obtain ⟨⟨fd_canton, G_canton, B_canton⟩, kp_canton⟩ := ok_canton (P := P) (w := w) (base := base) T
  obtain ⟨⟨fd_quarter, G_quarter, B_quarter⟩, kp_quarter⟩ := ok_quarter (P := P) (w := w) (base := base) T
  refine ⟨⟨fd, F.ok sc_ordinary_has (fun vs H Q E h => ?_) (fun cdv A outer s H vs Q E hr h => ?_), B⟩, F.kp⟩
  · obtain ⟨figure, line, p, r, rfl, _⟩ := h
    rfl
  · obtain ⟨figure, line, p, r, rfl, hC, k⟩ := h
    have hr_ORDINARIES : Room 6 _ := hr.mono (by decide)
    refine ⟨_, pss_one (ps_ret (pe_callE hr_ORDINARIES (pe_ix ix_tup (pe_glob (v := .ref a_ORDINARIES) rfl m_ORDINARIES rfl) (pv 0) (fun _ _ => rfl)) (pa_cons (pv 1) (pa_cons (pv 2) (pa_cons (pv 3) pa_nil))))), ?_⟩
    rcases (show figure = 0 ∨ figure = 1 ∨ figure = 2 ∨ figure = 3 ∨ figure = 4 ∨ figure = 5 ∨ figure = 6 ∨ figure = 7 ∨ figure = 8 ∨ figure = 9 ∨ figure = 10 ∨ figure = 11 ∨ figure = 12 by omega) with rfl | rfl | rfl | rfl | rfl | rfl | rfl | rfl | rfl | rfl | rfl | rfl | rfl
    · refine ⟨_, rfl, _, _, _, _, rfl, rfl, q_ORDINARIES _, (by rfl), _, sp_chief, rfl, ⟨_, _, _, (by decide), G_chief, B_chief, kp_chief⟩, _, rfl, _, rfl, _, rfl, _, _, _, rfl, (by first | trivial | assumption | omega), ?_⟩
      exact castB k (by (first | rfl | (rw [Bool.eq_iff_iff]; simp only [decide_eq_true_eq, Bool.and_eq_true, Bool.or_eq_true, Bool.not_eq_true', decide_eq_false_iff_not, Bool.false_eq_true, reduceCtorEq, iff_false, iff_true] <;> omega)))
    · refine ⟨_, rfl, _, _, _, _, rfl, rfl, q_ORDINARIES _, (by rfl), _, sp_base, rfl, ⟨_, _, _, (by decide), G_base, B_base, kp_base⟩, _, rfl, _, rfl, _, rfl, _, _, _, rfl, (by first | trivial | assumption | omega), ?_⟩
      exact castB k (by (first | rfl | (rw [Bool.eq_iff_iff]; simp only [decide_eq_true_eq, Bool.and_eq_true, Bool.or_eq_true, Bool.not_eq_true', decide_eq_false_iff_not, Bool.false_eq_true, reduceCtorEq, iff_false, iff_true] <;> omega)))
    · refine ⟨_, rfl, _, _, _, _, rfl, rfl, q_ORDINARIES _, (by rfl), _, sp_pale, rfl, ⟨_, _, _, (by decide), G_pale, B_pale, kp_pale⟩, _, rfl, _, rfl, _, rfl, _, _, _, rfl, (by first | trivial | assumption | omega), ?_⟩
      exact castB k (by (first | rfl | (rw [Bool.eq_iff_iff]; simp only [decide_eq_true_eq, Bool.and_eq_true, Bool.or_eq_true, Bool.not_eq_true', decide_eq_false_iff_not, Bool.false_eq_true, reduceCtorEq, iff_false, iff_true] <;> omega)))
    · refine ⟨_, rfl, _, _, _, _, rfl, rfl, q_ORDINARIES _, (by rfl), _, sp_fess, rfl, ⟨_, _, _, (by decide), G_fess, B_fess, kp_fess⟩, _, rfl, _, rfl, _, rfl, _, _, _, rfl, (by first | trivial | assumption | omega), ?_⟩
      exact castB k (by (first | rfl | (rw [Bool.eq_iff_iff]; simp only [decide_eq_true_eq, Bool.and_eq_true, Bool.or_eq_true, Bool.not_eq_true', decide_eq_false_iff_not, Bool.false_eq_true, reduceCtorEq, iff_false, iff_true] <;> omega)))
    · refine ⟨_, rfl, _, _, _, _, rfl, rfl, q_ORDINARIES _, (by rfl), _, sp_bend, rfl, ⟨_, _, _, (by decide), G_bend, B_bend, kp_bend⟩, _, rfl, _, rfl, _, rfl, _, _, _, rfl, (by first | trivial | assumption | omega), ?_⟩
      exact castB k (by (first | rfl | (rw [Bool.eq_iff_iff]; simp only [decide_eq_true_eq, Bool.and_eq_true, Bool.or_eq_true, Bool.not_eq_true', decide_eq_false_iff_not, Bool.false_eq_true, reduceCtorEq, iff_false, iff_true] <;> omega)))
    · refine ⟨_, rfl, _, _, _, _, rfl, rfl, q_ORDINARIES _, (by rfl), _, sp_bend_sinister, rfl, ⟨_, _, _, (by decide), G_bend_sinister, B_bend_sinister, kp_bend_sinister⟩, _, rfl, _, rfl, _, rfl, _, _, _, rfl, (by first | trivial | assumption | omega), ?_⟩
      exact castB k (by (first | rfl | (rw [Bool.eq_iff_iff]; simp only [decide_eq_true_eq, Bool.and_eq_true, Bool.or_eq_true, Bool.not_eq_true', decide_eq_false_iff_not, Bool.false_eq_true, reduceCtorEq, iff_false, iff_true] <;> omega)))
    · refine ⟨_, rfl, _, _, _, _, rfl, rfl, q_ORDINARIES _, (by rfl), _, sp_chevron, rfl, ⟨_, _, _, (by decide), G_chevron, B_chevron, kp_chevron⟩, _, rfl, _, rfl, _, rfl, _, _, _, rfl, (by first | trivial | assumption | omega), ?_⟩
      exact castB k (by (first | rfl | (rw [Bool.eq_iff_iff]; simp only [decide_eq_true_eq, Bool.and_eq_true, Bool.or_eq_true, Bool.not_eq_true', decide_eq_false_iff_not, Bool.false_eq_true, reduceCtorEq, iff_false, iff_true] <;> omega)))
    · refine ⟨_, rfl, _, _, _, _, rfl, rfl, q_ORDINARIES _, (by rfl), _, sp_cross, rfl, ⟨_, _, _, (by decide), G_cross, B_cross, kp_cross⟩, _, rfl, _, rfl, _, rfl, _, _, _, rfl, (by first | trivial | assumption | omega), ?_⟩
      exact castB k (by (first | rfl | (rw [Bool.eq_iff_iff]; simp only [decide_eq_true_eq, Bool.and_eq_true, Bool.or_eq_true, Bool.not_eq_true', decide_eq_false_iff_not, Bool.false_eq_true, reduceCtorEq, iff_false, iff_true] <;> omega)))
    · refine ⟨_, rfl, _, _, _, _, rfl, rfl, q_ORDINARIES _, (by rfl), _, sp_saltire, rfl, ⟨_, _, _, (by decide), G_saltire, B_saltire, kp_saltire⟩, _, rfl, _, rfl, _, rfl, _, _, _, rfl, (by first | trivial | assumption | omega), ?_⟩
      exact castB k (by (first | rfl | (rw [Bool.eq_iff_iff]; simp only [decide_eq_true_eq, Bool.and_eq_true, Bool.or_eq_true, Bool.not_eq_true', decide_eq_false_iff_not, Bool.false_eq_true, reduceCtorEq, iff_false, iff_true] <;> omega)))
    · refine ⟨_, rfl, _, _, _, _, rfl, rfl, q_ORDINARIES _, (by rfl), _, sp_pile, rfl, ⟨_, _, _, (by decide), G_pile, B_pile, kp_pile⟩, _, rfl, _, rfl, _, rfl, _, _, _, rfl, (by first | trivial | assumption | omega), ?_⟩
      exact castB k (by (first | rfl | (rw [Bool.eq_iff_iff]; simp only [decide_eq_true_eq, Bool.and_eq_true, Bool.or_eq_true, Bool.not_eq_true', decide_eq_false_iff_not, Bool.false_eq_true, reduceCtorEq, iff_false, iff_true] <;> omega)))
    · refine ⟨_, rfl, _, _, _, _, rfl, rfl, q_ORDINARIES _, (by rfl), _, sp_bordure, rfl, ⟨_, _, _, (by decide), G_bordure, B_bordure, kp_bordure⟩, _, rfl, _, rfl, _, rfl, _, _, _, rfl, (by first | trivial | assumption | omega), ?_⟩
      exact castB k (by (first | rfl | (rw [Bool.eq_iff_iff]; simp only [decide_eq_true_eq, Bool.and_eq_true, Bool.or_eq_true, Bool.not_eq_true', decide_eq_false_iff_not, Bool.false_eq_true, reduceCtorEq, iff_false, iff_true] <;> omega)))
    · refine ⟨_, rfl, _, _, _, _, rfl, rfl, q_ORDINARIES _, (by rfl), _, sp_canton, rfl, ⟨_, _, _, (by decide), G_canton, B_canton, kp_canton⟩, _, rfl, _, rfl, _, rfl, _, _, _, rfl, (by first | trivial | assumption | omega), ?_⟩
      exact castB k (by (first | rfl | (rw [Bool.eq_iff_iff]; simp only [decide_eq_true_eq, Bool.and_eq_true, Bool.or_eq_true, Bool.not_eq_true', decide_eq_false_iff_not, Bool.false_eq_true, reduceCtorEq, iff_false, iff_true] <;> omega)))
    · refine ⟨_, rfl, _, _, _, _, rfl, rfl, q_ORDINARIES _, (by rfl), _, sp_quarter, rfl, ⟨_, _, _, (by decide), G_quarter, B_quarter, kp_quarter⟩, _, rfl, _, rfl, _, rfl, _, _, _, rfl, (by first | trivial | assumption | omega), ?_⟩
      exact castB k (by (first | rfl | (rw [Bool.eq_iff_iff]; simp only [decide_eq_true_eq, Bool.and_eq_true, Bool.or_eq_true, Bool.not_eq_true', decide_eq_false_iff_not, Bool.false_eq_true, reduceCtorEq, iff_false, iff_true] <;> omega)))
end
end HC
namespace HC
open PySem PySem.Spec PyProof.Rows L2
section
variable {P : Program} {w : World} {K : PySem.W.Frag} {mg : Str → Option Value} {base : Heap} {d : Ad}
abbrev sp_squared : Sp := spI2 (fun x y => -100 ≤ x ∧ x ≤ 100 ∧ -100 ≤ y ∧ y ≤ 100) (fun x y => .int (x * x + y * y))
theorem sc_squared : FnScope ["x", "y"] ["x", "y"] (defScope s_squared) := ⟨rfl, rfl, rfl, by decide +kernel, rfl, by decide +kernel, by decide +kernel⟩
theorem ok_squared (T : Txt K mg d) : OkD P w K mg base CX0 1 d.f_squared ["x", "y"] (sp_squared) := by
  obtain ⟨fd, F, B⟩ := T.k_squared.ex
  refine ⟨⟨fd, F.ok sc_squared (fun vs H Q E h => ?_) (fun cdv A outer s H vs Q E hr h => ?_), B⟩, F.kp⟩
  · obtain ⟨x, y, rfl, _⟩ := h
    rfl
  · obtain ⟨x, y, rfl, hC, k⟩ := h
    refine ⟨_, pss_one (ps_ret (pe_op op_add (pe_op op_mul (pv 0) (pv 0)) (pe_op op_mul (pv 1) (pv 1)))), ?_⟩
    refine ⟨_, rfl, _, rfl, _, _, rfl, rfl, (by first | (apply Or.inl; constructor <;> (first | decide | omega)) | (apply Or.inr; constructor <;> (first | decide | omega))), _, rfl, _, rfl, _, _, rfl, rfl, (by first | (apply Or.inl; constructor <;> (first | decide | omega)) | (apply Or.inr; constructor <;> (first | decide | omega))), _, _, rfl, rfl, ?_⟩
    exact castI k (by (first | rfl | (skip; (repeat' split) <;> omega)))
abbrev sp_roundel : Sp := spI2 (fun x y => -48 ≤ x ∧ x ≤ 48 ∧ -48 ≤ y ∧ y ≤ 48) (fun x y => .bl (Sh.chargeHas 0 x y))
theorem sc_roundel : FnScope ["x", "y"] ["x", "y"] (defScope s_roundel) := ⟨rfl, rfl, rfl, by decide +kernel, rfl, by decide +kernel, by decide +kernel⟩
theorem ok_roundel (T : Txt K mg d) : OkD P w K mg base CX0 2 d.f_roundel ["x", "y"] (sp_roundel) := by
  obtain ⟨fd, F, B⟩ := T.k_roundel.ex
  obtain ⟨⟨fd_squared, G_squared, B_squared⟩, kp_squared⟩ := ok_squared (P := P) (w := w) (base := base) T
  refine ⟨⟨fd, F.ok sc_roundel (fun vs H Q E h => ?_) (fun cdv A outer s H vs Q E hr h => ?_), B⟩, F.kp⟩
  · obtain ⟨x, y, rfl, _⟩ := h
    rfl
  · obtain ⟨x, y, rfl, hC, k⟩ := h
    have hr_squared : Room 1 _ := hr.mono (by decide)
    refine ⟨_, pss_one (ps_ret (pe_cmpR op_lt (pe_call G_squared hr_squared rfl T.k_squared.gl kp_squared B_squared .nil pass0 (pa_cons (pv 0) (pa_cons (pv 1) pa_nil))) pe_int (nomark _))), ?_⟩
    refine ⟨_, rfl, _, rfl, _, _, rfl, (by first | trivial | assumption | omega), _, _, rfl, rfl, ?_⟩
    exact castB k (by (first | rfl | (rw [Bool.eq_iff_iff]; simp only [ch_0 hC, Sh.within, decide_eq_true_eq, Bool.and_eq_true, Bool.or_eq_true, Bool.not_eq_true', decide_eq_false_iff_not, Bool.false_eq_true, reduceCtorEq, iff_false, iff_true] <;> (try simp only [Sh.size]) <;> omega)))
abbrev sp_annulet : Sp := spI2 (fun x y => -48 ≤ x ∧ x ≤ 48 ∧ -48 ≤ y ∧ y ≤ 48) (fun x y => .bl (Sh.chargeHas 1 x y))
theorem sc_annulet : FnScope ["x", "y"] ["x", "y"] (defScope s_annulet) := ⟨rfl, rfl, rfl, by decide +kernel, rfl, by decide +kernel, by decide +kernel⟩
theorem ok_annulet (T : Txt K mg d) : OkD P w K mg base CX0 2 d.f_annulet ["x", "y"] (sp_annulet) := by
  obtain ⟨fd, F, B⟩ := T.k_annulet.ex
  obtain ⟨⟨fd_squared, G_squared, B_squared⟩, kp_squared⟩ := ok_squared (P := P) (w := w) (base := base) T
  refine ⟨⟨fd, F.ok sc_annulet (fun vs H Q E h => ?_) (fun cdv A outer s H vs Q E hr h => ?_), B⟩, F.kp⟩
  · obtain ⟨x, y, rfl, _⟩ := h
    rfl
  · obtain ⟨x, y, rfl, hC, k⟩ := h
    have hr_squared : Room 1 _ := hr.mono (by decide)
    refine ⟨_, pss_one (ps_ret (pe_chain op_le op_lt pe_int (pe_call G_squared hr_squared rfl T.k_squared.gl kp_squared B_squared .nil pass0 (pa_cons (pv 0) (pa_cons (pv 1) pa_nil))) pe_int)), ?_⟩
    refine ⟨_, rfl, _, rfl, _, _, rfl, (by first | trivial | assumption | omega), _, _, rfl, rfl, _, rfl, ?_⟩
    refine ite2 (fun c1 => ?_) (fun c1 => ?_)
    · refine ⟨_, _, rfl, rfl, ?_⟩
      exact castB k (by (try simp only [decide_eq_true_eq, Bool.not_eq_true, decide_eq_false_iff_not, beq_iff_eq, Bool.not_eq_true', Bool.true_eq_false, reduceCtorEq, not_true_eq_false] at c1) <;> (first | rfl | (rw [Bool.eq_iff_iff]; simp only [ch_1 hC, Sh.within, decide_eq_true_eq, Bool.and_eq_true, Bool.or_eq_true, Bool.not_eq_true', decide_eq_false_iff_not, Bool.false_eq_true, reduceCtorEq, iff_false, iff_true] <;> (try simp only [Sh.size]) <;> omega)))
    · exact castB k (by (try simp only [decide_eq_true_eq, Bool.not_eq_true, decide_eq_false_iff_not, beq_iff_eq, Bool.not_eq_true', Bool.true_eq_false, reduceCtorEq, not_true_eq_false] at c1) <;> (first | rfl | (rw [Bool.eq_iff_iff]; simp only [ch_1 hC, Sh.within, decide_eq_true_eq, Bool.and_eq_true, Bool.or_eq_true, Bool.not_eq_true', decide_eq_false_iff_not, Bool.false_eq_true, reduceCtorEq, iff_false, iff_true] <;> (try simp only [Sh.size]) <;> omega)))
abbrev sp_lozenge : Sp := spI2 (fun x y => -48 ≤ x ∧ x ≤ 48 ∧ -48 ≤ y ∧ y ≤ 48) (fun x y => .bl (Sh.chargeHas 2 x y))
theorem sc_lozenge : FnScope ["x", "y"] ["x", "y"] (defScope s_lozenge) := ⟨rfl, rfl, rfl, by decide +kernel, rfl, by decide +kernel, by decide +kernel⟩
theorem ok_lozenge (T : Txt K mg d) : OkD P w K mg base CX0 1 d.f_lozenge ["x", "y"] (sp_lozenge) := by
  obtain ⟨fd, F, B⟩ := T.k_lozenge.ex
  refine ⟨⟨fd, F.ok sc_lozenge (fun vs H Q E h => ?_) (fun cdv A outer s H vs Q E hr h => ?_), B⟩, F.kp⟩
  · obtain ⟨x, y, rfl, _⟩ := h
    rfl
  · obtain ⟨x, y, rfl, hC, k⟩ := h
    refine ⟨_, pss_one (ps_ret (pe_cmpR op_lt (pe_op op_add (pe_op op_mul pe_int (pe_callB call_abs (by rfl) T.b_abs (by decide +kernel) (pa_cons (pv 0) pa_nil))) (pe_op op_mul pe_int (pe_callB call_abs (by rfl) T.b_abs (by decide +kernel) (pa_cons (pv 1) pa_nil)))) pe_int (nomark _))), ?_⟩
    refine ⟨_, rfl, _, rfl, _, _, rfl, rfl, (by first | (apply Or.inl; constructor <;> (first | decide | omega)) | (apply Or.inr; constructor <;> (first | decide | omega))), _, rfl, _, rfl, _, _, rfl, rfl, (by first | (apply Or.inl; constructor <;> (first | decide | omega)) | (apply Or.inr; constructor <;> (first | decide | omega))), _, _, rfl, rfl, _, _, rfl, rfl, ?_⟩
    exact castB k (by (first | rfl | (rw [Bool.eq_iff_iff]; simp only [ch_2 hC, Sh.within, decide_eq_true_eq, Bool.and_eq_true, Bool.or_eq_true, Bool.not_eq_true', decide_eq_false_iff_not, Bool.false_eq_true, reduceCtorEq, iff_false, iff_true] <;> (try simp only [Sh.size]) <;> omega)))
abbrev sp_mascle : Sp := spI2 (fun x y => -48 ≤ x ∧ x ≤ 48 ∧ -48 ≤ y ∧ y ≤ 48) (fun x y => .bl (Sh.chargeHas 3 x y))
theorem sc_mascle : FnScope ["x", "y"] ["x", "y"] (defScope s_mascle) := ⟨rfl, rfl, rfl, by decide +kernel, rfl, by decide +kernel, by decide +kernel⟩
theorem ok_mascle (T : Txt K mg d) : OkD P w K mg base CX0 1 d.f_mascle ["x", "y"] (sp_mascle) := by
  obtain ⟨fd, F, B⟩ := T.k_mascle.ex
  refine ⟨⟨fd, F.ok sc_mascle (fun vs H Q E h => ?_) (fun cdv A outer s H vs Q E hr h => ?_), B⟩, F.kp⟩
  · obtain ⟨x, y, rfl, _⟩ := h
    rfl
  · obtain ⟨x, y, rfl, hC, k⟩ := h
    refine ⟨_, pss_one (ps_ret (pe_chain op_le op_lt pe_int (pe_op op_add (pe_op op_mul pe_int (pe_callB call_abs (by rfl) T.b_abs (by decide +kernel) (pa_cons (pv 0) pa_nil))) (pe_op op_mul pe_int (pe_callB call_abs (by rfl) T.b_abs (by decide +kernel) (pa_cons (pv 1) pa_nil)))) pe_int)), ?_⟩
    refine ⟨_, rfl, _, rfl, _, _, rfl, rfl, (by first | (apply Or.inl; constructor <;> (first | decide | omega)) | (apply Or.inr; constructor <;> (first | decide | omega))), _, rfl, _, rfl, _, _, rfl, rfl, (by first | (apply Or.inl; constructor <;> (first | decide | omega)) | (apply Or.inr; constructor <;> (first | decide | omega))), _, _, rfl, rfl, _, _, rfl, rfl, _, rfl, ?_⟩
    refine ite2 (fun c1 => ?_) (fun c1 => ?_)
    · refine ⟨_, _, rfl, rfl, ?_⟩
      exact castB k (by (try simp only [decide_eq_true_eq, Bool.not_eq_true, decide_eq_false_iff_not, beq_iff_eq, Bool.not_eq_true', Bool.true_eq_false, reduceCtorEq, not_true_eq_false] at c1) <;> (first | rfl | (rw [Bool.eq_iff_iff]; simp only [ch_3 hC, Sh.within, decide_eq_true_eq, Bool.and_eq_true, Bool.or_eq_true, Bool.not_eq_true', decide_eq_false_iff_not, Bool.false_eq_true, reduceCtorEq, iff_false, iff_true] <;> (try simp only [Sh.size]) <;> omega)))
    · exact castB k (by (try simp only [decide_eq_true_eq, Bool.not_eq_true, decide_eq_false_iff_not, beq_iff_eq, Bool.not_eq_true', Bool.true_eq_false, reduceCtorEq, not_true_eq_false] at c1) <;> (first | rfl | (rw [Bool.eq_iff_iff]; simp only [ch_3 hC, Sh.within, decide_eq_true_eq, Bool.and_eq_true, Bool.or_eq_true, Bool.not_eq_true', decide_eq_false_iff_not, Bool.false_eq_true, reduceCtorEq, iff_false, iff_true] <;> (try simp only [Sh.size]) <;> omega)))
abbrev sp_fusil : Sp := spI2 (fun x y => -48 ≤ x ∧ x ≤ 48 ∧ -48 ≤ y ∧ y ≤ 48) (fun x y => .bl (Sh.chargeHas 4 x y))
theorem sc_fusil : FnScope ["x", "y"] ["x", "y"] (defScope s_fusil) := ⟨rfl, rfl, rfl, by decide +kernel, rfl, by decide +kernel, by decide +kernel⟩
theorem ok_fusil (T : Txt K mg d) : OkD P w K mg base CX0 1 d.f_fusil ["x", "y"] (sp_fusil) := by
  obtain ⟨fd, F, B⟩ := T.k_fusil.ex
  refine ⟨⟨fd, F.ok sc_fusil (fun vs H Q E h => ?_) (fun cdv A outer s H vs Q E hr h => ?_), B⟩, F.kp⟩
  · obtain ⟨x, y, rfl, _⟩ := h
    rfl
  · obtain ⟨x, y, rfl, hC, k⟩ := h
    refine ⟨_, pss_one (ps_ret (pe_cmpR op_lt (pe_op op_add (pe_op op_mul pe_int (pe_callB call_abs (by rfl) T.b_abs (by decide +kernel) (pa_cons (pv 0) pa_nil))) (pe_callB call_abs (by rfl) T.b_abs (by decide +kernel) (pa_cons (pv 1) pa_nil))) pe_int (nomark _))), ?_⟩
    refine ⟨_, rfl, _, rfl, _, _, rfl, rfl, (by first | (apply Or.inl; constructor <;> (first | decide | omega)) | (apply Or.inr; constructor <;> (first | decide | omega))), _, rfl, _, rfl, _, _, rfl, rfl, _, _, rfl, rfl, ?_⟩
    exact castB k (by (first | rfl | (rw [Bool.eq_iff_iff]; simp only [ch_4 hC, Sh.within, decide_eq_true_eq, Bool.and_eq_true, Bool.or_eq_true, Bool.not_eq_true', decide_eq_false_iff_not, Bool.false_eq_true, reduceCtorEq, iff_false, iff_true] <;> (try simp only [Sh.size]) <;> omega)))
abbrev sp_billet : Sp := spI2 (fun x y => -48 ≤ x ∧ x ≤ 48 ∧ -48 ≤ y ∧ y ≤ 48) (fun x y => .bl (Sh.chargeHas 5 x y))
theorem sc_billet : FnScope ["x", "y"] ["x", "y"] (defScope s_billet) := ⟨rfl, rfl, rfl, by decide +kernel, rfl, by decide +kernel, by decide +kernel⟩
theorem ok_billet (T : Txt K mg d) : OkD P w K mg base CX0 1 d.f_billet ["x", "y"] (sp_billet) := by
  obtain ⟨fd, F, B⟩ := T.k_billet.ex
  refine ⟨⟨fd, F.ok sc_billet (fun vs H Q E h => ?_) (fun cdv A outer s H vs Q E hr h => ?_), B⟩, F.kp⟩
  · obtain ⟨x, y, rfl, _⟩ := h
    rfl
  · obtain ⟨x, y, rfl, hC, k⟩ := h
    refine ⟨_, pss_one (ps_ret (pe_and (pe_cmpR op_lt (pe_callB call_abs (by rfl) T.b_abs (by decide +kernel) (pa_cons (pv 0) pa_nil)) pe_int (nomark _)) (pe_one (pe_cmpR op_lt (pe_callB call_abs (by rfl) T.b_abs (by decide +kernel) (pa_cons (pv 1) pa_nil)) pe_int (nomark _))))), ?_⟩
    refine ⟨_, rfl, _, rfl, _, _, rfl, rfl, _, rfl, ?_⟩
    refine ite2 (fun c1 => ?_) (fun c1 => ?_)
    · refine ⟨_, rfl, _, rfl, _, _, rfl, rfl, ?_⟩
      exact castB k (by (try simp only [decide_eq_true_eq, Bool.not_eq_true, decide_eq_false_iff_not, beq_iff_eq, Bool.not_eq_true', Bool.true_eq_false, reduceCtorEq, not_true_eq_false] at c1) <;> (first | rfl | (rw [Bool.eq_iff_iff]; simp only [ch_5 hC, Sh.within, decide_eq_true_eq, Bool.and_eq_true, Bool.or_eq_true, Bool.not_eq_true', decide_eq_false_iff_not, Bool.false_eq_true, reduceCtorEq, iff_false, iff_true] <;> (try simp only [Sh.size]) <;> omega)))
    · exact castB k (by (try simp only [decide_eq_true_eq, Bool.not_eq_true, decide_eq_false_iff_not, beq_iff_eq, Bool.not_eq_true', Bool.true_eq_false, reduceCtorEq, not_true_eq_false] at c1) <;> (first | rfl | (rw [Bool.eq_iff_iff]; simp only [ch_5 hC, Sh.within, decide_eq_true_eq, Bool.and_eq_true, Bool.or_eq_true, Bool.not_eq_true', decide_eq_false_iff_not, Bool.false_eq_true, reduceCtorEq, iff_false, iff_true] <;> (try simp only [Sh.size]) <;> omega)))
abbrev sp_mullet : Sp := spI2 (fun x y => -48 ≤ x ∧ x ≤ 48 ∧ -48 ≤ y ∧ y ≤ 48) (fun x y => .bl (Sh.chargeHas 6 x y))
theorem sc_mullet : FnScope ["x", "y", "upward", "downward"] ["x", "y"] (defScope s_mullet) := ⟨rfl, rfl, rfl, by decide +kernel, rfl, by decide +kernel, by decide +kernel⟩
theorem ok_mullet (T : Txt K mg d) : OkD P w K mg base CX0 1 d.f_mullet ["x", "y"] (sp_mullet) := by
  obtain ⟨fd, F, B⟩ := T.k_mullet.ex
  refine ⟨⟨fd, F.ok sc_mullet (fun vs H Q E h => ?_) (fun cdv A outer s H vs Q E hr h => ?_), B⟩, F.kp⟩
  · obtain ⟨x, y, rfl, _⟩ := h
    rfl
  · obtain ⟨x, y, rfl, hC, k⟩ := h
    refine ⟨_, pss_cons (ps_set (i := 2) sc_mullet.nd rfl (Or.inl rfl) (pe_and (pe_cmpR op_le (pv 1) pe_int (nomark _)) (pe_one (pe_cmpR op_le (pe_op op_mul pe_int (pe_callB call_abs (by rfl) T.b_abs (by decide +kernel) (pa_cons (pv 0) pa_nil))) (pe_op op_mul pe_int (pe_op op_add (pv 1) pe_int)) (nomark _)))))
      (pss_cons (ps_set (i := 3) sc_mullet.nd rfl (Or.inl rfl) (pe_and (pe_cmpR op_le (pe_un un_neg pe_int) (pv 1) (nomark _)) (pe_one (pe_cmpR op_le (pe_op op_mul pe_int (pe_callB call_abs (by rfl) T.b_abs (by decide +kernel) (pa_cons (pv 0) pa_nil))) (pe_op op_mul pe_int (pe_op op_sub pe_int (pv 1))) (nomark _)))))
      (pss_one (ps_ret (pe_or (pv 2) (pe_one (pv 3)))))), ?_⟩
    refine ⟨_, rfl, _, _, rfl, rfl, _, rfl, ?_⟩
    refine ite2 (fun c1 => ?_) (fun c1 => ?_)
    · refine ⟨_, rfl, _, rfl, _, _, rfl, rfl, (by first | (apply Or.inl; constructor <;> (first | decide | omega)) | (apply Or.inr; constructor <;> (first | decide | omega))), _, rfl, _, _, rfl, rfl, _, _, rfl, rfl, (by first | (apply Or.inl; constructor <;> (first | decide | omega)) | (apply Or.inr; constructor <;> (first | decide | omega))), _, _, rfl, rfl, _, rfl, _, rfl, _, _, rfl, rfl, _, rfl, ?_⟩
      refine ite2 (fun c2 => ?_) (fun c2 => ?_)
      · refine ⟨_, rfl, _, rfl, _, _, rfl, rfl, (by first | (apply Or.inl; constructor <;> (first | decide | omega)) | (apply Or.inr; constructor <;> (first | decide | omega))), _, rfl, _, _, rfl, rfl, _, _, rfl, rfl, (by first | (apply Or.inl; constructor <;> (first | decide | omega)) | (apply Or.inr; constructor <;> (first | decide | omega))), _, _, rfl, rfl, _, rfl, _, rfl, ?_⟩
        refine ite2 (fun c3 => ?_) (fun c3 => ?_)
        · exact castB k (by (try simp only [decide_eq_true_eq, Bool.not_eq_true, decide_eq_false_iff_not, beq_iff_eq, Bool.not_eq_true', Bool.true_eq_false, reduceCtorEq, not_true_eq_false] at c1 c2 c3) <;> (first | rfl | (rw [Bool.eq_iff_iff]; simp only [ch_6 hC, Sh.within, decide_eq_true_eq, Bool.and_eq_true, Bool.or_eq_true, Bool.not_eq_true', decide_eq_false_iff_not, Bool.false_eq_true, reduceCtorEq, iff_false, iff_true] <;> (try simp only [Sh.size]) <;> omega)))
        · refine ⟨_, rfl, ?_⟩
          exact castB k (by (try simp only [decide_eq_true_eq, Bool.not_eq_true, decide_eq_false_iff_not, beq_iff_eq, Bool.not_eq_true', Bool.true_eq_false, reduceCtorEq, not_true_eq_false] at c1 c2 c3) <;> (first | rfl | (rw [Bool.eq_iff_iff]; simp only [ch_6 hC, Sh.within, decide_eq_true_eq, Bool.and_eq_true, Bool.or_eq_true, Bool.not_eq_true', decide_eq_false_iff_not, Bool.false_eq_true, reduceCtorEq, iff_false, iff_true] <;> (try simp only [Sh.size]) <;> omega)))
      · refine ⟨_, rfl, _, rfl, ?_⟩
        refine ite2 (fun c4 => ?_) (fun c4 => ?_)
        · exact castB k (by (try simp only [decide_eq_true_eq, Bool.not_eq_true, decide_eq_false_iff_not, beq_iff_eq, Bool.not_eq_true', Bool.true_eq_false, reduceCtorEq, not_true_eq_false] at c1 c2 c4) <;> (first | rfl | (rw [Bool.eq_iff_iff]; simp only [ch_6 hC, Sh.within, decide_eq_true_eq, Bool.and_eq_true, Bool.or_eq_true, Bool.not_eq_true', decide_eq_false_iff_not, Bool.false_eq_true, reduceCtorEq, iff_false, iff_true] <;> (try simp only [Sh.size]) <;> omega)))
        · refine ⟨_, rfl, ?_⟩
          exact castB k (by (try simp only [decide_eq_true_eq, Bool.not_eq_true, decide_eq_false_iff_not, beq_iff_eq, Bool.not_eq_true', Bool.true_eq_false, reduceCtorEq, not_true_eq_false] at c1 c2 c4) <;> (first | rfl | (rw [Bool.eq_iff_iff]; simp only [ch_6 hC, Sh.within, decide_eq_true_eq, Bool.and_eq_true, Bool.or_eq_true, Bool.not_eq_true', decide_eq_false_iff_not, Bool.false_eq_true, reduceCtorEq, iff_false, iff_true] <;> (try simp only [Sh.size]) <;> omega)))
    · refine ⟨_, rfl, _, rfl, _, _, rfl, rfl, _, rfl, ?_⟩
      refine ite2 (fun c5 => ?_) (fun c5 => ?_)
      · refine ⟨_, rfl, _, rfl, _, _, rfl, rfl, (by first | (apply Or.inl; constructor <;> (first | decide | omega)) | (apply Or.inr; constructor <;> (first | decide | omega))), _, rfl, _, _, rfl, rfl, _, _, rfl, rfl, (by first | (apply Or.inl; constructor <;> (first | decide | omega)) | (apply Or.inr; constructor <;> (first | decide | omega))), _, _, rfl, rfl, _, rfl, _, rfl, ?_⟩
        refine ite2 (fun c6 => ?_) (fun c6 => ?_)
        · exact castB k (by (try simp only [decide_eq_true_eq, Bool.not_eq_true, decide_eq_false_iff_not, beq_iff_eq, Bool.not_eq_true', Bool.true_eq_false, reduceCtorEq, not_true_eq_false] at c1 c5 c6) <;> (first | rfl | (rw [Bool.eq_iff_iff]; simp only [ch_6 hC, Sh.within, decide_eq_true_eq, Bool.and_eq_true, Bool.or_eq_true, Bool.not_eq_true', decide_eq_false_iff_not, Bool.false_eq_true, reduceCtorEq, iff_false, iff_true] <;> (try simp only [Sh.size]) <;> omega)))
        · refine ⟨_, rfl, ?_⟩
          exact castB k (by (try simp only [decide_eq_true_eq, Bool.not_eq_true, decide_eq_false_iff_not, beq_iff_eq, Bool.not_eq_true', Bool.true_eq_false, reduceCtorEq, not_true_eq_false] at c1 c5 c6) <;> (first | rfl | (rw [Bool.eq_iff_iff]; simp only [ch_6 hC, Sh.within, decide_eq_true_eq, Bool.and_eq_true, Bool.or_eq_true, Bool.not_eq_true', decide_eq_false_iff_not, Bool.false_eq_true, reduceCtorEq, iff_false, iff_true] <;> (try simp only [Sh.size]) <;> omega)))
      · refine ⟨_, rfl, _, rfl, ?_⟩
        refine ite2 (fun c7 => ?_) (fun c7 => ?_)
        · exact castB k (by (try simp only [decide_eq_true_eq, Bool.not_eq_true, decide_eq_false_iff_not, beq_iff_eq, Bool.not_eq_true', Bool.true_eq_false, reduceCtorEq, not_true_eq_false] at c1 c5 c7) <;> (first | rfl | (rw [Bool.eq_iff_iff]; simp only [ch_6 hC, Sh.within, decide_eq_true_eq, Bool.and_eq_true, Bool.or_eq_true, Bool.not_eq_true', decide_eq_false_iff_not, Bool.false_eq_true, reduceCtorEq, iff_false, iff_true] <;> (try simp only [Sh.size]) <;> omega)))
        · refine ⟨_, rfl, ?_⟩
          exact castB k (by (try simp only [decide_eq_true_eq, Bool.not_eq_true, decide_eq_false_iff_not, beq_iff_eq, Bool.not_eq_true', Bool.true_eq_false, reduceCtorEq, not_true_eq_false] at c1 c5 c7) <;> (first | rfl | (rw [Bool.eq_iff_iff]; simp only [ch_6 hC, Sh.within, decide_eq_true_eq, Bool.and_eq_true, Bool.or_eq_true, Bool.not_eq_true', decide_eq_false_iff_not, Bool.false_eq_true, reduceCtorEq, iff_false, iff_true] <;> (try simp only [Sh.size]) <;> omega)))
abbrev sp_crescent : Sp := spI2 (fun x y => -48 ≤ x ∧ x ≤ 48 ∧ -48 ≤ y ∧ y ≤ 48) (fun x y => .bl (Sh.chargeHas 7 x y))
theorem sc_crescent : FnScope ["x", "y"] ["x", "y"] (defScope s_crescent) := ⟨rfl, rfl, rfl, by decide +kernel, rfl, by decide +kernel, by decide +kernel⟩
theorem ok_crescent (T : Txt K mg d) : OkD P w K mg base CX0 2 d.f_crescent ["x", "y"] (sp_crescent) := by
  obtain ⟨fd, F, B⟩ := T.k_crescent.ex
  obtain ⟨⟨fd_squared, G_squared, B_squared⟩, kp_squared⟩ := ok_squared (P := P) (w := w) (base := base) T
  refine ⟨⟨fd, F.ok sc_crescent (fun vs H Q E h => ?_) (fun cdv A outer s H vs Q E hr h => ?_), B⟩, F.kp⟩
  · obtain ⟨x, y, rfl, _⟩ := h
    rfl
  · obtain ⟨x, y, rfl, hC, k⟩ := h
    have hr_squared : Room 1 _ := hr.mono (by decide)
    refine ⟨_, pss_one (ps_ret (pe_and (pe_cmpR op_lt (pe_call G_squared hr_squared rfl T.k_squared.gl kp_squared B_squared .nil pass0 (pa_cons (pv 0) (pa_cons (pv 1) pa_nil))) pe_int (nomark _)) (pe_one (pe_cmpR op_ge (pe_call G_squared hr_squared rfl T.k_squared.gl kp_squared B_squared .nil pass0 (pa_cons (pv 0) (pa_cons (pe_op op_add (pv 1) pe_int) pa_nil))) pe_int (nomark _))))), ?_⟩
    refine ⟨_, rfl, _, rfl, _, _, rfl, (by first | trivial | assumption | omega), _, _, rfl, rfl, _, rfl, ?_⟩
    refine ite2 (fun c1 => ?_) (fun c1 => ?_)
    · refine ⟨_, rfl, _, rfl, _, _, rfl, rfl, _, _, rfl, (by first | trivial | assumption | omega), _, _, rfl, rfl, ?_⟩
      exact castB k (by (try simp only [decide_eq_true_eq, Bool.not_eq_true, decide_eq_false_iff_not, beq_iff_eq, Bool.not_eq_true', Bool.true_eq_false, reduceCtorEq, not_true_eq_false] at c1) <;> (first | rfl | (rw [Bool.eq_iff_iff]; simp only [ch_7 hC, Sh.within, decide_eq_true_eq, Bool.and_eq_true, Bool.or_eq_true, Bool.not_eq_true', decide_eq_false_iff_not, Bool.false_eq_true, reduceCtorEq, iff_false, iff_true] <;> (try simp only [Sh.size]) <;> omega)))
    · exact castB k (by (try simp only [decide_eq_true_eq, Bool.not_eq_true, decide_eq_false_iff_not, beq_iff_eq, Bool.not_eq_true', Bool.true_eq_false, reduceCtorEq, not_true_eq_false] at c1) <;> (first | rfl | (rw [Bool.eq_iff_iff]; simp only [ch_7 hC, Sh.within, decide_eq_true_eq, Bool.and_eq_true, Bool.or_eq_true, Bool.not_eq_true', decide_eq_false_iff_not, Bool.false_eq_true, reduceCtorEq, iff_false, iff_true] <;> (try simp only [Sh.size]) <;> omega)))
abbrev sp_increscent : Sp := spI2 (fun x y => -48 ≤ x ∧ x ≤ 48 ∧ -48 ≤ y ∧ y ≤ 48) (fun x y => .bl (Sh.chargeHas 8 x y))
theorem sc_increscent : FnScope ["x", "y"] ["x", "y"] (defScope s_increscent) := ⟨rfl, rfl, rfl, by decide +kernel, rfl, by decide +kernel, by decide +kernel⟩
theorem ok_increscent (T : Txt K mg d) : OkD P w K mg base CX0 2 d.f_increscent ["x", "y"] (sp_increscent) := by
  obtain ⟨fd, F, B⟩ := T.k_increscent.ex
  obtain ⟨⟨fd_squared, G_squared, B_squared⟩, kp_squared⟩ := ok_squared (P := P) (w := w) (base := base) T
  refine ⟨⟨fd, F.ok sc_increscent (fun vs H Q E h => ?_) (fun cdv A outer s H vs Q E hr h => ?_), B⟩, F.kp⟩
  · obtain ⟨x, y, rfl, _⟩ := h
    rfl
  · obtain ⟨x, y, rfl, hC, k⟩ := h
    have hr_squared : Room 1 _ := hr.mono (by decide)
    refine ⟨_, pss_one (ps_ret (pe_and (pe_cmpR op_lt (pe_call G_squared hr_squared rfl T.k_squared.gl kp_squared B_squared .nil pass0 (pa_cons (pv 0) (pa_cons (pv 1) pa_nil))) pe_int (nomark _)) (pe_one (pe_cmpR op_ge (pe_call G_squared hr_squared rfl T.k_squared.gl kp_squared B_squared .nil pass0 (pa_cons (pe_op op_add (pv 0) pe_int) (pa_cons (pv 1) pa_nil))) pe_int (nomark _))))), ?_⟩
    refine ⟨_, rfl, _, rfl, _, _, rfl, (by first | trivial | assumption | omega), _, _, rfl, rfl, _, rfl, ?_⟩
    refine ite2 (fun c1 => ?_) (fun c1 => ?_)
    · refine ⟨_, rfl, _, _, rfl, rfl, _, rfl, _, _, rfl, (by first | trivial | assumption | omega), _, _, rfl, rfl, ?_⟩
      exact castB k (by (try simp only [decide_eq_true_eq, Bool.not_eq_true, decide_eq_false_iff_not, beq_iff_eq, Bool.not_eq_true', Bool.true_eq_false, reduceCtorEq, not_true_eq_false] at c1) <;> (first | rfl | (rw [Bool.eq_iff_iff]; simp only [ch_8 hC, Sh.within, decide_eq_true_eq, Bool.and_eq_true, Bool.or_eq_true, Bool.not_eq_true', decide_eq_false_iff_not, Bool.false_eq_true, reduceCtorEq, iff_false, iff_true] <;> (try simp only [Sh.size]) <;> omega)))
    · exact castB k (by (try simp only [decide_eq_true_eq, Bool.not_eq_true, decide_eq_false_iff_not, beq_iff_eq, Bool.not_eq_true', Bool.true_eq_false, reduceCtorEq, not_true_eq_false] at c1) <;> (first | rfl | (rw [Bool.eq_iff_iff]; simp only [ch_8 hC, Sh.within, decide_eq_true_eq, Bool.and_eq_true, Bool.or_eq_true, Bool.not_eq_true', decide_eq_false_iff_not, Bool.false_eq_true, reduceCtorEq, iff_false, iff_true] <;> (try simp only [Sh.size]) <;> omega)))
abbrev sp_crosslet : Sp := spI2 (fun x y => -48 ≤ x ∧ x ≤ 48 ∧ -48 ≤ y ∧ y ≤ 48) (fun x y => .bl (Sh.chargeHas 9 x y))
theorem sc_crosslet : FnScope ["x", "y"] ["x", "y"] (defScope s_crosslet) := ⟨rfl, rfl, rfl, by decide +kernel, rfl, by decide +kernel, by decide +kernel⟩
theorem ok_crosslet (T : Txt K mg d) : OkD P w K mg base CX0 1 d.f_crosslet ["x", "y"] (sp_crosslet) := by
  obtain ⟨fd, F, B⟩ := T.k_crosslet.ex
  refine ⟨⟨fd, F.ok sc_crosslet (fun vs H Q E h => ?_) (fun cdv A outer s H vs Q E hr h => ?_), B⟩, F.kp⟩
  · obtain ⟨x, y, rfl, _⟩ := h
    rfl
  · obtain ⟨x, y, rfl, hC, k⟩ := h
    refine ⟨_, pss_one (ps_ret (pe_or (pe_and (pe_cmpR op_lt (pe_callB call_abs (by rfl) T.b_abs (by decide +kernel) (pa_cons (pv 0) pa_nil)) pe_int (nomark _)) (pe_one (pe_cmpR op_lt (pe_callB call_abs (by rfl) T.b_abs (by decide +kernel) (pa_cons (pv 1) pa_nil)) pe_int (nomark _)))) (pe_one (pe_and (pe_cmpR op_lt (pe_callB call_abs (by rfl) T.b_abs (by decide +kernel) (pa_cons (pv 1) pa_nil)) pe_int (nomark _)) (pe_one (pe_cmpR op_lt (pe_callB call_abs (by rfl) T.b_abs (by decide +kernel) (pa_cons (pv 0) pa_nil)) pe_int (nomark _))))))), ?_⟩
    refine ⟨_, rfl, _, rfl, _, _, rfl, rfl, _, rfl, ?_⟩
    refine ite2 (fun c1 => ?_) (fun c1 => ?_)
    · refine ⟨_, rfl, _, rfl, _, _, rfl, rfl, _, rfl, ?_⟩
      refine ite2 (fun c2 => ?_) (fun c2 => ?_)
      · exact castB k (by (try simp only [decide_eq_true_eq, Bool.not_eq_true, decide_eq_false_iff_not, beq_iff_eq, Bool.not_eq_true', Bool.true_eq_false, reduceCtorEq, not_true_eq_false] at c1 c2) <;> (first | rfl | (rw [Bool.eq_iff_iff]; simp only [ch_9 hC, Sh.within, decide_eq_true_eq, Bool.and_eq_true, Bool.or_eq_true, Bool.not_eq_true', decide_eq_false_iff_not, Bool.false_eq_true, reduceCtorEq, iff_false, iff_true] <;> (try simp only [Sh.size]) <;> omega)))
      · refine ⟨_, rfl, _, rfl, _, _, rfl, rfl, _, rfl, ?_⟩
        refine ite2 (fun c3 => ?_) (fun c3 => ?_)
        · refine ⟨_, rfl, _, rfl, _, _, rfl, rfl, ?_⟩
          exact castB k (by (try simp only [decide_eq_true_eq, Bool.not_eq_true, decide_eq_false_iff_not, beq_iff_eq, Bool.not_eq_true', Bool.true_eq_false, reduceCtorEq, not_true_eq_false] at c1 c2 c3) <;> (first | rfl | (rw [Bool.eq_iff_iff]; simp only [ch_9 hC, Sh.within, decide_eq_true_eq, Bool.and_eq_true, Bool.or_eq_true, Bool.not_eq_true', decide_eq_false_iff_not, Bool.false_eq_true, reduceCtorEq, iff_false, iff_true] <;> (try simp only [Sh.size]) <;> omega)))
        · exact castB k (by (try simp only [decide_eq_true_eq, Bool.not_eq_true, decide_eq_false_iff_not, beq_iff_eq, Bool.not_eq_true', Bool.true_eq_false, reduceCtorEq, not_true_eq_false] at c1 c2 c3) <;> (first | rfl | (rw [Bool.eq_iff_iff]; simp only [ch_9 hC, Sh.within, decide_eq_true_eq, Bool.and_eq_true, Bool.or_eq_true, Bool.not_eq_true', decide_eq_false_iff_not, Bool.false_eq_true, reduceCtorEq, iff_false, iff_true] <;> (try simp only [Sh.size]) <;> omega)))
    · refine ⟨_, rfl, ?_⟩
      refine ite2 (fun c4 => ?_) (fun c4 => ?_)
      · exact castB k (by (try simp only [decide_eq_true_eq, Bool.not_eq_true, decide_eq_false_iff_not, beq_iff_eq, Bool.not_eq_true', Bool.true_eq_false, reduceCtorEq, not_true_eq_false] at c1 c4) <;> (first | rfl | (rw [Bool.eq_iff_iff]; simp only [ch_9 hC, Sh.within, decide_eq_true_eq, Bool.and_eq_true, Bool.or_eq_true, Bool.not_eq_true', decide_eq_false_iff_not, Bool.false_eq_true, reduceCtorEq, iff_false, iff_true] <;> (try simp only [Sh.size]) <;> omega)))
      · refine ⟨_, rfl, _, rfl, _, _, rfl, rfl, _, rfl, ?_⟩
        refine ite2 (fun c5 => ?_) (fun c5 => ?_)
        · refine ⟨_, rfl, _, rfl, _, _, rfl, rfl, ?_⟩
          exact castB k (by (try simp only [decide_eq_true_eq, Bool.not_eq_true, decide_eq_false_iff_not, beq_iff_eq, Bool.not_eq_true', Bool.true_eq_false, reduceCtorEq, not_true_eq_false] at c1 c4 c5) <;> (first | rfl | (rw [Bool.eq_iff_iff]; simp only [ch_9 hC, Sh.within, decide_eq_true_eq, Bool.and_eq_true, Bool.or_eq_true, Bool.not_eq_true', decide_eq_false_iff_not, Bool.false_eq_true, reduceCtorEq, iff_false, iff_true] <;> (try simp only [Sh.size]) <;> omega)))
        · exact castB k (by (try simp only [decide_eq_true_eq, Bool.not_eq_true, decide_eq_false_iff_not, beq_iff_eq, Bool.not_eq_true', Bool.true_eq_false, reduceCtorEq, not_true_eq_false] at c1 c4 c5) <;> (first | rfl | (rw [Bool.eq_iff_iff]; simp only [ch_9 hC, Sh.within, decide_eq_true_eq, Bool.and_eq_true, Bool.or_eq_true, Bool.not_eq_true', decide_eq_false_iff_not, Bool.false_eq_true, reduceCtorEq, iff_false, iff_true] <;> (try simp only [Sh.size]) <;> omega)))
abbrev sp_saltorel : Sp := spI2 (fun x y => -48 ≤ x ∧ x ≤ 48 ∧ -48 ≤ y ∧ y ≤ 48) (fun x y => .bl (Sh.chargeHas 10 x y))
theorem sc_saltorel : FnScope ["x", "y"] ["x", "y"] (defScope s_saltorel) := ⟨rfl, rfl, rfl, by decide +kernel, rfl, by decide +kernel, by decide +kernel⟩
theorem ok_saltorel (T : Txt K mg d) : OkD P w K mg base CX0 1 d.f_saltorel ["x", "y"] (sp_saltorel) := by
  obtain ⟨fd, F, B⟩ := T.k_saltorel.ex
  refine ⟨⟨fd, F.ok sc_saltorel (fun vs H Q E h => ?_) (fun cdv A outer s H vs Q E hr h => ?_), B⟩, F.kp⟩
  · obtain ⟨x, y, rfl, _⟩ := h
    rfl
  · obtain ⟨x, y, rfl, hC, k⟩ := h
    refine ⟨_, pss_one (ps_ret (pe_and (pe_cmpR op_lt (pe_callB call_abs (by rfl) T.b_abs (by decide +kernel) (pa_cons (pe_op op_sub (pe_callB call_abs (by rfl) T.b_abs (by decide +kernel) (pa_cons (pv 0) pa_nil)) (pe_callB call_abs (by rfl) T.b_abs (by decide +kernel) (pa_cons (pv 1) pa_nil))) pa_nil)) pe_int (nomark _)) (pe_and (pe_cmpR op_lt (pe_callB call_abs (by rfl) T.b_abs (by decide +kernel) (pa_cons (pv 0) pa_nil)) pe_int (nomark _)) (pe_one (pe_cmpR op_lt (pe_callB call_abs (by rfl) T.b_abs (by decide +kernel) (pa_cons (pv 1) pa_nil)) pe_int (nomark _)))))), ?_⟩
    refine ⟨_, rfl, _, rfl, _, rfl, _, rfl, _, _, rfl, rfl, _, rfl, _, _, rfl, rfl, _, rfl, ?_⟩
    refine ite2 (fun c1 => ?_) (fun c1 => ?_)
    · refine ⟨_, rfl, _, rfl, _, _, rfl, rfl, _, rfl, ?_⟩
      refine ite2 (fun c2 => ?_) (fun c2 => ?_)
      · refine ⟨_, rfl, _, rfl, _, _, rfl, rfl, ?_⟩
        exact castB k (by (try simp only [decide_eq_true_eq, Bool.not_eq_true, decide_eq_false_iff_not, beq_iff_eq, Bool.not_eq_true', Bool.true_eq_false, reduceCtorEq, not_true_eq_false] at c1 c2) <;> (first | rfl | (rw [Bool.eq_iff_iff]; simp only [ch_10 hC, Sh.within, decide_eq_true_eq, Bool.and_eq_true, Bool.or_eq_true, Bool.not_eq_true', decide_eq_false_iff_not, Bool.false_eq_true, reduceCtorEq, iff_false, iff_true] <;> (try simp only [Sh.size]) <;> omega)))
      · exact castB k (by (try simp only [decide_eq_true_eq, Bool.not_eq_true, decide_eq_false_iff_not, beq_iff_eq, Bool.not_eq_true', Bool.true_eq_false, reduceCtorEq, not_true_eq_false] at c1 c2) <;> (first | rfl | (rw [Bool.eq_iff_iff]; simp only [ch_10 hC, Sh.within, decide_eq_true_eq, Bool.and_eq_true, Bool.or_eq_true, Bool.not_eq_true', decide_eq_false_iff_not, Bool.false_eq_true, reduceCtorEq, iff_false, iff_true] <;> (try simp only [Sh.size]) <;> omega)))
    · exact castB k (by (try simp only [decide_eq_true_eq, Bool.not_eq_true, decide_eq_false_iff_not, beq_iff_eq, Bool.not_eq_true', Bool.true_eq_false, reduceCtorEq, not_true_eq_false] at c1) <;> (first | rfl | (rw [Bool.eq_iff_iff]; simp only [ch_10 hC, Sh.within, decide_eq_true_eq, Bool.and_eq_true, Bool.or_eq_true, Bool.not_eq_true', decide_eq_false_iff_not, Bool.false_eq_true, reduceCtorEq, iff_false, iff_true] <;> (try simp only [Sh.size]) <;> omega)))
abbrev sp_escutcheon : Sp := spI2 (fun x y => -48 ≤ x ∧ x ≤ 48 ∧ -48 ≤ y ∧ y ≤ 48) (fun x y => .bl (Sh.chargeHas 11 x y))
theorem sc_escutcheon : FnScope ["x", "y"] ["x", "y"] (defScope s_escutcheon) := ⟨rfl, rfl, rfl, by decide +kernel, rfl, by decide +kernel, by decide +kernel⟩
theorem ok_escutcheon (T : Txt K mg d) : OkD P w K mg base CX0 1 d.f_escutcheon ["x", "y"] (sp_escutcheon) := by
  obtain ⟨fd, F, B⟩ := T.k_escutcheon.ex
  refine ⟨⟨fd, F.ok sc_escutcheon (fun vs H Q E h => ?_) (fun cdv A outer s H vs Q E hr h => ?_), B⟩, F.kp⟩
  · obtain ⟨x, y, rfl, _⟩ := h
    rfl
  · obtain ⟨x, y, rfl, hC, k⟩ := h
    refine ⟨_, pss_one (ps_ret (pe_and (pe_cmpR op_lt (pe_callB call_abs (by rfl) T.b_abs (by decide +kernel) (pa_cons (pv 0) pa_nil)) pe_int (nomark _)) (pe_and (pe_cmpR op_le (pe_un un_neg pe_int) (pv 1) (nomark _)) (pe_one (pe_cmpR op_lt (pe_op op_add (pe_op op_mul pe_int (pe_callB call_abs (by rfl) T.b_abs (by decide +kernel) (pa_cons (pv 0) pa_nil))) (pv 1)) pe_int (nomark _)))))), ?_⟩
    refine ⟨_, rfl, _, rfl, _, _, rfl, rfl, _, rfl, ?_⟩
    refine ite2 (fun c1 => ?_) (fun c1 => ?_)
    · refine ⟨_, rfl, _, rfl, _, _, rfl, rfl, _, rfl, ?_⟩
      refine ite2 (fun c2 => ?_) (fun c2 => ?_)
      · refine ⟨_, rfl, _, rfl, _, _, rfl, rfl, (by first | (apply Or.inl; constructor <;> (first | decide | omega)) | (apply Or.inr; constructor <;> (first | decide | omega))), _, rfl, _, _, rfl, rfl, _, _, rfl, rfl, ?_⟩
        exact castB k (by (try simp only [decide_eq_true_eq, Bool.not_eq_true, decide_eq_false_iff_not, beq_iff_eq, Bool.not_eq_true', Bool.true_eq_false, reduceCtorEq, not_true_eq_false] at c1 c2) <;> (first | rfl | (rw [Bool.eq_iff_iff]; simp only [ch_11 hC, Sh.within, decide_eq_true_eq, Bool.and_eq_true, Bool.or_eq_true, Bool.not_eq_true', decide_eq_false_iff_not, Bool.false_eq_true, reduceCtorEq, iff_false, iff_true] <;> (try simp only [Sh.size]) <;> omega)))
      · exact castB k (by (try simp only [decide_eq_true_eq, Bool.not_eq_true, decide_eq_false_iff_not, beq_iff_eq, Bool.not_eq_true', Bool.true_eq_false, reduceCtorEq, not_true_eq_false] at c1 c2) <;> (first | rfl | (rw [Bool.eq_iff_iff]; simp only [ch_11 hC, Sh.within, decide_eq_true_eq, Bool.and_eq_true, Bool.or_eq_true, Bool.not_eq_true', decide_eq_false_iff_not, Bool.false_eq_true, reduceCtorEq, iff_false, iff_true] <;> (try simp only [Sh.size]) <;> omega)))
    · exact castB k (by (try simp only [decide_eq_true_eq, Bool.not_eq_true, decide_eq_false_iff_not, beq_iff_eq, Bool.not_eq_true', Bool.true_eq_false, reduceCtorEq, not_true_eq_false] at c1) <;> (first | rfl | (rw [Bool.eq_iff_iff]; simp only [ch_11 hC, Sh.within, decide_eq_true_eq, Bool.and_eq_true, Bool.or_eq_true, Bool.not_eq_true', decide_eq_false_iff_not, Bool.false_eq_true, reduceCtorEq, iff_false, iff_true] <;> (try simp only [Sh.size]) <;> omega)))
abbrev sp_tower : Sp := spI2 (fun x y => -48 ≤ x ∧ x ≤ 48 ∧ -48 ≤ y ∧ y ≤ 48) (fun x y => .bl (Sh.chargeHas 12 x y))
theorem sc_tower : FnScope ["x", "y", "walls", "merlons"] ["x", "y"] (defScope s_tower) := ⟨rfl, rfl, rfl, by decide +kernel, rfl, by decide +kernel, by decide +kernel⟩
theorem ok_tower (T : Txt K mg d) : OkD P w K mg base CX0 1 d.f_tower ["x", "y"] (sp_tower) := by
  obtain ⟨fd, F, B⟩ := T.k_tower.ex
  refine ⟨⟨fd, F.ok sc_tower (fun vs H Q E h => ?_) (fun cdv A outer s H vs Q E hr h => ?_), B⟩, F.kp⟩
  · obtain ⟨x, y, rfl, _⟩ := h
    rfl
  · obtain ⟨x, y, rfl, hC, k⟩ := h
    refine ⟨_, pss_cons (ps_set (i := 2) sc_tower.nd rfl (Or.inl rfl) (pe_and (pe_cmpR op_lt (pe_callB call_abs (by rfl) T.b_abs (by decide +kernel) (pa_cons (pv 0) pa_nil)) pe_int (nomark _)) (pe_one (pe_chain op_le op_lt (pe_un un_neg pe_int) (pv 1) pe_int))))
      (pss_cons (ps_set (i := 3) sc_tower.nd rfl (Or.inl rfl) (pe_and (pe_chain op_le op_lt (pe_un un_neg pe_int) (pv 1) (pe_un un_neg pe_int)) (pe_one (pe_or (pe_cmpR op_lt (pe_callB call_abs (by rfl) T.b_abs (by decide +kernel) (pa_cons (pv 0) pa_nil)) pe_int (nomark _)) (pe_one (pe_chain op_le op_lt pe_int (pe_callB call_abs (by rfl) T.b_abs (by decide +kernel) (pa_cons (pv 0) pa_nil)) pe_int))))))
      (pss_one (ps_ret (pe_or (pv 2) (pe_one (pv 3)))))), ?_⟩
    refine ⟨_, rfl, _, rfl, _, _, rfl, rfl, _, rfl, ?_⟩
    refine ite2 (fun c1 => ?_) (fun c1 => ?_)
    · refine ⟨_, rfl, _, rfl, _, _, rfl, rfl, _, rfl, ?_⟩
      refine ite2 (fun c2 => ?_) (fun c2 => ?_)
      · refine ⟨_, _, rfl, rfl, _, rfl, _, rfl, _, _, rfl, rfl, _, rfl, ?_⟩
        refine ite2 (fun c3 => ?_) (fun c3 => ?_)
        · refine ⟨_, rfl, _, _, rfl, rfl, _, rfl, ?_⟩
          refine ite2 (fun c4 => ?_) (fun c4 => ?_)
          · refine ⟨_, rfl, _, rfl, _, _, rfl, rfl, _, rfl, ?_⟩
            refine ite2 (fun c5 => ?_) (fun c5 => ?_)
            · refine ⟨_, rfl, _, rfl, ?_⟩
              refine ite2 (fun c6 => ?_) (fun c6 => ?_)
              · exact castB k (by (try simp only [decide_eq_true_eq, Bool.not_eq_true, decide_eq_false_iff_not, beq_iff_eq, Bool.not_eq_true', Bool.true_eq_false, reduceCtorEq, not_true_eq_false] at c1 c2 c3 c4 c5 c6) <;> (first | rfl | (rw [Bool.eq_iff_iff]; simp only [ch_12 hC, Sh.within, decide_eq_true_eq, Bool.and_eq_true, Bool.or_eq_true, Bool.not_eq_true', decide_eq_false_iff_not, Bool.false_eq_true, reduceCtorEq, iff_false, iff_true] <;> (try simp only [Sh.size]) <;> omega)))
              · refine ⟨_, rfl, ?_⟩
                exact castB k (by (try simp only [decide_eq_true_eq, Bool.not_eq_true, decide_eq_false_iff_not, beq_iff_eq, Bool.not_eq_true', Bool.true_eq_false, reduceCtorEq, not_true_eq_false] at c1 c2 c3 c4 c5 c6) <;> (first | rfl | (rw [Bool.eq_iff_iff]; simp only [ch_12 hC, Sh.within, decide_eq_true_eq, Bool.and_eq_true, Bool.or_eq_true, Bool.not_eq_true', decide_eq_false_iff_not, Bool.false_eq_true, reduceCtorEq, iff_false, iff_true] <;> (try simp only [Sh.size]) <;> omega)))
            · refine ⟨_, rfl, _, rfl, _, _, rfl, rfl, _, rfl, ?_⟩
              refine ite2 (fun c7 => ?_) (fun c7 => ?_)
              · refine ⟨_, _, rfl, rfl, _, rfl, _, rfl, ?_⟩
                refine ite2 (fun c8 => ?_) (fun c8 => ?_)
                · exact castB k (by (try simp only [decide_eq_true_eq, Bool.not_eq_true, decide_eq_false_iff_not, beq_iff_eq, Bool.not_eq_true', Bool.true_eq_false, reduceCtorEq, not_true_eq_false] at c1 c2 c3 c4 c5 c7 c8) <;> (first | rfl | (rw [Bool.eq_iff_iff]; simp only [ch_12 hC, Sh.within, decide_eq_true_eq, Bool.and_eq_true, Bool.or_eq_true, Bool.not_eq_true', decide_eq_false_iff_not, Bool.false_eq_true, reduceCtorEq, iff_false, iff_true] <;> (try simp only [Sh.size]) <;> omega)))
                · refine ⟨_, rfl, ?_⟩
                  exact castB k (by (try simp only [decide_eq_true_eq, Bool.not_eq_true, decide_eq_false_iff_not, beq_iff_eq, Bool.not_eq_true', Bool.true_eq_false, reduceCtorEq, not_true_eq_false] at c1 c2 c3 c4 c5 c7 c8) <;> (first | rfl | (rw [Bool.eq_iff_iff]; simp only [ch_12 hC, Sh.within, decide_eq_true_eq, Bool.and_eq_true, Bool.or_eq_true, Bool.not_eq_true', decide_eq_false_iff_not, Bool.false_eq_true, reduceCtorEq, iff_false, iff_true] <;> (try simp only [Sh.size]) <;> omega)))
              · refine ⟨_, rfl, _, rfl, ?_⟩
                refine ite2 (fun c9 => ?_) (fun c9 => ?_)
                · exact castB k (by (try simp only [decide_eq_true_eq, Bool.not_eq_true, decide_eq_false_iff_not, beq_iff_eq, Bool.not_eq_true', Bool.true_eq_false, reduceCtorEq, not_true_eq_false] at c1 c2 c3 c4 c5 c7 c9) <;> (first | rfl | (rw [Bool.eq_iff_iff]; simp only [ch_12 hC, Sh.within, decide_eq_true_eq, Bool.and_eq_true, Bool.or_eq_true, Bool.not_eq_true', decide_eq_false_iff_not, Bool.false_eq_true, reduceCtorEq, iff_false, iff_true] <;> (try simp only [Sh.size]) <;> omega)))
                · refine ⟨_, rfl, ?_⟩
                  exact castB k (by (try simp only [decide_eq_true_eq, Bool.not_eq_true, decide_eq_false_iff_not, beq_iff_eq, Bool.not_eq_true', Bool.true_eq_false, reduceCtorEq, not_true_eq_false] at c1 c2 c3 c4 c5 c7 c9) <;> (first | rfl | (rw [Bool.eq_iff_iff]; simp only [ch_12 hC, Sh.within, decide_eq_true_eq, Bool.and_eq_true, Bool.or_eq_true, Bool.not_eq_true', decide_eq_false_iff_not, Bool.false_eq_true, reduceCtorEq, iff_false, iff_true] <;> (try simp only [Sh.size]) <;> omega)))
          · refine ⟨_, rfl, _, rfl, ?_⟩
            refine ite2 (fun c10 => ?_) (fun c10 => ?_)
            · exact castB k (by (try simp only [decide_eq_true_eq, Bool.not_eq_true, decide_eq_false_iff_not, beq_iff_eq, Bool.not_eq_true', Bool.true_eq_false, reduceCtorEq, not_true_eq_false] at c1 c2 c3 c4 c10) <;> (first | rfl | (rw [Bool.eq_iff_iff]; simp only [ch_12 hC, Sh.within, decide_eq_true_eq, Bool.and_eq_true, Bool.or_eq_true, Bool.not_eq_true', decide_eq_false_iff_not, Bool.false_eq_true, reduceCtorEq, iff_false, iff_true] <;> (try simp only [Sh.size]) <;> omega)))
            · refine ⟨_, rfl, ?_⟩
              exact castB k (by (try simp only [decide_eq_true_eq, Bool.not_eq_true, decide_eq_false_iff_not, beq_iff_eq, Bool.not_eq_true', Bool.true_eq_false, reduceCtorEq, not_true_eq_false] at c1 c2 c3 c4 c10) <;> (first | rfl | (rw [Bool.eq_iff_iff]; simp only [ch_12 hC, Sh.within, decide_eq_true_eq, Bool.and_eq_true, Bool.or_eq_true, Bool.not_eq_true', decide_eq_false_iff_not, Bool.false_eq_true, reduceCtorEq, iff_false, iff_true] <;> (try simp only [Sh.size]) <;> omega)))
        · refine ⟨_, rfl, ?_⟩
          refine ite2 (fun c11 => ?_) (fun c11 => ?_)
          · refine ⟨_, rfl, _, rfl, _, _, rfl, rfl, _, rfl, ?_⟩
            refine ite2 (fun c12 => ?_) (fun c12 => ?_)
            · refine ⟨_, rfl, _, rfl, ?_⟩
              refine ite2 (fun c13 => ?_) (fun c13 => ?_)
              · exact castB k (by (try simp only [decide_eq_true_eq, Bool.not_eq_true, decide_eq_false_iff_not, beq_iff_eq, Bool.not_eq_true', Bool.true_eq_false, reduceCtorEq, not_true_eq_false] at c1 c2 c3 c11 c12 c13) <;> (first | rfl | (rw [Bool.eq_iff_iff]; simp only [ch_12 hC, Sh.within, decide_eq_true_eq, Bool.and_eq_true, Bool.or_eq_true, Bool.not_eq_true', decide_eq_false_iff_not, Bool.false_eq_true, reduceCtorEq, iff_false, iff_true] <;> (try simp only [Sh.size]) <;> omega)))
              · refine ⟨_, rfl, ?_⟩
                exact castB k (by (try simp only [decide_eq_true_eq, Bool.not_eq_true, decide_eq_false_iff_not, beq_iff_eq, Bool.not_eq_true', Bool.true_eq_false, reduceCtorEq, not_true_eq_false] at c1 c2 c3 c11 c12 c13) <;> (first | rfl | (rw [Bool.eq_iff_iff]; simp only [ch_12 hC, Sh.within, decide_eq_true_eq, Bool.and_eq_true, Bool.or_eq_true, Bool.not_eq_true', decide_eq_false_iff_not, Bool.false_eq_true, reduceCtorEq, iff_false, iff_true] <;> (try simp only [Sh.size]) <;> omega)))
            · refine ⟨_, rfl, _, rfl, _, _, rfl, rfl, _, rfl, ?_⟩
              refine ite2 (fun c14 => ?_) (fun c14 => ?_)
              · refine ⟨_, _, rfl, rfl, _, rfl, _, rfl, ?_⟩
                refine ite2 (fun c15 => ?_) (fun c15 => ?_)
                · exact castB k (by (try simp only [decide_eq_true_eq, Bool.not_eq_true, decide_eq_false_iff_not, beq_iff_eq, Bool.not_eq_true', Bool.true_eq_false, reduceCtorEq, not_true_eq_false] at c1 c2 c3 c11 c12 c14 c15) <;> (first | rfl | (rw [Bool.eq_iff_iff]; simp only [ch_12 hC, Sh.within, decide_eq_true_eq, Bool.and_eq_true, Bool.or_eq_true, Bool.not_eq_true', decide_eq_false_iff_not, Bool.false_eq_true, reduceCtorEq, iff_false, iff_true] <;> (try simp only [Sh.size]) <;> omega)))
                · refine ⟨_, rfl, ?_⟩
                  exact castB k (by (try simp only [decide_eq_true_eq, Bool.not_eq_true, decide_eq_false_iff_not, beq_iff_eq, Bool.not_eq_true', Bool.true_eq_false, reduceCtorEq, not_true_eq_false] at c1 c2 c3 c11 c12 c14 c15) <;> (first | rfl | (rw [Bool.eq_iff_iff]; simp only [ch_12 hC, Sh.within, decide_eq_true_eq, Bool.and_eq_true, Bool.or_eq_true, Bool.not_eq_true', decide_eq_false_iff_not, Bool.false_eq_true, reduceCtorEq, iff_false, iff_true] <;> (try simp only [Sh.size]) <;> omega)))
              · refine ⟨_, rfl, _, rfl, ?_⟩
                refine ite2 (fun c16 => ?_) (fun c16 => ?_)
                · exact castB k (by (try simp only [decide_eq_true_eq, Bool.not_eq_true, decide_eq_false_iff_not, beq_iff_eq, Bool.not_eq_true', Bool.true_eq_false, reduceCtorEq, not_true_eq_false] at c1 c2 c3 c11 c12 c14 c16) <;> (first | rfl | (rw [Bool.eq_iff_iff]; simp only [ch_12 hC, Sh.within, decide_eq_true_eq, Bool.and_eq_true, Bool.or_eq_true, Bool.not_eq_true', decide_eq_false_iff_not, Bool.false_eq_true, reduceCtorEq, iff_false, iff_true] <;> (try simp only [Sh.size]) <;> omega)))
                · refine ⟨_, rfl, ?_⟩
                  exact castB k (by (try simp only [decide_eq_true_eq, Bool.not_eq_true, decide_eq_false_iff_not, beq_iff_eq, Bool.not_eq_true', Bool.true_eq_false, reduceCtorEq, not_true_eq_false] at c1 c2 c3 c11 c12 c14 c16) <;> (first | rfl | (rw [Bool.eq_iff_iff]; simp only [ch_12 hC, Sh.within, decide_eq_true_eq, Bool.and_eq_true, Bool.or_eq_true, Bool.not_eq_true', decide_eq_false_iff_not, Bool.false_eq_true, reduceCtorEq, iff_false, iff_true] <;> (try simp only [Sh.size]) <;> omega)))
          · refine ⟨_, rfl, _, rfl, ?_⟩
            refine ite2 (fun c17 => ?_) (fun c17 => ?_)
            · exact castB k (by (try simp only [decide_eq_true_eq, Bool.not_eq_true, decide_eq_false_iff_not, beq_iff_eq, Bool.not_eq_true', Bool.true_eq_false, reduceCtorEq, not_true_eq_false] at c1 c2 c3 c11 c17) <;> (first | rfl | (rw [Bool.eq_iff_iff]; simp only [ch_12 hC, Sh.within, decide_eq_true_eq, Bool.and_eq_true, Bool.or_eq_true, Bool.not_eq_true', decide_eq_false_iff_not, Bool.false_eq_true, reduceCtorEq, iff_false, iff_true] <;> (try simp only [Sh.size]) <;> omega)))
            · refine ⟨_, rfl, ?_⟩
              exact castB k (by (try simp only [decide_eq_true_eq, Bool.not_eq_true, decide_eq_false_iff_not, beq_iff_eq, Bool.not_eq_true', Bool.true_eq_false, reduceCtorEq, not_true_eq_false] at c1 c2 c3 c11 c17) <;> (first | rfl | (rw [Bool.eq_iff_iff]; simp only [ch_12 hC, Sh.within, decide_eq_true_eq, Bool.and_eq_true, Bool.or_eq_true, Bool.not_eq_true', decide_eq_false_iff_not, Bool.false_eq_true, reduceCtorEq, iff_false, iff_true] <;> (try simp only [Sh.size]) <;> omega)))
      · refine ⟨_, rfl, _, rfl, _, _, rfl, rfl, _, rfl, ?_⟩
        refine ite2 (fun c18 => ?_) (fun c18 => ?_)
        · refine ⟨_, rfl, _, _, rfl, rfl, _, rfl, ?_⟩
          refine ite2 (fun c19 => ?_) (fun c19 => ?_)
          · refine ⟨_, rfl, _, rfl, _, _, rfl, rfl, _, rfl, ?_⟩
            refine ite2 (fun c20 => ?_) (fun c20 => ?_)
            · refine ⟨_, rfl, _, rfl, ?_⟩
              refine ite2 (fun c21 => ?_) (fun c21 => ?_)
              · exact castB k (by (try simp only [decide_eq_true_eq, Bool.not_eq_true, decide_eq_false_iff_not, beq_iff_eq, Bool.not_eq_true', Bool.true_eq_false, reduceCtorEq, not_true_eq_false] at c1 c2 c18 c19 c20 c21) <;> (first | rfl | (rw [Bool.eq_iff_iff]; simp only [ch_12 hC, Sh.within, decide_eq_true_eq, Bool.and_eq_true, Bool.or_eq_true, Bool.not_eq_true', decide_eq_false_iff_not, Bool.false_eq_true, reduceCtorEq, iff_false, iff_true] <;> (try simp only [Sh.size]) <;> omega)))
              · refine ⟨_, rfl, ?_⟩
                exact castB k (by (try simp only [decide_eq_true_eq, Bool.not_eq_true, decide_eq_false_iff_not, beq_iff_eq, Bool.not_eq_true', Bool.true_eq_false, reduceCtorEq, not_true_eq_false] at c1 c2 c18 c19 c20 c21) <;> (first | rfl | (rw [Bool.eq_iff_iff]; simp only [ch_12 hC, Sh.within, decide_eq_true_eq, Bool.and_eq_true, Bool.or_eq_true, Bool.not_eq_true', decide_eq_false_iff_not, Bool.false_eq_true, reduceCtorEq, iff_false, iff_true] <;> (try simp only [Sh.size]) <;> omega)))
            · refine ⟨_, rfl, _, rfl, _, _, rfl, rfl, _, rfl, ?_⟩
              refine ite2 (fun c22 => ?_) (fun c22 => ?_)
              · refine ⟨_, _, rfl, rfl, _, rfl, _, rfl, ?_⟩
                refine ite2 (fun c23 => ?_) (fun c23 => ?_)
                · exact castB k (by (try simp only [decide_eq_true_eq, Bool.not_eq_true, decide_eq_false_iff_not, beq_iff_eq, Bool.not_eq_true', Bool.true_eq_false, reduceCtorEq, not_true_eq_false] at c1 c2 c18 c19 c20 c22 c23) <;> (first | rfl | (rw [Bool.eq_iff_iff]; simp only [ch_12 hC, Sh.within, decide_eq_true_eq, Bool.and_eq_true, Bool.or_eq_true, Bool.not_eq_true', decide_eq_false_iff_not, Bool.false_eq_true, reduceCtorEq, iff_false, iff_true] <;> (try simp only [Sh.size]) <;> omega)))
                · refine ⟨_, rfl, ?_⟩
                  exact castB k (by (try simp only [decide_eq_true_eq, Bool.not_eq_true, decide_eq_false_iff_not, beq_iff_eq, Bool.not_eq_true', Bool.true_eq_false, reduceCtorEq, not_true_eq_false] at c1 c2 c18 c19 c20 c22 c23) <;> (first | rfl | (rw [Bool.eq_iff_iff]; simp only [ch_12 hC, Sh.within, decide_eq_true_eq, Bool.and_eq_true, Bool.or_eq_true, Bool.not_eq_true', decide_eq_false_iff_not, Bool.false_eq_true, reduceCtorEq, iff_false, iff_true] <;> (try simp only [Sh.size]) <;> omega)))
              · refine ⟨_, rfl, _, rfl, ?_⟩
                refine ite2 (fun c24 => ?_) (fun c24 => ?_)
                · exact castB k (by (try simp only [decide_eq_true_eq, Bool.not_eq_true, decide_eq_false_iff_not, beq_iff_eq, Bool.not_eq_true', Bool.true_eq_false, reduceCtorEq, not_true_eq_false] at c1 c2 c18 c19 c20 c22 c24) <;> (first | rfl | (rw [Bool.eq_iff_iff]; simp only [ch_12 hC, Sh.within, decide_eq_true_eq, Bool.and_eq_true, Bool.or_eq_true, Bool.not_eq_true', decide_eq_false_iff_not, Bool.false_eq_true, reduceCtorEq, iff_false, iff_true] <;> (try simp only [Sh.size]) <;> omega)))
                · refine ⟨_, rfl, ?_⟩
                  exact castB k (by (try simp only [decide_eq_true_eq, Bool.not_eq_true, decide_eq_false_iff_not, beq_iff_eq, Bool.not_eq_true', Bool.true_eq_false, reduceCtorEq, not_true_eq_false] at c1 c2 c18 c19 c20 c22 c24) <;> (first | rfl | (rw [Bool.eq_iff_iff]; simp only [ch_12 hC, Sh.within, decide_eq_true_eq, Bool.and_eq_true, Bool.or_eq_true, Bool.not_eq_true', decide_eq_false_iff_not, Bool.false_eq_true, reduceCtorEq, iff_false, iff_true] <;> (try simp only [Sh.size]) <;> omega)))
          · refine ⟨_, rfl, _, rfl, ?_⟩
            refine ite2 (fun c25 => ?_) (fun c25 => ?_)
            · exact castB k (by (try simp only [decide_eq_true_eq, Bool.not_eq_true, decide_eq_false_iff_not, beq_iff_eq, Bool.not_eq_true', Bool.true_eq_false, reduceCtorEq, not_true_eq_false] at c1 c2 c18 c19 c25) <;> (first | rfl | (rw [Bool.eq_iff_iff]; simp only [ch_12 hC, Sh.within, decide_eq_true_eq, Bool.and_eq_true, Bool.or_eq_true, Bool.not_eq_true', decide_eq_false_iff_not, Bool.false_eq_true, reduceCtorEq, iff_false, iff_true] <;> (try simp only [Sh.size]) <;> omega)))
            · refine ⟨_, rfl, ?_⟩
              exact castB k (by (try simp only [decide_eq_true_eq, Bool.not_eq_true, decide_eq_false_iff_not, beq_iff_eq, Bool.not_eq_true', Bool.true_eq_false, reduceCtorEq, not_true_eq_false] at c1 c2 c18 c19 c25) <;> (first | rfl | (rw [Bool.eq_iff_iff]; simp only [ch_12 hC, Sh.within, decide_eq_true_eq, Bool.and_eq_true, Bool.or_eq_true, Bool.not_eq_true', decide_eq_false_iff_not, Bool.false_eq_true, reduceCtorEq, iff_false, iff_true] <;> (try simp only [Sh.size]) <;> omega)))
        · refine ⟨_, rfl, ?_⟩
          refine ite2 (fun c26 => ?_) (fun c26 => ?_)
          · refine ⟨_, rfl, _, rfl, _, _, rfl, rfl, _, rfl, ?_⟩
            refine ite2 (fun c27 => ?_) (fun c27 => ?_)
            · refine ⟨_, rfl, _, rfl, ?_⟩
              refine ite2 (fun c28 => ?_) (fun c28 => ?_)
              · exact castB k (by (try simp only [decide_eq_true_eq, Bool.not_eq_true, decide_eq_false_iff_not, beq_iff_eq, Bool.not_eq_true', Bool.true_eq_false, reduceCtorEq, not_true_eq_false] at c1 c2 c18 c26 c27 c28) <;> (first | rfl | (rw [Bool.eq_iff_iff]; simp only [ch_12 hC, Sh.within, decide_eq_true_eq, Bool.and_eq_true, Bool.or_eq_true, Bool.not_eq_true', decide_eq_false_iff_not, Bool.false_eq_true, reduceCtorEq, iff_false, iff_true] <;> (try simp only [Sh.size]) <;> omega)))
              · refine ⟨_, rfl, ?_⟩
                exact castB k (by (try simp only [decide_eq_true_eq, Bool.not_eq_true, decide_eq_false_iff_not, beq_iff_eq, Bool.not_eq_true', Bool.true_eq_false, reduceCtorEq, not_true_eq_false] at c1 c2 c18 c26 c27 c28) <;> (first | rfl | (rw [Bool.eq_iff_iff]; simp only [ch_12 hC, Sh.within, decide_eq_true_eq, Bool.and_eq_true, Bool.or_eq_true, Bool.not_eq_true', decide_eq_false_iff_not, Bool.false_eq_true, reduceCtorEq, iff_false, iff_true] <;> (try simp only [Sh.size]) <;> omega)))
            · refine ⟨_, rfl, _, rfl, _, _, rfl, rfl, _, rfl, ?_⟩
              refine ite2 (fun c29 => ?_) (fun c29 => ?_)
              · refine ⟨_, _, rfl, rfl, _, rfl, _, rfl, ?_⟩
                refine ite2 (fun c30 => ?_) (fun c30 => ?_)
                · exact castB k (by (try simp only [decide_eq_true_eq, Bool.not_eq_true, decide_eq_false_iff_not, beq_iff_eq, Bool.not_eq_true', Bool.true_eq_false, reduceCtorEq, not_true_eq_false] at c1 c2 c18 c26 c27 c29 c30) <;> (first | rfl | (rw [Bool.eq_iff_iff]; simp only [ch_12 hC, Sh.within, decide_eq_true_eq, Bool.and_eq_true, Bool.or_eq_true, Bool.not_eq_true', decide_eq_false_iff_not, Bool.false_eq_true, reduceCtorEq, iff_false, iff_true] <;> (try simp only [Sh.size]) <;> omega)))
                · refine ⟨_, rfl, ?_⟩
                  exact castB k (by (try simp only [decide_eq_true_eq, Bool.not_eq_true, decide_eq_false_iff_not, beq_iff_eq, Bool.not_eq_true', Bool.true_eq_false, reduceCtorEq, not_true_eq_false] at c1 c2 c18 c26 c27 c29 c30) <;> (first | rfl | (rw [Bool.eq_iff_iff]; simp only [ch_12 hC, Sh.within, decide_eq_true_eq, Bool.and_eq_true, Bool.or_eq_true, Bool.not_eq_true', decide_eq_false_iff_not, Bool.false_eq_true, reduceCtorEq, iff_false, iff_true] <;> (try simp only [Sh.size]) <;> omega)))
              · refine ⟨_, rfl, _, rfl, ?_⟩
                refine ite2 (fun c31 => ?_) (fun c31 => ?_)
                · exact castB k (by (try simp only [decide_eq_true_eq, Bool.not_eq_true, decide_eq_false_iff_not, beq_iff_eq, Bool.not_eq_true', Bool.true_eq_false, reduceCtorEq, not_true_eq_false] at c1 c2 c18 c26 c27 c29 c31) <;> (first | rfl | (rw [Bool.eq_iff_iff]; simp only [ch_12 hC, Sh.within, decide_eq_true_eq, Bool.and_eq_true, Bool.or_eq_true, Bool.not_eq_true', decide_eq_false_iff_not, Bool.false_eq_true, reduceCtorEq, iff_false, iff_true] <;> (try simp only [Sh.size]) <;> omega)))
                · refine ⟨_, rfl, ?_⟩
                  exact castB k (by (try simp only [decide_eq_true_eq, Bool.not_eq_true, decide_eq_false_iff_not, beq_iff_eq, Bool.not_eq_true', Bool.true_eq_false, reduceCtorEq, not_true_eq_false] at c1 c2 c18 c26 c27 c29 c31) <;> (first | rfl | (rw [Bool.eq_iff_iff]; simp only [ch_12 hC, Sh.within, decide_eq_true_eq, Bool.and_eq_true, Bool.or_eq_true, Bool.not_eq_true', decide_eq_false_iff_not, Bool.false_eq_true, reduceCtorEq, iff_false, iff_true] <;> (try simp only [Sh.size]) <;> omega)))
          · refine ⟨_, rfl, _, rfl, ?_⟩
            refine ite2 (fun c32 => ?_) (fun c32 => ?_)
            · exact castB k (by (try simp only [decide_eq_true_eq, Bool.not_eq_true, decide_eq_false_iff_not, beq_iff_eq, Bool.not_eq_true', Bool.true_eq_false, reduceCtorEq, not_true_eq_false] at c1 c2 c18 c26 c32) <;> (first | rfl | (rw [Bool.eq_iff_iff]; simp only [ch_12 hC, Sh.within, decide_eq_true_eq, Bool.and_eq_true, Bool.or_eq_true, Bool.not_eq_true', decide_eq_false_iff_not, Bool.false_eq_true, reduceCtorEq, iff_false, iff_true] <;> (try simp only [Sh.size]) <;> omega)))
            · refine ⟨_, rfl, ?_⟩
              exact castB k (by (try simp only [decide_eq_true_eq, Bool.not_eq_true, decide_eq_false_iff_not, beq_iff_eq, Bool.not_eq_true', Bool.true_eq_false, reduceCtorEq, not_true_eq_false] at c1 c2 c18 c26 c32) <;> (first | rfl | (rw [Bool.eq_iff_iff]; simp only [ch_12 hC, Sh.within, decide_eq_true_eq, Bool.and_eq_true, Bool.or_eq_true, Bool.not_eq_true', decide_eq_false_iff_not, Bool.false_eq_true, reduceCtorEq, iff_false, iff_true] <;> (try simp only [Sh.size]) <;> omega)))
    · refine ⟨_, rfl, _, rfl, _, _, rfl, rfl, _, rfl, ?_⟩
      refine ite2 (fun c33 => ?_) (fun c33 => ?_)
      · refine ⟨_, rfl, _, _, rfl, rfl, _, rfl, ?_⟩
        refine ite2 (fun c34 => ?_) (fun c34 => ?_)
        · refine ⟨_, rfl, _, rfl, _, _, rfl, rfl, _, rfl, ?_⟩
          refine ite2 (fun c35 => ?_) (fun c35 => ?_)
          · refine ⟨_, rfl, _, rfl, ?_⟩
            refine ite2 (fun c36 => ?_) (fun c36 => ?_)
            · exact castB k (by (try simp only [decide_eq_true_eq, Bool.not_eq_true, decide_eq_false_iff_not, beq_iff_eq, Bool.not_eq_true', Bool.true_eq_false, reduceCtorEq, not_true_eq_false] at c1 c33 c34 c35 c36) <;> (first | rfl | (rw [Bool.eq_iff_iff]; simp only [ch_12 hC, Sh.within, decide_eq_true_eq, Bool.and_eq_true, Bool.or_eq_true, Bool.not_eq_true', decide_eq_false_iff_not, Bool.false_eq_true, reduceCtorEq, iff_false, iff_true] <;> (try simp only [Sh.size]) <;> omega)))
            · refine ⟨_, rfl, ?_⟩
              exact castB k (by (try simp only [decide_eq_true_eq, Bool.not_eq_true, decide_eq_false_iff_not, beq_iff_eq, Bool.not_eq_true', Bool.true_eq_false, reduceCtorEq, not_true_eq_false] at c1 c33 c34 c35 c36) <;> (first | rfl | (rw [Bool.eq_iff_iff]; simp only [ch_12 hC, Sh.within, decide_eq_true_eq, Bool.and_eq_true, Bool.or_eq_true, Bool.not_eq_true', decide_eq_false_iff_not, Bool.false_eq_true, reduceCtorEq, iff_false, iff_true] <;> (try simp only [Sh.size]) <;> omega)))
          · refine ⟨_, rfl, _, rfl, _, _, rfl, rfl, _, rfl, ?_⟩
            refine ite2 (fun c37 => ?_) (fun c37 => ?_)
            · refine ⟨_, _, rfl, rfl, _, rfl, _, rfl, ?_⟩
              refine ite2 (fun c38 => ?_) (fun c38 => ?_)
              · exact castB k (by (try simp only [decide_eq_true_eq, Bool.not_eq_true, decide_eq_false_iff_not, beq_iff_eq, Bool.not_eq_true', Bool.true_eq_false, reduceCtorEq, not_true_eq_false] at c1 c33 c34 c35 c37 c38) <;> (first | rfl | (rw [Bool.eq_iff_iff]; simp only [ch_12 hC, Sh.within, decide_eq_true_eq, Bool.and_eq_true, Bool.or_eq_true, Bool.not_eq_true', decide_eq_false_iff_not, Bool.false_eq_true, reduceCtorEq, iff_false, iff_true] <;> (try simp only [Sh.size]) <;> omega)))
              · refine ⟨_, rfl, ?_⟩
                exact castB k (by (try simp only [decide_eq_true_eq, Bool.not_eq_true, decide_eq_false_iff_not, beq_iff_eq, Bool.not_eq_true', Bool.true_eq_false, reduceCtorEq, not_true_eq_false] at c1 c33 c34 c35 c37 c38) <;> (first | rfl | (rw [Bool.eq_iff_iff]; simp only [ch_12 hC, Sh.within, decide_eq_true_eq, Bool.and_eq_true, Bool.or_eq_true, Bool.not_eq_true', decide_eq_false_iff_not, Bool.false_eq_true, reduceCtorEq, iff_false, iff_true] <;> (try simp only [Sh.size]) <;> omega)))
            · refine ⟨_, rfl, _, rfl, ?_⟩
              refine ite2 (fun c39 => ?_) (fun c39 => ?_)
              · exact castB k (by (try simp only [decide_eq_true_eq, Bool.not_eq_true, decide_eq_false_iff_not, beq_iff_eq, Bool.not_eq_true', Bool.true_eq_false, reduceCtorEq, not_true_eq_false] at c1 c33 c34 c35 c37 c39) <;> (first | rfl | (rw [Bool.eq_iff_iff]; simp only [ch_12 hC, Sh.within, decide_eq_true_eq, Bool.and_eq_true, Bool.or_eq_true, Bool.not_eq_true', decide_eq_false_iff_not, Bool.false_eq_true, reduceCtorEq, iff_false, iff_true] <;> (try simp only [Sh.size]) <;> omega)))
              · refine ⟨_, rfl, ?_⟩
                exact castB k (by (try simp only [decide_eq_true_eq, Bool.not_eq_true, decide_eq_false_iff_not, beq_iff_eq, Bool.not_eq_true', Bool.true_eq_false, reduceCtorEq, not_true_eq_false] at c1 c33 c34 c35 c37 c39) <;> (first | rfl | (rw [Bool.eq_iff_iff]; simp only [ch_12 hC, Sh.within, decide_eq_true_eq, Bool.and_eq_true, Bool.or_eq_true, Bool.not_eq_true', decide_eq_false_iff_not, Bool.false_eq_true, reduceCtorEq, iff_false, iff_true] <;> (try simp only [Sh.size]) <;> omega)))
        · refine ⟨_, rfl, _, rfl, ?_⟩
          refine ite2 (fun c40 => ?_) (fun c40 => ?_)
          · exact castB k (by (try simp only [decide_eq_true_eq, Bool.not_eq_true, decide_eq_false_iff_not, beq_iff_eq, Bool.not_eq_true', Bool.true_eq_false, reduceCtorEq, not_true_eq_false] at c1 c33 c34 c40) <;> (first | rfl | (rw [Bool.eq_iff_iff]; simp only [ch_12 hC, Sh.within, decide_eq_true_eq, Bool.and_eq_true, Bool.or_eq_true, Bool.not_eq_true', decide_eq_false_iff_not, Bool.false_eq_true, reduceCtorEq, iff_false, iff_true] <;> (try simp only [Sh.size]) <;> omega)))
          · refine ⟨_, rfl, ?_⟩
            exact castB k (by (try simp only [decide_eq_true_eq, Bool.not_eq_true, decide_eq_false_iff_not, beq_iff_eq, Bool.not_eq_true', Bool.true_eq_false, reduceCtorEq, not_true_eq_false] at c1 c33 c34 c40) <;> (first | rfl | (rw [Bool.eq_iff_iff]; simp only [ch_12 hC, Sh.within, decide_eq_true_eq, Bool.and_eq_true, Bool.or_eq_true, Bool.not_eq_true', decide_eq_false_iff_not, Bool.false_eq_true, reduceCtorEq, iff_false, iff_true] <;> (try simp only [Sh.size]) <;> omega)))
      · refine ⟨_, rfl, ?_⟩
        refine ite2 (fun c41 => ?_) (fun c41 => ?_)
        · refine ⟨_, rfl, _, rfl, _, _, rfl, rfl, _, rfl, ?_⟩
          refine ite2 (fun c42 => ?_) (fun c42 => ?_)
          · refine ⟨_, rfl, _, rfl, ?_⟩
            refine ite2 (fun c43 => ?_) (fun c43 => ?_)
            · exact castB k (by (try simp only [decide_eq_true_eq, Bool.not_eq_true, decide_eq_false_iff_not, beq_iff_eq, Bool.not_eq_true', Bool.true_eq_false, reduceCtorEq, not_true_eq_false] at c1 c33 c41 c42 c43) <;> (first | rfl | (rw [Bool.eq_iff_iff]; simp only [ch_12 hC, Sh.within, decide_eq_true_eq, Bool.and_eq_true, Bool.or_eq_true, Bool.not_eq_true', decide_eq_false_iff_not, Bool.false_eq_true, reduceCtorEq, iff_false, iff_true] <;> (try simp only [Sh.size]) <;> omega)))
            · refine ⟨_, rfl, ?_⟩
              exact castB k (by (try simp only [decide_eq_true_eq, Bool.not_eq_true, decide_eq_false_iff_not, beq_iff_eq, Bool.not_eq_true', Bool.true_eq_false, reduceCtorEq, not_true_eq_false] at c1 c33 c41 c42 c43) <;> (first | rfl | (rw [Bool.eq_iff_iff]; simp only [ch_12 hC, Sh.within, decide_eq_true_eq, Bool.and_eq_true, Bool.or_eq_true, Bool.not_eq_true', decide_eq_false_iff_not, Bool.false_eq_true, reduceCtorEq, iff_false, iff_true] <;> (try simp only [Sh.size]) <;> omega)))
          · refine ⟨_, rfl, _, rfl, _, _, rfl, rfl, _, rfl, ?_⟩
            refine ite2 (fun c44 => ?_) (fun c44 => ?_)
            · refine ⟨_, _, rfl, rfl, _, rfl, _, rfl, ?_⟩
              refine ite2 (fun c45 => ?_) (fun c45 => ?_)
              · exact castB k (by (try simp only [decide_eq_true_eq, Bool.not_eq_true, decide_eq_false_iff_not, beq_iff_eq, Bool.not_eq_true', Bool.true_eq_false, reduceCtorEq, not_true_eq_false] at c1 c33 c41 c42 c44 c45) <;> (first | rfl | (rw [Bool.eq_iff_iff]; simp only [ch_12 hC, Sh.within, decide_eq_true_eq, Bool.and_eq_true, Bool.or_eq_true, Bool.not_eq_true', decide_eq_false_iff_not, Bool.false_eq_true, reduceCtorEq, iff_false, iff_true] <;> (try simp only [Sh.size]) <;> omega)))
              · refine ⟨_, rfl, ?_⟩
                exact castB k (by (try simp only [decide_eq_true_eq, Bool.not_eq_true, decide_eq_false_iff_not, beq_iff_eq, Bool.not_eq_true', Bool.true_eq_false, reduceCtorEq, not_true_eq_false] at c1 c33 c41 c42 c44 c45) <;> (first | rfl | (rw [Bool.eq_iff_iff]; simp only [ch_12 hC, Sh.within, decide_eq_true_eq, Bool.and_eq_true, Bool.or_eq_true, Bool.not_eq_true', decide_eq_false_iff_not, Bool.false_eq_true, reduceCtorEq, iff_false, iff_true] <;> (try simp only [Sh.size]) <;> omega)))
            · refine ⟨_, rfl, _, rfl, ?_⟩
              refine ite2 (fun c46 => ?_) (fun c46 => ?_)
              · exact castB k (by (try simp only [decide_eq_true_eq, Bool.not_eq_true, decide_eq_false_iff_not, beq_iff_eq, Bool.not_eq_true', Bool.true_eq_false, reduceCtorEq, not_true_eq_false] at c1 c33 c41 c42 c44 c46) <;> (first | rfl | (rw [Bool.eq_iff_iff]; simp only [ch_12 hC, Sh.within, decide_eq_true_eq, Bool.and_eq_true, Bool.or_eq_true, Bool.not_eq_true', decide_eq_false_iff_not, Bool.false_eq_true, reduceCtorEq, iff_false, iff_true] <;> (try simp only [Sh.size]) <;> omega)))
              · refine ⟨_, rfl, ?_⟩
                exact castB k (by (try simp only [decide_eq_true_eq, Bool.not_eq_true, decide_eq_false_iff_not, beq_iff_eq, Bool.not_eq_true', Bool.true_eq_false, reduceCtorEq, not_true_eq_false] at c1 c33 c41 c42 c44 c46) <;> (first | rfl | (rw [Bool.eq_iff_iff]; simp only [ch_12 hC, Sh.within, decide_eq_true_eq, Bool.and_eq_true, Bool.or_eq_true, Bool.not_eq_true', decide_eq_false_iff_not, Bool.false_eq_true, reduceCtorEq, iff_false, iff_true] <;> (try simp only [Sh.size]) <;> omega)))
        · refine ⟨_, rfl, _, rfl, ?_⟩
          refine ite2 (fun c47 => ?_) (fun c47 => ?_)
          · exact castB k (by (try simp only [decide_eq_true_eq, Bool.not_eq_true, decide_eq_false_iff_not, beq_iff_eq, Bool.not_eq_true', Bool.true_eq_false, reduceCtorEq, not_true_eq_false] at c1 c33 c41 c47) <;> (first | rfl | (rw [Bool.eq_iff_iff]; simp only [ch_12 hC, Sh.within, decide_eq_true_eq, Bool.and_eq_true, Bool.or_eq_true, Bool.not_eq_true', decide_eq_false_iff_not, Bool.false_eq_true, reduceCtorEq, iff_false, iff_true] <;> (try simp only [Sh.size]) <;> omega)))
          · refine ⟨_, rfl, ?_⟩
            exact castB k (by (try simp only [decide_eq_true_eq, Bool.not_eq_true, decide_eq_false_iff_not, beq_iff_eq, Bool.not_eq_true', Bool.true_eq_false, reduceCtorEq, not_true_eq_false] at c1 c33 c41 c47) <;> (first | rfl | (rw [Bool.eq_iff_iff]; simp only [ch_12 hC, Sh.within, decide_eq_true_eq, Bool.and_eq_true, Bool.or_eq_true, Bool.not_eq_true', decide_eq_false_iff_not, Bool.false_eq_true, reduceCtorEq, iff_false, iff_true] <;> (try simp only [Sh.size]) <;> omega)))
abbrev sp_sword : Sp := spI2 (fun x y => -48 ≤ x ∧ x ≤ 48 ∧ -48 ≤ y ∧ y ≤ 48) (fun x y => .bl (Sh.chargeHas 13 x y))
theorem sc_sword : FnScope ["x", "y", "blade", "hilt"] ["x", "y"] (defScope s_sword) := ⟨rfl, rfl, rfl, by decide +kernel, rfl, by decide +kernel, by decide +kernel⟩
theorem ok_sword (T : Txt K mg d) : OkD P w K mg base CX0 1 d.f_sword ["x", "y"] (sp_sword) := by
  obtain ⟨fd, F, B⟩ := T.k_sword.ex
  refine ⟨⟨fd, F.ok sc_sword (fun vs H Q E h => ?_) (fun cdv A outer s H vs Q E hr h => ?_), B⟩, F.kp⟩
  · obtain ⟨x, y, rfl, _⟩ := h
    rfl
  · obtain ⟨x, y, rfl, hC, k⟩ := h
    refine ⟨_, pss_cons (ps_set (i := 2) sc_sword.nd rfl (Or.inl rfl) (pe_and (pe_cmpR op_lt (pe_callB call_abs (by rfl) T.b_abs (by decide +kernel) (pa_cons (pv 0) pa_nil)) pe_int (nomark _)) (pe_one (pe_cmpR op_lt (pe_callB call_abs (by rfl) T.b_abs (by decide +kernel) (pa_cons (pv 1) pa_nil)) pe_int (nomark _)))))
      (pss_cons (ps_set (i := 3) sc_sword.nd rfl (Or.inl rfl) (pe_and (pe_cmpR op_lt (pe_callB call_abs (by rfl) T.b_abs (by decide +kernel) (pa_cons (pv 0) pa_nil)) pe_int (nomark _)) (pe_one (pe_chain op_le op_lt pe_int (pv 1) pe_int))))
      (pss_one (ps_ret (pe_or (pv 2) (pe_one (pv 3)))))), ?_⟩
    refine ⟨_, rfl, _, rfl, _, _, rfl, rfl, _, rfl, ?_⟩
    refine ite2 (fun c1 => ?_) (fun c1 => ?_)
    · refine ⟨_, rfl, _, rfl, _, _, rfl, rfl, _, rfl, _, rfl, _, _, rfl, rfl, _, rfl, ?_⟩
      refine ite2 (fun c2 => ?_) (fun c2 => ?_)
      · refine ⟨_, rfl, _, _, rfl, rfl, _, rfl, ?_⟩
        refine ite2 (fun c3 => ?_) (fun c3 => ?_)
        · refine ⟨_, _, rfl, rfl, _, rfl, _, rfl, ?_⟩
          refine ite2 (fun c4 => ?_) (fun c4 => ?_)
          · exact castB k (by (try simp only [decide_eq_true_eq, Bool.not_eq_true, decide_eq_false_iff_not, beq_iff_eq, Bool.not_eq_true', Bool.true_eq_false, reduceCtorEq, not_true_eq_false] at c1 c2 c3 c4) <;> (first | rfl | (rw [Bool.eq_iff_iff]; simp only [ch_13 hC, Sh.within, decide_eq_true_eq, Bool.and_eq_true, Bool.or_eq_true, Bool.not_eq_true', decide_eq_false_iff_not, Bool.false_eq_true, reduceCtorEq, iff_false, iff_true] <;> (try simp only [Sh.size]) <;> omega)))
          · refine ⟨_, rfl, ?_⟩
            exact castB k (by (try simp only [decide_eq_true_eq, Bool.not_eq_true, decide_eq_false_iff_not, beq_iff_eq, Bool.not_eq_true', Bool.true_eq_false, reduceCtorEq, not_true_eq_false] at c1 c2 c3 c4) <;> (first | rfl | (rw [Bool.eq_iff_iff]; simp only [ch_13 hC, Sh.within, decide_eq_true_eq, Bool.and_eq_true, Bool.or_eq_true, Bool.not_eq_true', decide_eq_false_iff_not, Bool.false_eq_true, reduceCtorEq, iff_false, iff_true] <;> (try simp only [Sh.size]) <;> omega)))
        · refine ⟨_, rfl, _, rfl, ?_⟩
          refine ite2 (fun c5 => ?_) (fun c5 => ?_)
          · exact castB k (by (try simp only [decide_eq_true_eq, Bool.not_eq_true, decide_eq_false_iff_not, beq_iff_eq, Bool.not_eq_true', Bool.true_eq_false, reduceCtorEq, not_true_eq_false] at c1 c2 c3 c5) <;> (first | rfl | (rw [Bool.eq_iff_iff]; simp only [ch_13 hC, Sh.within, decide_eq_true_eq, Bool.and_eq_true, Bool.or_eq_true, Bool.not_eq_true', decide_eq_false_iff_not, Bool.false_eq_true, reduceCtorEq, iff_false, iff_true] <;> (try simp only [Sh.size]) <;> omega)))
          · refine ⟨_, rfl, ?_⟩
            exact castB k (by (try simp only [decide_eq_true_eq, Bool.not_eq_true, decide_eq_false_iff_not, beq_iff_eq, Bool.not_eq_true', Bool.true_eq_false, reduceCtorEq, not_true_eq_false] at c1 c2 c3 c5) <;> (first | rfl | (rw [Bool.eq_iff_iff]; simp only [ch_13 hC, Sh.within, decide_eq_true_eq, Bool.and_eq_true, Bool.or_eq_true, Bool.not_eq_true', decide_eq_false_iff_not, Bool.false_eq_true, reduceCtorEq, iff_false, iff_true] <;> (try simp only [Sh.size]) <;> omega)))
      · refine ⟨_, rfl, _, rfl, ?_⟩
        refine ite2 (fun c6 => ?_) (fun c6 => ?_)
        · exact castB k (by (try simp only [decide_eq_true_eq, Bool.not_eq_true, decide_eq_false_iff_not, beq_iff_eq, Bool.not_eq_true', Bool.true_eq_false, reduceCtorEq, not_true_eq_false] at c1 c2 c6) <;> (first | rfl | (rw [Bool.eq_iff_iff]; simp only [ch_13 hC, Sh.within, decide_eq_true_eq, Bool.and_eq_true, Bool.or_eq_true, Bool.not_eq_true', decide_eq_false_iff_not, Bool.false_eq_true, reduceCtorEq, iff_false, iff_true] <;> (try simp only [Sh.size]) <;> omega)))
        · refine ⟨_, rfl, ?_⟩
          exact castB k (by (try simp only [decide_eq_true_eq, Bool.not_eq_true, decide_eq_false_iff_not, beq_iff_eq, Bool.not_eq_true', Bool.true_eq_false, reduceCtorEq, not_true_eq_false] at c1 c2 c6) <;> (first | rfl | (rw [Bool.eq_iff_iff]; simp only [ch_13 hC, Sh.within, decide_eq_true_eq, Bool.and_eq_true, Bool.or_eq_true, Bool.not_eq_true', decide_eq_false_iff_not, Bool.false_eq_true, reduceCtorEq, iff_false, iff_true] <;> (try simp only [Sh.size]) <;> omega)))
    · refine ⟨_, rfl, _, rfl, _, _, rfl, rfl, _, rfl, ?_⟩
      refine ite2 (fun c7 => ?_) (fun c7 => ?_)
      · refine ⟨_, rfl, _, _, rfl, rfl, _, rfl, ?_⟩
        refine ite2 (fun c8 => ?_) (fun c8 => ?_)
        · refine ⟨_, _, rfl, rfl, _, rfl, _, rfl, ?_⟩
          refine ite2 (fun c9 => ?_) (fun c9 => ?_)
          · exact castB k (by (try simp only [decide_eq_true_eq, Bool.not_eq_true, decide_eq_false_iff_not, beq_iff_eq, Bool.not_eq_true', Bool.true_eq_false, reduceCtorEq, not_true_eq_false] at c1 c7 c8 c9) <;> (first | rfl | (rw [Bool.eq_iff_iff]; simp only [ch_13 hC, Sh.within, decide_eq_true_eq, Bool.and_eq_true, Bool.or_eq_true, Bool.not_eq_true', decide_eq_false_iff_not, Bool.false_eq_true, reduceCtorEq, iff_false, iff_true] <;> (try simp only [Sh.size]) <;> omega)))
          · refine ⟨_, rfl, ?_⟩
            exact castB k (by (try simp only [decide_eq_true_eq, Bool.not_eq_true, decide_eq_false_iff_not, beq_iff_eq, Bool.not_eq_true', Bool.true_eq_false, reduceCtorEq, not_true_eq_false] at c1 c7 c8 c9) <;> (first | rfl | (rw [Bool.eq_iff_iff]; simp only [ch_13 hC, Sh.within, decide_eq_true_eq, Bool.and_eq_true, Bool.or_eq_true, Bool.not_eq_true', decide_eq_false_iff_not, Bool.false_eq_true, reduceCtorEq, iff_false, iff_true] <;> (try simp only [Sh.size]) <;> omega)))
        · refine ⟨_, rfl, _, rfl, ?_⟩
          refine ite2 (fun c10 => ?_) (fun c10 => ?_)
          · exact castB k (by (try simp only [decide_eq_true_eq, Bool.not_eq_true, decide_eq_false_iff_not, beq_iff_eq, Bool.not_eq_true', Bool.true_eq_false, reduceCtorEq, not_true_eq_false] at c1 c7 c8 c10) <;> (first | rfl | (rw [Bool.eq_iff_iff]; simp only [ch_13 hC, Sh.within, decide_eq_true_eq, Bool.and_eq_true, Bool.or_eq_true, Bool.not_eq_true', decide_eq_false_iff_not, Bool.false_eq_true, reduceCtorEq, iff_false, iff_true] <;> (try simp only [Sh.size]) <;> omega)))
          · refine ⟨_, rfl, ?_⟩
            exact castB k (by (try simp only [decide_eq_true_eq, Bool.not_eq_true, decide_eq_false_iff_not, beq_iff_eq, Bool.not_eq_true', Bool.true_eq_false, reduceCtorEq, not_true_eq_false] at c1 c7 c8 c10) <;> (first | rfl | (rw [Bool.eq_iff_iff]; simp only [ch_13 hC, Sh.within, decide_eq_true_eq, Bool.and_eq_true, Bool.or_eq_true, Bool.not_eq_true', decide_eq_false_iff_not, Bool.false_eq_true, reduceCtorEq, iff_false, iff_true] <;> (try simp only [Sh.size]) <;> omega)))
      · refine ⟨_, rfl, _, rfl, ?_⟩
        refine ite2 (fun c11 => ?_) (fun c11 => ?_)
        · exact castB k (by (try simp only [decide_eq_true_eq, Bool.not_eq_true, decide_eq_false_iff_not, beq_iff_eq, Bool.not_eq_true', Bool.true_eq_false, reduceCtorEq, not_true_eq_false] at c1 c7 c11) <;> (first | rfl | (rw [Bool.eq_iff_iff]; simp only [ch_13 hC, Sh.within, decide_eq_true_eq, Bool.and_eq_true, Bool.or_eq_true, Bool.not_eq_true', decide_eq_false_iff_not, Bool.false_eq_true, reduceCtorEq, iff_false, iff_true] <;> (try simp only [Sh.size]) <;> omega)))
        · refine ⟨_, rfl, ?_⟩
          exact castB k (by (try simp only [decide_eq_true_eq, Bool.not_eq_true, decide_eq_false_iff_not, beq_iff_eq, Bool.not_eq_true', Bool.true_eq_false, reduceCtorEq, not_true_eq_false] at c1 c7 c11) <;> (first | rfl | (rw [Bool.eq_iff_iff]; simp only [ch_13 hC, Sh.within, decide_eq_true_eq, Bool.and_eq_true, Bool.or_eq_true, Bool.not_eq_true', decide_eq_false_iff_not, Bool.false_eq_true, reduceCtorEq, iff_false, iff_true] <;> (try simp only [Sh.size]) <;> omega)))
abbrev sp_wheel : Sp := spI2 (fun x y => -48 ≤ x ∧ x ≤ 48 ∧ -48 ≤ y ∧ y ≤ 48) (fun x y => .bl (Sh.chargeHas 14 x y))
theorem sc_wheel : FnScope ["x", "y", "rim", "spokes"] ["x", "y"] (defScope s_wheel) := ⟨rfl, rfl, rfl, by decide +kernel, rfl, by decide +kernel, by decide +kernel⟩
theorem ok_wheel (T : Txt K mg d) : OkD P w K mg base CX0 2 d.f_wheel ["x", "y"] (sp_wheel) := by
  obtain ⟨fd, F, B⟩ := T.k_wheel.ex
  obtain ⟨⟨fd_squared, G_squared, B_squared⟩, kp_squared⟩ := ok_squared (P := P) (w := w) (base := base) T
  refine ⟨⟨fd, F.ok sc_wheel (fun vs H Q E h => ?_) (fun cdv A outer s H vs Q E hr h => ?_), B⟩, F.kp⟩
  · obtain ⟨x, y, rfl, _⟩ := h
    rfl
  · obtain ⟨x, y, rfl, hC, k⟩ := h
    have hr_squared : Room 1 _ := hr.mono (by decide)
    refine ⟨_, pss_cons (ps_set (i := 2) sc_wheel.nd rfl (Or.inl rfl) (pe_chain op_le op_lt pe_int (pe_call G_squared hr_squared rfl T.k_squared.gl kp_squared B_squared .nil pass0 (pa_cons (pv 0) (pa_cons (pv 1) pa_nil))) pe_int))
      (pss_cons (ps_set (i := 3) sc_wheel.nd rfl (Or.inl rfl) (pe_and (pe_cmpR op_lt (pe_call G_squared hr_squared rfl T.k_squared.gl kp_squared B_squared .nil pass0 (pa_cons (pv 0) (pa_cons (pv 1) pa_nil))) pe_int (nomark _)) (pe_one (pe_or (pe_cmpR op_lt (pe_callB call_abs (by rfl) T.b_abs (by decide +kernel) (pa_cons (pv 0) pa_nil)) pe_int (nomark _)) (pe_one (pe_cmpR op_lt (pe_callB call_abs (by rfl) T.b_abs (by decide +kernel) (pa_cons (pv 1) pa_nil)) pe_int (nomark _)))))))
      (pss_one (ps_ret (pe_or (pv 2) (pe_one (pv 3)))))), ?_⟩
    refine ⟨_, rfl, _, rfl, _, _, rfl, (by first | trivial | assumption | omega), _, _, rfl, rfl, _, rfl, ?_⟩
    refine ite2 (fun c1 => ?_) (fun c1 => ?_)
    · refine ⟨_, _, rfl, rfl, _, rfl, _, rfl, _, _, rfl, (by first | trivial | assumption | omega), _, _, rfl, rfl, _, rfl, ?_⟩
      refine ite2 (fun c2 => ?_) (fun c2 => ?_)
      · refine ⟨_, rfl, _, rfl, _, _, rfl, rfl, _, rfl, ?_⟩
        refine ite2 (fun c3 => ?_) (fun c3 => ?_)
        · refine ⟨_, rfl, _, rfl, ?_⟩
          refine ite2 (fun c4 => ?_) (fun c4 => ?_)
          · exact castB k (by (try simp only [decide_eq_true_eq, Bool.not_eq_true, decide_eq_false_iff_not, beq_iff_eq, Bool.not_eq_true', Bool.true_eq_false, reduceCtorEq, not_true_eq_false] at c1 c2 c3 c4) <;> (first | rfl | (rw [Bool.eq_iff_iff]; simp only [ch_14 hC, Sh.within, decide_eq_true_eq, Bool.and_eq_true, Bool.or_eq_true, Bool.not_eq_true', decide_eq_false_iff_not, Bool.false_eq_true, reduceCtorEq, iff_false, iff_true] <;> (try simp only [Sh.size]) <;> omega)))
          · refine ⟨_, rfl, ?_⟩
            exact castB k (by (try simp only [decide_eq_true_eq, Bool.not_eq_true, decide_eq_false_iff_not, beq_iff_eq, Bool.not_eq_true', Bool.true_eq_false, reduceCtorEq, not_true_eq_false] at c1 c2 c3 c4) <;> (first | rfl | (rw [Bool.eq_iff_iff]; simp only [ch_14 hC, Sh.within, decide_eq_true_eq, Bool.and_eq_true, Bool.or_eq_true, Bool.not_eq_true', decide_eq_false_iff_not, Bool.false_eq_true, reduceCtorEq, iff_false, iff_true] <;> (try simp only [Sh.size]) <;> omega)))
        · refine ⟨_, rfl, _, rfl, _, _, rfl, rfl, _, rfl, _, rfl, ?_⟩
          refine ite2 (fun c5 => ?_) (fun c5 => ?_)
          · exact castB k (by (try simp only [decide_eq_true_eq, Bool.not_eq_true, decide_eq_false_iff_not, beq_iff_eq, Bool.not_eq_true', Bool.true_eq_false, reduceCtorEq, not_true_eq_false] at c1 c2 c3 c5) <;> (first | rfl | (rw [Bool.eq_iff_iff]; simp only [ch_14 hC, Sh.within, decide_eq_true_eq, Bool.and_eq_true, Bool.or_eq_true, Bool.not_eq_true', decide_eq_false_iff_not, Bool.false_eq_true, reduceCtorEq, iff_false, iff_true] <;> (try simp only [Sh.size]) <;> omega)))
          · refine ⟨_, rfl, ?_⟩
            exact castB k (by (try simp only [decide_eq_true_eq, Bool.not_eq_true, decide_eq_false_iff_not, beq_iff_eq, Bool.not_eq_true', Bool.true_eq_false, reduceCtorEq, not_true_eq_false] at c1 c2 c3 c5) <;> (first | rfl | (rw [Bool.eq_iff_iff]; simp only [ch_14 hC, Sh.within, decide_eq_true_eq, Bool.and_eq_true, Bool.or_eq_true, Bool.not_eq_true', decide_eq_false_iff_not, Bool.false_eq_true, reduceCtorEq, iff_false, iff_true] <;> (try simp only [Sh.size]) <;> omega)))
      · refine ⟨_, rfl, _, rfl, ?_⟩
        refine ite2 (fun c6 => ?_) (fun c6 => ?_)
        · exact castB k (by (try simp only [decide_eq_true_eq, Bool.not_eq_true, decide_eq_false_iff_not, beq_iff_eq, Bool.not_eq_true', Bool.true_eq_false, reduceCtorEq, not_true_eq_false] at c1 c2 c6) <;> (first | rfl | (rw [Bool.eq_iff_iff]; simp only [ch_14 hC, Sh.within, decide_eq_true_eq, Bool.and_eq_true, Bool.or_eq_true, Bool.not_eq_true', decide_eq_false_iff_not, Bool.false_eq_true, reduceCtorEq, iff_false, iff_true] <;> (try simp only [Sh.size]) <;> omega)))
        · refine ⟨_, rfl, ?_⟩
          exact castB k (by (try simp only [decide_eq_true_eq, Bool.not_eq_true, decide_eq_false_iff_not, beq_iff_eq, Bool.not_eq_true', Bool.true_eq_false, reduceCtorEq, not_true_eq_false] at c1 c2 c6) <;> (first | rfl | (rw [Bool.eq_iff_iff]; simp only [ch_14 hC, Sh.within, decide_eq_true_eq, Bool.and_eq_true, Bool.or_eq_true, Bool.not_eq_true', decide_eq_false_iff_not, Bool.false_eq_true, reduceCtorEq, iff_false, iff_true] <;> (try simp only [Sh.size]) <;> omega)))
    · refine ⟨_, rfl, _, rfl, _, _, rfl, (by first | trivial | assumption | omega), _, _, rfl, rfl, _, rfl, ?_⟩
      refine ite2 (fun c7 => ?_) (fun c7 => ?_)
      · refine ⟨_, rfl, _, rfl, _, _, rfl, rfl, _, rfl, ?_⟩
        refine ite2 (fun c8 => ?_) (fun c8 => ?_)
        · refine ⟨_, rfl, _, rfl, ?_⟩
          refine ite2 (fun c9 => ?_) (fun c9 => ?_)
          · exact castB k (by (try simp only [decide_eq_true_eq, Bool.not_eq_true, decide_eq_false_iff_not, beq_iff_eq, Bool.not_eq_true', Bool.true_eq_false, reduceCtorEq, not_true_eq_false] at c1 c7 c8 c9) <;> (first | rfl | (rw [Bool.eq_iff_iff]; simp only [ch_14 hC, Sh.within, decide_eq_true_eq, Bool.and_eq_true, Bool.or_eq_true, Bool.not_eq_true', decide_eq_false_iff_not, Bool.false_eq_true, reduceCtorEq, iff_false, iff_true] <;> (try simp only [Sh.size]) <;> omega)))
          · refine ⟨_, rfl, ?_⟩
            exact castB k (by (try simp only [decide_eq_true_eq, Bool.not_eq_true, decide_eq_false_iff_not, beq_iff_eq, Bool.not_eq_true', Bool.true_eq_false, reduceCtorEq, not_true_eq_false] at c1 c7 c8 c9) <;> (first | rfl | (rw [Bool.eq_iff_iff]; simp only [ch_14 hC, Sh.within, decide_eq_true_eq, Bool.and_eq_true, Bool.or_eq_true, Bool.not_eq_true', decide_eq_false_iff_not, Bool.false_eq_true, reduceCtorEq, iff_false, iff_true] <;> (try simp only [Sh.size]) <;> omega)))
        · refine ⟨_, rfl, _, rfl, _, _, rfl, rfl, _, rfl, _, rfl, ?_⟩
          refine ite2 (fun c10 => ?_) (fun c10 => ?_)
          · exact castB k (by (try simp only [decide_eq_true_eq, Bool.not_eq_true, decide_eq_false_iff_not, beq_iff_eq, Bool.not_eq_true', Bool.true_eq_false, reduceCtorEq, not_true_eq_false] at c1 c7 c8 c10) <;> (first | rfl | (rw [Bool.eq_iff_iff]; simp only [ch_14 hC, Sh.within, decide_eq_true_eq, Bool.and_eq_true, Bool.or_eq_true, Bool.not_eq_true', decide_eq_false_iff_not, Bool.false_eq_true, reduceCtorEq, iff_false, iff_true] <;> (try simp only [Sh.size]) <;> omega)))
          · refine ⟨_, rfl, ?_⟩
            exact castB k (by (try simp only [decide_eq_true_eq, Bool.not_eq_true, decide_eq_false_iff_not, beq_iff_eq, Bool.not_eq_true', Bool.true_eq_false, reduceCtorEq, not_true_eq_false] at c1 c7 c8 c10) <;> (first | rfl | (rw [Bool.eq_iff_iff]; simp only [ch_14 hC, Sh.within, decide_eq_true_eq, Bool.and_eq_true, Bool.or_eq_true, Bool.not_eq_true', decide_eq_false_iff_not, Bool.false_eq_true, reduceCtorEq, iff_false, iff_true] <;> (try simp only [Sh.size]) <;> omega)))
      · refine ⟨_, rfl, _, rfl, ?_⟩
        refine ite2 (fun c11 => ?_) (fun c11 => ?_)
        · exact castB k (by (try simp only [decide_eq_true_eq, Bool.not_eq_true, decide_eq_false_iff_not, beq_iff_eq, Bool.not_eq_true', Bool.true_eq_false, reduceCtorEq, not_true_eq_false] at c1 c7 c11) <;> (first | rfl | (rw [Bool.eq_iff_iff]; simp only [ch_14 hC, Sh.within, decide_eq_true_eq, Bool.and_eq_true, Bool.or_eq_true, Bool.not_eq_true', decide_eq_false_iff_not, Bool.false_eq_true, reduceCtorEq, iff_false, iff_true] <;> (try simp only [Sh.size]) <;> omega)))
        · refine ⟨_, rfl, ?_⟩
          exact castB k (by (try simp only [decide_eq_true_eq, Bool.not_eq_true, decide_eq_false_iff_not, beq_iff_eq, Bool.not_eq_true', Bool.true_eq_false, reduceCtorEq, not_true_eq_false] at c1 c7 c11) <;> (first | rfl | (rw [Bool.eq_iff_iff]; simp only [ch_14 hC, Sh.within, decide_eq_true_eq, Bool.and_eq_true, Bool.or_eq_true, Bool.not_eq_true', decide_eq_false_iff_not, Bool.false_eq_true, reduceCtorEq, iff_false, iff_true] <;> (try simp only [Sh.size]) <;> omega)))
abbrev sp_arrow : Sp := spI2 (fun x y => -48 ≤ x ∧ x ≤ 48 ∧ -48 ≤ y ∧ y ≤ 48) (fun x y => .bl (Sh.chargeHas 15 x y))
theorem sc_arrow : FnScope ["x", "y", "shaft", "head", "feathers"] ["x", "y"] (defScope s_arrow) := ⟨rfl, rfl, rfl, by decide +kernel, rfl, by decide +kernel, by decide +kernel⟩
theorem ok_arrow (T : Txt K mg d) : OkD P w K mg base CX0 1 d.f_arrow ["x", "y"] (sp_arrow) := by
  obtain ⟨fd, F, B⟩ := T.k_arrow.ex
  refine ⟨⟨fd, F.ok sc_arrow (fun vs H Q E h => ?_) (fun cdv A outer s H vs Q E hr h => ?_), B⟩, F.kp⟩
  · obtain ⟨x, y, rfl, _⟩ := h
    rfl
  · obtain ⟨x, y, rfl, hC, k⟩ := h
    refine ⟨_, pss_cons (ps_set (i := 2) sc_arrow.nd rfl (Or.inl rfl) (pe_and (pe_cmpR op_lt (pe_callB call_abs (by rfl) T.b_abs (by decide +kernel) (pa_cons (pv 0) pa_nil)) pe_int (nomark _)) (pe_one (pe_cmpR op_lt (pe_callB call_abs (by rfl) T.b_abs (by decide +kernel) (pa_cons (pv 1) pa_nil)) pe_int (nomark _)))))
      (pss_cons (ps_set (i := 3) sc_arrow.nd rfl (Or.inl rfl) (pe_and (pe_chain op_le op_lt (pe_un un_neg pe_int) (pv 1) (pe_un un_neg pe_int)) (pe_one (pe_cmpR op_lt (pe_op op_mul pe_int (pe_callB call_abs (by rfl) T.b_abs (by decide +kernel) (pa_cons (pv 0) pa_nil))) (pe_op op_add (pv 1) pe_int) (nomark _)))))
      (pss_cons (ps_set (i := 4) sc_arrow.nd rfl (Or.inl rfl) (pe_and (pe_chain op_le op_lt pe_int (pv 1) pe_int) (pe_one (pe_cmpR op_lt (pe_callB call_abs (by rfl) T.b_abs (by decide +kernel) (pa_cons (pv 0) pa_nil)) pe_int (nomark _)))))
      (pss_one (ps_ret (pe_or (pv 2) (pe_or (pv 3) (pe_one (pv 4)))))))), ?_⟩
    refine ⟨_, rfl, _, rfl, _, _, rfl, rfl, _, rfl, ?_⟩
    refine ite2 (fun c1 => ?_) (fun c1 => ?_)
    · refine ⟨_, rfl, _, rfl, _, _, rfl, rfl, _, rfl, _, rfl, _, _, rfl, rfl, _, rfl, ?_⟩
      refine ite2 (fun c2 => ?_) (fun c2 => ?_)
      · refine ⟨_, rfl, _, _, rfl, rfl, _, rfl, ?_⟩
        refine ite2 (fun c3 => ?_) (fun c3 => ?_)
        · refine ⟨_, rfl, _, rfl, _, _, rfl, rfl, (by first | (apply Or.inl; constructor <;> (first | decide | omega)) | (apply Or.inr; constructor <;> (first | decide | omega))), _, rfl, _, _, rfl, rfl, _, _, rfl, rfl, _, rfl, _, _, rfl, rfl, _, rfl, ?_⟩
          refine ite2 (fun c4 => ?_) (fun c4 => ?_)
          · refine ⟨_, _, rfl, rfl, _, rfl, ?_⟩
            refine ite2 (fun c5 => ?_) (fun c5 => ?_)
            · refine ⟨_, rfl, _, rfl, _, _, rfl, rfl, _, rfl, _, rfl, ?_⟩
              refine ite2 (fun c6 => ?_) (fun c6 => ?_)
              · exact castB k (by (try simp only [decide_eq_true_eq, Bool.not_eq_true, decide_eq_false_iff_not, beq_iff_eq, Bool.not_eq_true', Bool.true_eq_false, reduceCtorEq, not_true_eq_false] at c1 c2 c3 c4 c5 c6) <;> (first | rfl | (rw [Bool.eq_iff_iff]; simp only [ch_15 hC, Sh.within, decide_eq_true_eq, Bool.and_eq_true, Bool.or_eq_true, Bool.not_eq_true', decide_eq_false_iff_not, Bool.false_eq_true, reduceCtorEq, iff_false, iff_true] <;> (try simp only [Sh.size]) <;> omega)))
              · refine ⟨_, rfl, _, rfl, ?_⟩
                refine ite2 (fun c7 => ?_) (fun c7 => ?_)
                · exact castB k (by (try simp only [decide_eq_true_eq, Bool.not_eq_true, decide_eq_false_iff_not, beq_iff_eq, Bool.not_eq_true', Bool.true_eq_false, reduceCtorEq, not_true_eq_false] at c1 c2 c3 c4 c5 c6 c7) <;> (first | rfl | (rw [Bool.eq_iff_iff]; simp only [ch_15 hC, Sh.within, decide_eq_true_eq, Bool.and_eq_true, Bool.or_eq_true, Bool.not_eq_true', decide_eq_false_iff_not, Bool.false_eq_true, reduceCtorEq, iff_false, iff_true] <;> (try simp only [Sh.size]) <;> omega)))
                · refine ⟨_, rfl, ?_⟩
                  exact castB k (by (try simp only [decide_eq_true_eq, Bool.not_eq_true, decide_eq_false_iff_not, beq_iff_eq, Bool.not_eq_true', Bool.true_eq_false, reduceCtorEq, not_true_eq_false] at c1 c2 c3 c4 c5 c6 c7) <;> (first | rfl | (rw [Bool.eq_iff_iff]; simp only [ch_15 hC, Sh.within, decide_eq_true_eq, Bool.and_eq_true, Bool.or_eq_true, Bool.not_eq_true', decide_eq_false_iff_not, Bool.false_eq_true, reduceCtorEq, iff_false, iff_true] <;> (try simp only [Sh.size]) <;> omega)))
            · refine ⟨_, rfl, _, rfl, ?_⟩
              refine ite2 (fun c8 => ?_) (fun c8 => ?_)
              · exact castB k (by (try simp only [decide_eq_true_eq, Bool.not_eq_true, decide_eq_false_iff_not, beq_iff_eq, Bool.not_eq_true', Bool.true_eq_false, reduceCtorEq, not_true_eq_false] at c1 c2 c3 c4 c5 c8) <;> (first | rfl | (rw [Bool.eq_iff_iff]; simp only [ch_15 hC, Sh.within, decide_eq_true_eq, Bool.and_eq_true, Bool.or_eq_true, Bool.not_eq_true', decide_eq_false_iff_not, Bool.false_eq_true, reduceCtorEq, iff_false, iff_true] <;> (try simp only [Sh.size]) <;> omega)))
              · refine ⟨_, rfl, _, rfl, ?_⟩
                refine ite2 (fun c9 => ?_) (fun c9 => ?_)
                · exact castB k (by (try simp only [decide_eq_true_eq, Bool.not_eq_true, decide_eq_false_iff_not, beq_iff_eq, Bool.not_eq_true', Bool.true_eq_false, reduceCtorEq, not_true_eq_false] at c1 c2 c3 c4 c5 c8 c9) <;> (first | rfl | (rw [Bool.eq_iff_iff]; simp only [ch_15 hC, Sh.within, decide_eq_true_eq, Bool.and_eq_true, Bool.or_eq_true, Bool.not_eq_true', decide_eq_false_iff_not, Bool.false_eq_true, reduceCtorEq, iff_false, iff_true] <;> (try simp only [Sh.size]) <;> omega)))
                · refine ⟨_, rfl, ?_⟩
                  exact castB k (by (try simp only [decide_eq_true_eq, Bool.not_eq_true, decide_eq_false_iff_not, beq_iff_eq, Bool.not_eq_true', Bool.true_eq_false, reduceCtorEq, not_true_eq_false] at c1 c2 c3 c4 c5 c8 c9) <;> (first | rfl | (rw [Bool.eq_iff_iff]; simp only [ch_15 hC, Sh.within, decide_eq_true_eq, Bool.and_eq_true, Bool.or_eq_true, Bool.not_eq_true', decide_eq_false_iff_not, Bool.false_eq_true, reduceCtorEq, iff_false, iff_true] <;> (try simp only [Sh.size]) <;> omega)))
          · refine ⟨_, rfl, ?_⟩
            refine ite2 (fun c10 => ?_) (fun c10 => ?_)
            · refine ⟨_, rfl, _, rfl, _, _, rfl, rfl, _, rfl, _, rfl, ?_⟩
              refine ite2 (fun c11 => ?_) (fun c11 => ?_)
              · exact castB k (by (try simp only [decide_eq_true_eq, Bool.not_eq_true, decide_eq_false_iff_not, beq_iff_eq, Bool.not_eq_true', Bool.true_eq_false, reduceCtorEq, not_true_eq_false] at c1 c2 c3 c4 c10 c11) <;> (first | rfl | (rw [Bool.eq_iff_iff]; simp only [ch_15 hC, Sh.within, decide_eq_true_eq, Bool.and_eq_true, Bool.or_eq_true, Bool.not_eq_true', decide_eq_false_iff_not, Bool.false_eq_true, reduceCtorEq, iff_false, iff_true] <;> (try simp only [Sh.size]) <;> omega)))
              · refine ⟨_, rfl, _, rfl, ?_⟩
                refine ite2 (fun c12 => ?_) (fun c12 => ?_)
                · exact castB k (by (try simp only [decide_eq_true_eq, Bool.not_eq_true, decide_eq_false_iff_not, beq_iff_eq, Bool.not_eq_true', Bool.true_eq_false, reduceCtorEq, not_true_eq_false] at c1 c2 c3 c4 c10 c11 c12) <;> (first | rfl | (rw [Bool.eq_iff_iff]; simp only [ch_15 hC, Sh.within, decide_eq_true_eq, Bool.and_eq_true, Bool.or_eq_true, Bool.not_eq_true', decide_eq_false_iff_not, Bool.false_eq_true, reduceCtorEq, iff_false, iff_true] <;> (try simp only [Sh.size]) <;> omega)))
                · refine ⟨_, rfl, ?_⟩
                  exact castB k (by (try simp only [decide_eq_true_eq, Bool.not_eq_true, decide_eq_false_iff_not, beq_iff_eq, Bool.not_eq_true', Bool.true_eq_false, reduceCtorEq, not_true_eq_false] at c1 c2 c3 c4 c10 c11 c12) <;> (first | rfl | (rw [Bool.eq_iff_iff]; simp only [ch_15 hC, Sh.within, decide_eq_true_eq, Bool.and_eq_true, Bool.or_eq_true, Bool.not_eq_true', decide_eq_false_iff_not, Bool.false_eq_true, reduceCtorEq, iff_false, iff_true] <;> (try simp only [Sh.size]) <;> omega)))
            · refine ⟨_, rfl, _, rfl, ?_⟩
              refine ite2 (fun c13 => ?_) (fun c13 => ?_)
              · exact castB k (by (try simp only [decide_eq_true_eq, Bool.not_eq_true, decide_eq_false_iff_not, beq_iff_eq, Bool.not_eq_true', Bool.true_eq_false, reduceCtorEq, not_true_eq_false] at c1 c2 c3 c4 c10 c13) <;> (first | rfl | (rw [Bool.eq_iff_iff]; simp only [ch_15 hC, Sh.within, decide_eq_true_eq, Bool.and_eq_true, Bool.or_eq_true, Bool.not_eq_true', decide_eq_false_iff_not, Bool.false_eq_true, reduceCtorEq, iff_false, iff_true] <;> (try simp only [Sh.size]) <;> omega)))
              · refine ⟨_, rfl, _, rfl, ?_⟩
                refine ite2 (fun c14 => ?_) (fun c14 => ?_)
                · exact castB k (by (try simp only [decide_eq_true_eq, Bool.not_eq_true, decide_eq_false_iff_not, beq_iff_eq, Bool.not_eq_true', Bool.true_eq_false, reduceCtorEq, not_true_eq_false] at c1 c2 c3 c4 c10 c13 c14) <;> (first | rfl | (rw [Bool.eq_iff_iff]; simp only [ch_15 hC, Sh.within, decide_eq_true_eq, Bool.and_eq_true, Bool.or_eq_true, Bool.not_eq_true', decide_eq_false_iff_not, Bool.false_eq_true, reduceCtorEq, iff_false, iff_true] <;> (try simp only [Sh.size]) <;> omega)))
                · refine ⟨_, rfl, ?_⟩
                  exact castB k (by (try simp only [decide_eq_true_eq, Bool.not_eq_true, decide_eq_false_iff_not, beq_iff_eq, Bool.not_eq_true', Bool.true_eq_false, reduceCtorEq, not_true_eq_false] at c1 c2 c3 c4 c10 c13 c14) <;> (first | rfl | (rw [Bool.eq_iff_iff]; simp only [ch_15 hC, Sh.within, decide_eq_true_eq, Bool.and_eq_true, Bool.or_eq_true, Bool.not_eq_true', decide_eq_false_iff_not, Bool.false_eq_true, reduceCtorEq, iff_false, iff_true] <;> (try simp only [Sh.size]) <;> omega)))
        · refine ⟨_, rfl, _, _, rfl, rfl, _, rfl, ?_⟩
          refine ite2 (fun c15 => ?_) (fun c15 => ?_)
          · refine ⟨_, _, rfl, rfl, _, rfl, ?_⟩
            refine ite2 (fun c16 => ?_) (fun c16 => ?_)
            · refine ⟨_, rfl, _, rfl, _, _, rfl, rfl, _, rfl, _, rfl, ?_⟩
              refine ite2 (fun c17 => ?_) (fun c17 => ?_)
              · exact castB k (by (try simp only [decide_eq_true_eq, Bool.not_eq_true, decide_eq_false_iff_not, beq_iff_eq, Bool.not_eq_true', Bool.true_eq_false, reduceCtorEq, not_true_eq_false] at c1 c2 c3 c15 c16 c17) <;> (first | rfl | (rw [Bool.eq_iff_iff]; simp only [ch_15 hC, Sh.within, decide_eq_true_eq, Bool.and_eq_true, Bool.or_eq_true, Bool.not_eq_true', decide_eq_false_iff_not, Bool.false_eq_true, reduceCtorEq, iff_false, iff_true] <;> (try simp only [Sh.size]) <;> omega)))
              · refine ⟨_, rfl, _, rfl, ?_⟩
                refine ite2 (fun c18 => ?_) (fun c18 => ?_)
                · exact castB k (by (try simp only [decide_eq_true_eq, Bool.not_eq_true, decide_eq_false_iff_not, beq_iff_eq, Bool.not_eq_true', Bool.true_eq_false, reduceCtorEq, not_true_eq_false] at c1 c2 c3 c15 c16 c17 c18) <;> (first | rfl | (rw [Bool.eq_iff_iff]; simp only [ch_15 hC, Sh.within, decide_eq_true_eq, Bool.and_eq_true, Bool.or_eq_true, Bool.not_eq_true', decide_eq_false_iff_not, Bool.false_eq_true, reduceCtorEq, iff_false, iff_true] <;> (try simp only [Sh.size]) <;> omega)))
                · refine ⟨_, rfl, ?_⟩
                  exact castB k (by (try simp only [decide_eq_true_eq, Bool.not_eq_true, decide_eq_false_iff_not, beq_iff_eq, Bool.not_eq_true', Bool.true_eq_false, reduceCtorEq, not_true_eq_false] at c1 c2 c3 c15 c16 c17 c18) <;> (first | rfl | (rw [Bool.eq_iff_iff]; simp only [ch_15 hC, Sh.within, decide_eq_true_eq, Bool.and_eq_true, Bool.or_eq_true, Bool.not_eq_true', decide_eq_false_iff_not, Bool.false_eq_true, reduceCtorEq, iff_false, iff_true] <;> (try simp only [Sh.size]) <;> omega)))
            · refine ⟨_, rfl, _, rfl, ?_⟩
              refine ite2 (fun c19 => ?_) (fun c19 => ?_)
              · exact castB k (by (try simp only [decide_eq_true_eq, Bool.not_eq_true, decide_eq_false_iff_not, beq_iff_eq, Bool.not_eq_true', Bool.true_eq_false, reduceCtorEq, not_true_eq_false] at c1 c2 c3 c15 c16 c19) <;> (first | rfl | (rw [Bool.eq_iff_iff]; simp only [ch_15 hC, Sh.within, decide_eq_true_eq, Bool.and_eq_true, Bool.or_eq_true, Bool.not_eq_true', decide_eq_false_iff_not, Bool.false_eq_true, reduceCtorEq, iff_false, iff_true] <;> (try simp only [Sh.size]) <;> omega)))
              · refine ⟨_, rfl, _, rfl, ?_⟩
                refine ite2 (fun c20 => ?_) (fun c20 => ?_)
                · exact castB k (by (try simp only [decide_eq_true_eq, Bool.not_eq_true, decide_eq_false_iff_not, beq_iff_eq, Bool.not_eq_true', Bool.true_eq_false, reduceCtorEq, not_true_eq_false] at c1 c2 c3 c15 c16 c19 c20) <;> (first | rfl | (rw [Bool.eq_iff_iff]; simp only [ch_15 hC, Sh.within, decide_eq_true_eq, Bool.and_eq_true, Bool.or_eq_true, Bool.not_eq_true', decide_eq_false_iff_not, Bool.false_eq_true, reduceCtorEq, iff_false, iff_true] <;> (try simp only [Sh.size]) <;> omega)))
                · refine ⟨_, rfl, ?_⟩
                  exact castB k (by (try simp only [decide_eq_true_eq, Bool.not_eq_true, decide_eq_false_iff_not, beq_iff_eq, Bool.not_eq_true', Bool.true_eq_false, reduceCtorEq, not_true_eq_false] at c1 c2 c3 c15 c16 c19 c20) <;> (first | rfl | (rw [Bool.eq_iff_iff]; simp only [ch_15 hC, Sh.within, decide_eq_true_eq, Bool.and_eq_true, Bool.or_eq_true, Bool.not_eq_true', decide_eq_false_iff_not, Bool.false_eq_true, reduceCtorEq, iff_false, iff_true] <;> (try simp only [Sh.size]) <;> omega)))
          · refine ⟨_, rfl, ?_⟩
            refine ite2 (fun c21 => ?_) (fun c21 => ?_)
            · refine ⟨_, rfl, _, rfl, _, _, rfl, rfl, _, rfl, _, rfl, ?_⟩
              refine ite2 (fun c22 => ?_) (fun c22 => ?_)
              · exact castB k (by (try simp only [decide_eq_true_eq, Bool.not_eq_true, decide_eq_false_iff_not, beq_iff_eq, Bool.not_eq_true', Bool.true_eq_false, reduceCtorEq, not_true_eq_false] at c1 c2 c3 c15 c21 c22) <;> (first | rfl | (rw [Bool.eq_iff_iff]; simp only [ch_15 hC, Sh.within, decide_eq_true_eq, Bool.and_eq_true, Bool.or_eq_true, Bool.not_eq_true', decide_eq_false_iff_not, Bool.false_eq_true, reduceCtorEq, iff_false, iff_true] <;> (try simp only [Sh.size]) <;> omega)))
              · refine ⟨_, rfl, _, rfl, ?_⟩
                refine ite2 (fun c23 => ?_) (fun c23 => ?_)
                · exact castB k (by (try simp only [decide_eq_true_eq, Bool.not_eq_true, decide_eq_false_iff_not, beq_iff_eq, Bool.not_eq_true', Bool.true_eq_false, reduceCtorEq, not_true_eq_false] at c1 c2 c3 c15 c21 c22 c23) <;> (first | rfl | (rw [Bool.eq_iff_iff]; simp only [ch_15 hC, Sh.within, decide_eq_true_eq, Bool.and_eq_true, Bool.or_eq_true, Bool.not_eq_true', decide_eq_false_iff_not, Bool.false_eq_true, reduceCtorEq, iff_false, iff_true] <;> (try simp only [Sh.size]) <;> omega)))
                · refine ⟨_, rfl, ?_⟩
                  exact castB k (by (try simp only [decide_eq_true_eq, Bool.not_eq_true, decide_eq_false_iff_not, beq_iff_eq, Bool.not_eq_true', Bool.true_eq_false, reduceCtorEq, not_true_eq_false] at c1 c2 c3 c15 c21 c22 c23) <;> (first | rfl | (rw [Bool.eq_iff_iff]; simp only [ch_15 hC, Sh.within, decide_eq_true_eq, Bool.and_eq_true, Bool.or_eq_true, Bool.not_eq_true', decide_eq_false_iff_not, Bool.false_eq_true, reduceCtorEq, iff_false, iff_true] <;> (try simp only [Sh.size]) <;> omega)))
            · refine ⟨_, rfl, _, rfl, ?_⟩
              refine ite2 (fun c24 => ?_) (fun c24 => ?_)
              · exact castB k (by (try simp only [decide_eq_true_eq, Bool.not_eq_true, decide_eq_false_iff_not, beq_iff_eq, Bool.not_eq_true', Bool.true_eq_false, reduceCtorEq, not_true_eq_false] at c1 c2 c3 c15 c21 c24) <;> (first | rfl | (rw [Bool.eq_iff_iff]; simp only [ch_15 hC, Sh.within, decide_eq_true_eq, Bool.and_eq_true, Bool.or_eq_true, Bool.not_eq_true', decide_eq_false_iff_not, Bool.false_eq_true, reduceCtorEq, iff_false, iff_true] <;> (try simp only [Sh.size]) <;> omega)))
              · refine ⟨_, rfl, _, rfl, ?_⟩
                refine ite2 (fun c25 => ?_) (fun c25 => ?_)
                · exact castB k (by (try simp only [decide_eq_true_eq, Bool.not_eq_true, decide_eq_false_iff_not, beq_iff_eq, Bool.not_eq_true', Bool.true_eq_false, reduceCtorEq, not_true_eq_false] at c1 c2 c3 c15 c21 c24 c25) <;> (first | rfl | (rw [Bool.eq_iff_iff]; simp only [ch_15 hC, Sh.within, decide_eq_true_eq, Bool.and_eq_true, Bool.or_eq_true, Bool.not_eq_true', decide_eq_false_iff_not, Bool.false_eq_true, reduceCtorEq, iff_false, iff_true] <;> (try simp only [Sh.size]) <;> omega)))
                · refine ⟨_, rfl, ?_⟩
                  exact castB k (by (try simp only [decide_eq_true_eq, Bool.not_eq_true, decide_eq_false_iff_not, beq_iff_eq, Bool.not_eq_true', Bool.true_eq_false, reduceCtorEq, not_true_eq_false] at c1 c2 c3 c15 c21 c24 c25) <;> (first | rfl | (rw [Bool.eq_iff_iff]; simp only [ch_15 hC, Sh.within, decide_eq_true_eq, Bool.and_eq_true, Bool.or_eq_true, Bool.not_eq_true', decide_eq_false_iff_not, Bool.false_eq_true, reduceCtorEq, iff_false, iff_true] <;> (try simp only [Sh.size]) <;> omega)))
      · refine ⟨_, rfl, ?_⟩
        refine ite2 (fun c26 => ?_) (fun c26 => ?_)
        · refine ⟨_, rfl, _, rfl, _, _, rfl, rfl, (by first | (apply Or.inl; constructor <;> (first | decide | omega)) | (apply Or.inr; constructor <;> (first | decide | omega))), _, rfl, _, _, rfl, rfl, _, _, rfl, rfl, _, rfl, _, _, rfl, rfl, _, rfl, ?_⟩
          refine ite2 (fun c27 => ?_) (fun c27 => ?_)
          · refine ⟨_, _, rfl, rfl, _, rfl, ?_⟩
            refine ite2 (fun c28 => ?_) (fun c28 => ?_)
            · refine ⟨_, rfl, _, rfl, _, _, rfl, rfl, _, rfl, _, rfl, ?_⟩
              refine ite2 (fun c29 => ?_) (fun c29 => ?_)
              · exact castB k (by (try simp only [decide_eq_true_eq, Bool.not_eq_true, decide_eq_false_iff_not, beq_iff_eq, Bool.not_eq_true', Bool.true_eq_false, reduceCtorEq, not_true_eq_false] at c1 c2 c26 c27 c28 c29) <;> (first | rfl | (rw [Bool.eq_iff_iff]; simp only [ch_15 hC, Sh.within, decide_eq_true_eq, Bool.and_eq_true, Bool.or_eq_true, Bool.not_eq_true', decide_eq_false_iff_not, Bool.false_eq_true, reduceCtorEq, iff_false, iff_true] <;> (try simp only [Sh.size]) <;> omega)))
              · refine ⟨_, rfl, _, rfl, ?_⟩
                refine ite2 (fun c30 => ?_) (fun c30 => ?_)
                · exact castB k (by (try simp only [decide_eq_true_eq, Bool.not_eq_true, decide_eq_false_iff_not, beq_iff_eq, Bool.not_eq_true', Bool.true_eq_false, reduceCtorEq, not_true_eq_false] at c1 c2 c26 c27 c28 c29 c30) <;> (first | rfl | (rw [Bool.eq_iff_iff]; simp only [ch_15 hC, Sh.within, decide_eq_true_eq, Bool.and_eq_true, Bool.or_eq_true, Bool.not_eq_true', decide_eq_false_iff_not, Bool.false_eq_true, reduceCtorEq, iff_false, iff_true] <;> (try simp only [Sh.size]) <;> omega)))
                · refine ⟨_, rfl, ?_⟩
                  exact castB k (by (try simp only [decide_eq_true_eq, Bool.not_eq_true, decide_eq_false_iff_not, beq_iff_eq, Bool.not_eq_true', Bool.true_eq_false, reduceCtorEq, not_true_eq_false] at c1 c2 c26 c27 c28 c29 c30) <;> (first | rfl | (rw [Bool.eq_iff_iff]; simp only [ch_15 hC, Sh.within, decide_eq_true_eq, Bool.and_eq_true, Bool.or_eq_true, Bool.not_eq_true', decide_eq_false_iff_not, Bool.false_eq_true, reduceCtorEq, iff_false, iff_true] <;> (try simp only [Sh.size]) <;> omega)))
            · refine ⟨_, rfl, _, rfl, ?_⟩
              refine ite2 (fun c31 => ?_) (fun c31 => ?_)
              · exact castB k (by (try simp only [decide_eq_true_eq, Bool.not_eq_true, decide_eq_false_iff_not, beq_iff_eq, Bool.not_eq_true', Bool.true_eq_false, reduceCtorEq, not_true_eq_false] at c1 c2 c26 c27 c28 c31) <;> (first | rfl | (rw [Bool.eq_iff_iff]; simp only [ch_15 hC, Sh.within, decide_eq_true_eq, Bool.and_eq_true, Bool.or_eq_true, Bool.not_eq_true', decide_eq_false_iff_not, Bool.false_eq_true, reduceCtorEq, iff_false, iff_true] <;> (try simp only [Sh.size]) <;> omega)))
              · refine ⟨_, rfl, _, rfl, ?_⟩
                refine ite2 (fun c32 => ?_) (fun c32 => ?_)
                · exact castB k (by (try simp only [decide_eq_true_eq, Bool.not_eq_true, decide_eq_false_iff_not, beq_iff_eq, Bool.not_eq_true', Bool.true_eq_false, reduceCtorEq, not_true_eq_false] at c1 c2 c26 c27 c28 c31 c32) <;> (first | rfl | (rw [Bool.eq_iff_iff]; simp only [ch_15 hC, Sh.within, decide_eq_true_eq, Bool.and_eq_true, Bool.or_eq_true, Bool.not_eq_true', decide_eq_false_iff_not, Bool.false_eq_true, reduceCtorEq, iff_false, iff_true] <;> (try simp only [Sh.size]) <;> omega)))
                · refine ⟨_, rfl, ?_⟩
                  exact castB k (by (try simp only [decide_eq_true_eq, Bool.not_eq_true, decide_eq_false_iff_not, beq_iff_eq, Bool.not_eq_true', Bool.true_eq_false, reduceCtorEq, not_true_eq_false] at c1 c2 c26 c27 c28 c31 c32) <;> (first | rfl | (rw [Bool.eq_iff_iff]; simp only [ch_15 hC, Sh.within, decide_eq_true_eq, Bool.and_eq_true, Bool.or_eq_true, Bool.not_eq_true', decide_eq_false_iff_not, Bool.false_eq_true, reduceCtorEq, iff_false, iff_true] <;> (try simp only [Sh.size]) <;> omega)))
          · refine ⟨_, rfl, ?_⟩
            refine ite2 (fun c33 => ?_) (fun c33 => ?_)
            · refine ⟨_, rfl, _, rfl, _, _, rfl, rfl, _, rfl, _, rfl, ?_⟩
              refine ite2 (fun c34 => ?_) (fun c34 => ?_)
              · exact castB k (by (try simp only [decide_eq_true_eq, Bool.not_eq_true, decide_eq_false_iff_not, beq_iff_eq, Bool.not_eq_true', Bool.true_eq_false, reduceCtorEq, not_true_eq_false] at c1 c2 c26 c27 c33 c34) <;> (first | rfl | (rw [Bool.eq_iff_iff]; simp only [ch_15 hC, Sh.within, decide_eq_true_eq, Bool.and_eq_true, Bool.or_eq_true, Bool.not_eq_true', decide_eq_false_iff_not, Bool.false_eq_true, reduceCtorEq, iff_false, iff_true] <;> (try simp only [Sh.size]) <;> omega)))
              · refine ⟨_, rfl, _, rfl, ?_⟩
                refine ite2 (fun c35 => ?_) (fun c35 => ?_)
                · exact castB k (by (try simp only [decide_eq_true_eq, Bool.not_eq_true, decide_eq_false_iff_not, beq_iff_eq, Bool.not_eq_true', Bool.true_eq_false, reduceCtorEq, not_true_eq_false] at c1 c2 c26 c27 c33 c34 c35) <;> (first | rfl | (rw [Bool.eq_iff_iff]; simp only [ch_15 hC, Sh.within, decide_eq_true_eq, Bool.and_eq_true, Bool.or_eq_true, Bool.not_eq_true', decide_eq_false_iff_not, Bool.false_eq_true, reduceCtorEq, iff_false, iff_true] <;> (try simp only [Sh.size]) <;> omega)))
                · refine ⟨_, rfl, ?_⟩
                  exact castB k (by (try simp only [decide_eq_true_eq, Bool.not_eq_true, decide_eq_false_iff_not, beq_iff_eq, Bool.not_eq_true', Bool.true_eq_false, reduceCtorEq, not_true_eq_false] at c1 c2 c26 c27 c33 c34 c35) <;> (first | rfl | (rw [Bool.eq_iff_iff]; simp only [ch_15 hC, Sh.within, decide_eq_true_eq, Bool.and_eq_true, Bool.or_eq_true, Bool.not_eq_true', decide_eq_false_iff_not, Bool.false_eq_true, reduceCtorEq, iff_false, iff_true] <;> (try simp only [Sh.size]) <;> omega)))
            · refine ⟨_, rfl, _, rfl, ?_⟩
              refine ite2 (fun c36 => ?_) (fun c36 => ?_)
              · exact castB k (by (try simp only [decide_eq_true_eq, Bool.not_eq_true, decide_eq_false_iff_not, beq_iff_eq, Bool.not_eq_true', Bool.true_eq_false, reduceCtorEq, not_true_eq_false] at c1 c2 c26 c27 c33 c36) <;> (first | rfl | (rw [Bool.eq_iff_iff]; simp only [ch_15 hC, Sh.within, decide_eq_true_eq, Bool.and_eq_true, Bool.or_eq_true, Bool.not_eq_true', decide_eq_false_iff_not, Bool.false_eq_true, reduceCtorEq, iff_false, iff_true] <;> (try simp only [Sh.size]) <;> omega)))
              · refine ⟨_, rfl, _, rfl, ?_⟩
                refine ite2 (fun c37 => ?_) (fun c37 => ?_)
                · exact castB k (by (try simp only [decide_eq_true_eq, Bool.not_eq_true, decide_eq_false_iff_not, beq_iff_eq, Bool.not_eq_true', Bool.true_eq_false, reduceCtorEq, not_true_eq_false] at c1 c2 c26 c27 c33 c36 c37) <;> (first | rfl | (rw [Bool.eq_iff_iff]; simp only [ch_15 hC, Sh.within, decide_eq_true_eq, Bool.and_eq_true, Bool.or_eq_true, Bool.not_eq_true', decide_eq_false_iff_not, Bool.false_eq_true, reduceCtorEq, iff_false, iff_true] <;> (try simp only [Sh.size]) <;> omega)))
                · refine ⟨_, rfl, ?_⟩
                  exact castB k (by (try simp only [decide_eq_true_eq, Bool.not_eq_true, decide_eq_false_iff_not, beq_iff_eq, Bool.not_eq_true', Bool.true_eq_false, reduceCtorEq, not_true_eq_false] at c1 c2 c26 c27 c33 c36 c37) <;> (first | rfl | (rw [Bool.eq_iff_iff]; simp only [ch_15 hC, Sh.within, decide_eq_true_eq, Bool.and_eq_true, Bool.or_eq_true, Bool.not_eq_true', decide_eq_false_iff_not, Bool.false_eq_true, reduceCtorEq, iff_false, iff_true] <;> (try simp only [Sh.size]) <;> omega)))
        · refine ⟨_, rfl, _, _, rfl, rfl, _, rfl, ?_⟩
          refine ite2 (fun c38 => ?_) (fun c38 => ?_)
          · refine ⟨_, _, rfl, rfl, _, rfl, ?_⟩
            refine ite2 (fun c39 => ?_) (fun c39 => ?_)
            · refine ⟨_, rfl, _, rfl, _, _, rfl, rfl, _, rfl, _, rfl, ?_⟩
              refine ite2 (fun c40 => ?_) (fun c40 => ?_)
              · exact castB k (by (try simp only [decide_eq_true_eq, Bool.not_eq_true, decide_eq_false_iff_not, beq_iff_eq, Bool.not_eq_true', Bool.true_eq_false, reduceCtorEq, not_true_eq_false] at c1 c2 c26 c38 c39 c40) <;> (first | rfl | (rw [Bool.eq_iff_iff]; simp only [ch_15 hC, Sh.within, decide_eq_true_eq, Bool.and_eq_true, Bool.or_eq_true, Bool.not_eq_true', decide_eq_false_iff_not, Bool.false_eq_true, reduceCtorEq, iff_false, iff_true] <;> (try simp only [Sh.size]) <;> omega)))
              · refine ⟨_, rfl, _, rfl, ?_⟩
                refine ite2 (fun c41 => ?_) (fun c41 => ?_)
                · exact castB k (by (try simp only [decide_eq_true_eq, Bool.not_eq_true, decide_eq_false_iff_not, beq_iff_eq, Bool.not_eq_true', Bool.true_eq_false, reduceCtorEq, not_true_eq_false] at c1 c2 c26 c38 c39 c40 c41) <;> (first | rfl | (rw [Bool.eq_iff_iff]; simp only [ch_15 hC, Sh.within, decide_eq_true_eq, Bool.and_eq_true, Bool.or_eq_true, Bool.not_eq_true', decide_eq_false_iff_not, Bool.false_eq_true, reduceCtorEq, iff_false, iff_true] <;> (try simp only [Sh.size]) <;> omega)))
                · refine ⟨_, rfl, ?_⟩
                  exact castB k (by (try simp only [decide_eq_true_eq, Bool.not_eq_true, decide_eq_false_iff_not, beq_iff_eq, Bool.not_eq_true', Bool.true_eq_false, reduceCtorEq, not_true_eq_false] at c1 c2 c26 c38 c39 c40 c41) <;> (first | rfl | (rw [Bool.eq_iff_iff]; simp only [ch_15 hC, Sh.within, decide_eq_true_eq, Bool.and_eq_true, Bool.or_eq_true, Bool.not_eq_true', decide_eq_false_iff_not, Bool.false_eq_true, reduceCtorEq, iff_false, iff_true] <;> (try simp only [Sh.size]) <;> omega)))
            · refine ⟨_, rfl, _, rfl, ?_⟩
              refine ite2 (fun c42 => ?_) (fun c42 => ?_)
              · exact castB k (by (try simp only [decide_eq_true_eq, Bool.not_eq_true, decide_eq_false_iff_not, beq_iff_eq, Bool.not_eq_true', Bool.true_eq_false, reduceCtorEq, not_true_eq_false] at c1 c2 c26 c38 c39 c42) <;> (first | rfl | (rw [Bool.eq_iff_iff]; simp only [ch_15 hC, Sh.within, decide_eq_true_eq, Bool.and_eq_true, Bool.or_eq_true, Bool.not_eq_true', decide_eq_false_iff_not, Bool.false_eq_true, reduceCtorEq, iff_false, iff_true] <;> (try simp only [Sh.size]) <;> omega)))
              · refine ⟨_, rfl, _, rfl, ?_⟩
                refine ite2 (fun c43 => ?_) (fun c43 => ?_)
                · exact castB k (by (try simp only [decide_eq_true_eq, Bool.not_eq_true, decide_eq_false_iff_not, beq_iff_eq, Bool.not_eq_true', Bool.true_eq_false, reduceCtorEq, not_true_eq_false] at c1 c2 c26 c38 c39 c42 c43) <;> (first | rfl | (rw [Bool.eq_iff_iff]; simp only [ch_15 hC, Sh.within, decide_eq_true_eq, Bool.and_eq_true, Bool.or_eq_true, Bool.not_eq_true', decide_eq_false_iff_not, Bool.false_eq_true, reduceCtorEq, iff_false, iff_true] <;> (try simp only [Sh.size]) <;> omega)))
                · refine ⟨_, rfl, ?_⟩
                  exact castB k (by (try simp only [decide_eq_true_eq, Bool.not_eq_true, decide_eq_false_iff_not, beq_iff_eq, Bool.not_eq_true', Bool.true_eq_false, reduceCtorEq, not_true_eq_false] at c1 c2 c26 c38 c39 c42 c43) <;> (first | rfl | (rw [Bool.eq_iff_iff]; simp only [ch_15 hC, Sh.within, decide_eq_true_eq, Bool.and_eq_true, Bool.or_eq_true, Bool.not_eq_true', decide_eq_false_iff_not, Bool.false_eq_true, reduceCtorEq, iff_false, iff_true] <;> (try simp only [Sh.size]) <;> omega)))
          · refine ⟨_, rfl, ?_⟩
            refine ite2 (fun c44 => ?_) (fun c44 => ?_)
            · refine ⟨_, rfl, _, rfl, _, _, rfl, rfl, _, rfl, _, rfl, ?_⟩
              refine ite2 (fun c45 => ?_) (fun c45 => ?_)
              · exact castB k (by (try simp only [decide_eq_true_eq, Bool.not_eq_true, decide_eq_false_iff_not, beq_iff_eq, Bool.not_eq_true', Bool.true_eq_false, reduceCtorEq, not_true_eq_false] at c1 c2 c26 c38 c44 c45) <;> (first | rfl | (rw [Bool.eq_iff_iff]; simp only [ch_15 hC, Sh.within, decide_eq_true_eq, Bool.and_eq_true, Bool.or_eq_true, Bool.not_eq_true', decide_eq_false_iff_not, Bool.false_eq_true, reduceCtorEq, iff_false, iff_true] <;> (try simp only [Sh.size]) <;> omega)))
              · refine ⟨_, rfl, _, rfl, ?_⟩
                refine ite2 (fun c46 => ?_) (fun c46 => ?_)
                · exact castB k (by (try simp only [decide_eq_true_eq, Bool.not_eq_true, decide_eq_false_iff_not, beq_iff_eq, Bool.not_eq_true', Bool.true_eq_false, reduceCtorEq, not_true_eq_false] at c1 c2 c26 c38 c44 c45 c46) <;> (first | rfl | (rw [Bool.eq_iff_iff]; simp only [ch_15 hC, Sh.within, decide_eq_true_eq, Bool.and_eq_true, Bool.or_eq_true, Bool.not_eq_true', decide_eq_false_iff_not, Bool.false_eq_true, reduceCtorEq, iff_false, iff_true] <;> (try simp only [Sh.size]) <;> omega)))
                · refine ⟨_, rfl, ?_⟩
                  exact castB k (by (try simp only [decide_eq_true_eq, Bool.not_eq_true, decide_eq_false_iff_not, beq_iff_eq, Bool.not_eq_true', Bool.true_eq_false, reduceCtorEq, not_true_eq_false] at c1 c2 c26 c38 c44 c45 c46) <;> (first | rfl | (rw [Bool.eq_iff_iff]; simp only [ch_15 hC, Sh.within, decide_eq_true_eq, Bool.and_eq_true, Bool.or_eq_true, Bool.not_eq_true', decide_eq_false_iff_not, Bool.false_eq_true, reduceCtorEq, iff_false, iff_true] <;> (try simp only [Sh.size]) <;> omega)))
            · refine ⟨_, rfl, _, rfl, ?_⟩
              refine ite2 (fun c47 => ?_) (fun c47 => ?_)
              · exact castB k (by (try simp only [decide_eq_true_eq, Bool.not_eq_true, decide_eq_false_iff_not, beq_iff_eq, Bool.not_eq_true', Bool.true_eq_false, reduceCtorEq, not_true_eq_false] at c1 c2 c26 c38 c44 c47) <;> (first | rfl | (rw [Bool.eq_iff_iff]; simp only [ch_15 hC, Sh.within, decide_eq_true_eq, Bool.and_eq_true, Bool.or_eq_true, Bool.not_eq_true', decide_eq_false_iff_not, Bool.false_eq_true, reduceCtorEq, iff_false, iff_true] <;> (try simp only [Sh.size]) <;> omega)))
              · refine ⟨_, rfl, _, rfl, ?_⟩
                refine ite2 (fun c48 => ?_) (fun c48 => ?_)
                · exact castB k (by (try simp only [decide_eq_true_eq, Bool.not_eq_true, decide_eq_false_iff_not, beq_iff_eq, Bool.not_eq_true', Bool.true_eq_false, reduceCtorEq, not_true_eq_false] at c1 c2 c26 c38 c44 c47 c48) <;> (first | rfl | (rw [Bool.eq_iff_iff]; simp only [ch_15 hC, Sh.within, decide_eq_true_eq, Bool.and_eq_true, Bool.or_eq_true, Bool.not_eq_true', decide_eq_false_iff_not, Bool.false_eq_true, reduceCtorEq, iff_false, iff_true] <;> (try simp only [Sh.size]) <;> omega)))
                · refine ⟨_, rfl, ?_⟩
                  exact castB k (by (try simp only [decide_eq_true_eq, Bool.not_eq_true, decide_eq_false_iff_not, beq_iff_eq, Bool.not_eq_true', Bool.true_eq_false, reduceCtorEq, not_true_eq_false] at c1 c2 c26 c38 c44 c47 c48) <;> (first | rfl | (rw [Bool.eq_iff_iff]; simp only [ch_15 hC, Sh.within, decide_eq_true_eq, Bool.and_eq_true, Bool.or_eq_true, Bool.not_eq_true', decide_eq_false_iff_not, Bool.false_eq_true, reduceCtorEq, iff_false, iff_true] <;> (try simp only [Sh.size]) <;> omega)))
    · refine ⟨_, rfl, _, rfl, _, _, rfl, rfl, _, rfl, ?_⟩
      refine ite2 (fun c49 => ?_) (fun c49 => ?_)
      · refine ⟨_, rfl, _, _, rfl, rfl, _, rfl, ?_⟩
        refine ite2 (fun c50 => ?_) (fun c50 => ?_)
        · refine ⟨_, rfl, _, rfl, _, _, rfl, rfl, (by first | (apply Or.inl; constructor <;> (first | decide | omega)) | (apply Or.inr; constructor <;> (first | decide | omega))), _, rfl, _, _, rfl, rfl, _, _, rfl, rfl, _, rfl, _, _, rfl, rfl, _, rfl, ?_⟩
          refine ite2 (fun c51 => ?_) (fun c51 => ?_)
          · refine ⟨_, _, rfl, rfl, _, rfl, ?_⟩
            refine ite2 (fun c52 => ?_) (fun c52 => ?_)
            · refine ⟨_, rfl, _, rfl, _, _, rfl, rfl, _, rfl, _, rfl, ?_⟩
              refine ite2 (fun c53 => ?_) (fun c53 => ?_)
              · exact castB k (by (try simp only [decide_eq_true_eq, Bool.not_eq_true, decide_eq_false_iff_not, beq_iff_eq, Bool.not_eq_true', Bool.true_eq_false, reduceCtorEq, not_true_eq_false] at c1 c49 c50 c51 c52 c53) <;> (first | rfl | (rw [Bool.eq_iff_iff]; simp only [ch_15 hC, Sh.within, decide_eq_true_eq, Bool.and_eq_true, Bool.or_eq_true, Bool.not_eq_true', decide_eq_false_iff_not, Bool.false_eq_true, reduceCtorEq, iff_false, iff_true] <;> (try simp only [Sh.size]) <;> omega)))
              · refine ⟨_, rfl, _, rfl, ?_⟩
                refine ite2 (fun c54 => ?_) (fun c54 => ?_)
                · exact castB k (by (try simp only [decide_eq_true_eq, Bool.not_eq_true, decide_eq_false_iff_not, beq_iff_eq, Bool.not_eq_true', Bool.true_eq_false, reduceCtorEq, not_true_eq_false] at c1 c49 c50 c51 c52 c53 c54) <;> (first | rfl | (rw [Bool.eq_iff_iff]; simp only [ch_15 hC, Sh.within, decide_eq_true_eq, Bool.and_eq_true, Bool.or_eq_true, Bool.not_eq_true', decide_eq_false_iff_not, Bool.false_eq_true, reduceCtorEq, iff_false, iff_true] <;> (try simp only [Sh.size]) <;> omega)))
                · refine ⟨_, rfl, ?_⟩
                  exact castB k (by (try simp only [decide_eq_true_eq, Bool.not_eq_true, decide_eq_false_iff_not, beq_iff_eq, Bool.not_eq_true', Bool.true_eq_false, reduceCtorEq, not_true_eq_false] at c1 c49 c50 c51 c52 c53 c54) <;> (first | rfl | (rw [Bool.eq_iff_iff]; simp only [ch_15 hC, Sh.within, decide_eq_true_eq, Bool.and_eq_true, Bool.or_eq_true, Bool.not_eq_true', decide_eq_false_iff_not, Bool.false_eq_true, reduceCtorEq, iff_false, iff_true] <;> (try simp only [Sh.size]) <;> omega)))
            · refine ⟨_, rfl, _, rfl, ?_⟩
              refine ite2 (fun c55 => ?_) (fun c55 => ?_)
              · exact castB k (by (try simp only [decide_eq_true_eq, Bool.not_eq_true, decide_eq_false_iff_not, beq_iff_eq, Bool.not_eq_true', Bool.true_eq_false, reduceCtorEq, not_true_eq_false] at c1 c49 c50 c51 c52 c55) <;> (first | rfl | (rw [Bool.eq_iff_iff]; simp only [ch_15 hC, Sh.within, decide_eq_true_eq, Bool.and_eq_true, Bool.or_eq_true, Bool.not_eq_true', decide_eq_false_iff_not, Bool.false_eq_true, reduceCtorEq, iff_false, iff_true] <;> (try simp only [Sh.size]) <;> omega)))
              · refine ⟨_, rfl, _, rfl, ?_⟩
                refine ite2 (fun c56 => ?_) (fun c56 => ?_)
                · exact castB k (by (try simp only [decide_eq_true_eq, Bool.not_eq_true, decide_eq_false_iff_not, beq_iff_eq, Bool.not_eq_true', Bool.true_eq_false, reduceCtorEq, not_true_eq_false] at c1 c49 c50 c51 c52 c55 c56) <;> (first | rfl | (rw [Bool.eq_iff_iff]; simp only [ch_15 hC, Sh.within, decide_eq_true_eq, Bool.and_eq_true, Bool.or_eq_true, Bool.not_eq_true', decide_eq_false_iff_not, Bool.false_eq_true, reduceCtorEq, iff_false, iff_true] <;> (try simp only [Sh.size]) <;> omega)))
                · refine ⟨_, rfl, ?_⟩
                  exact castB k (by (try simp only [decide_eq_true_eq, Bool.not_eq_true, decide_eq_false_iff_not, beq_iff_eq, Bool.not_eq_true', Bool.true_eq_false, reduceCtorEq, not_true_eq_false] at c1 c49 c50 c51 c52 c55 c56) <;> (first | rfl | (rw [Bool.eq_iff_iff]; simp only [ch_15 hC, Sh.within, decide_eq_true_eq, Bool.and_eq_true, Bool.or_eq_true, Bool.not_eq_true', decide_eq_false_iff_not, Bool.false_eq_true, reduceCtorEq, iff_false, iff_true] <;> (try simp only [Sh.size]) <;> omega)))
          · refine ⟨_, rfl, ?_⟩
            refine ite2 (fun c57 => ?_) (fun c57 => ?_)
            · refine ⟨_, rfl, _, rfl, _, _, rfl, rfl, _, rfl, _, rfl, ?_⟩
              refine ite2 (fun c58 => ?_) (fun c58 => ?_)
              · exact castB k (by (try simp only [decide_eq_true_eq, Bool.not_eq_true, decide_eq_false_iff_not, beq_iff_eq, Bool.not_eq_true', Bool.true_eq_false, reduceCtorEq, not_true_eq_false] at c1 c49 c50 c51 c57 c58) <;> (first | rfl | (rw [Bool.eq_iff_iff]; simp only [ch_15 hC, Sh.within, decide_eq_true_eq, Bool.and_eq_true, Bool.or_eq_true, Bool.not_eq_true', decide_eq_false_iff_not, Bool.false_eq_true, reduceCtorEq, iff_false, iff_true] <;> (try simp only [Sh.size]) <;> omega)))
              · refine ⟨_, rfl, _, rfl, ?_⟩
                refine ite2 (fun c59 => ?_) (fun c59 => ?_)
                · exact castB k (by (try simp only [decide_eq_true_eq, Bool.not_eq_true, decide_eq_false_iff_not, beq_iff_eq, Bool.not_eq_true', Bool.true_eq_false, reduceCtorEq, not_true_eq_false] at c1 c49 c50 c51 c57 c58 c59) <;> (first | rfl | (rw [Bool.eq_iff_iff]; simp only [ch_15 hC, Sh.within, decide_eq_true_eq, Bool.and_eq_true, Bool.or_eq_true, Bool.not_eq_true', decide_eq_false_iff_not, Bool.false_eq_true, reduceCtorEq, iff_false, iff_true] <;> (try simp only [Sh.size]) <;> omega)))
                · refine ⟨_, rfl, ?_⟩
                  exact castB k (by (try simp only [decide_eq_true_eq, Bool.not_eq_true, decide_eq_false_iff_not, beq_iff_eq, Bool.not_eq_true', Bool.true_eq_false, reduceCtorEq, not_true_eq_false] at c1 c49 c50 c51 c57 c58 c59) <;> (first | rfl | (rw [Bool.eq_iff_iff]; simp only [ch_15 hC, Sh.within, decide_eq_true_eq, Bool.and_eq_true, Bool.or_eq_true, Bool.not_eq_true', decide_eq_false_iff_not, Bool.false_eq_true, reduceCtorEq, iff_false, iff_true] <;> (try simp only [Sh.size]) <;> omega)))
            · refine ⟨_, rfl, _, rfl, ?_⟩
              refine ite2 (fun c60 => ?_) (fun c60 => ?_)
              · exact castB k (by (try simp only [decide_eq_true_eq, Bool.not_eq_true, decide_eq_false_iff_not, beq_iff_eq, Bool.not_eq_true', Bool.true_eq_false, reduceCtorEq, not_true_eq_false] at c1 c49 c50 c51 c57 c60) <;> (first | rfl | (rw [Bool.eq_iff_iff]; simp only [ch_15 hC, Sh.within, decide_eq_true_eq, Bool.and_eq_true, Bool.or_eq_true, Bool.not_eq_true', decide_eq_false_iff_not, Bool.false_eq_true, reduceCtorEq, iff_false, iff_true] <;> (try simp only [Sh.size]) <;> omega)))
              · refine ⟨_, rfl, _, rfl, ?_⟩
                refine ite2 (fun c61 => ?_) (fun c61 => ?_)
                · exact castB k (by (try simp only [decide_eq_true_eq, Bool.not_eq_true, decide_eq_false_iff_not, beq_iff_eq, Bool.not_eq_true', Bool.true_eq_false, reduceCtorEq, not_true_eq_false] at c1 c49 c50 c51 c57 c60 c61) <;> (first | rfl | (rw [Bool.eq_iff_iff]; simp only [ch_15 hC, Sh.within, decide_eq_true_eq, Bool.and_eq_true, Bool.or_eq_true, Bool.not_eq_true', decide_eq_false_iff_not, Bool.false_eq_true, reduceCtorEq, iff_false, iff_true] <;> (try simp only [Sh.size]) <;> omega)))
                · refine ⟨_, rfl, ?_⟩
                  exact castB k (by (try simp only [decide_eq_true_eq, Bool.not_eq_true, decide_eq_false_iff_not, beq_iff_eq, Bool.not_eq_true', Bool.true_eq_false, reduceCtorEq, not_true_eq_false] at c1 c49 c50 c51 c57 c60 c61) <;> (first | rfl | (rw [Bool.eq_iff_iff]; simp only [ch_15 hC, Sh.within, decide_eq_true_eq, Bool.and_eq_true, Bool.or_eq_true, Bool.not_eq_true', decide_eq_false_iff_not, Bool.false_eq_true, reduceCtorEq, iff_false, iff_true] <;> (try simp only [Sh.size]) <;> omega)))
        · refine ⟨_, rfl, _, _, rfl, rfl, _, rfl, ?_⟩
          refine ite2 (fun c62 => ?_) (fun c62 => ?_)
          · refine ⟨_, _, rfl, rfl, _, rfl, ?_⟩
            refine ite2 (fun c63 => ?_) (fun c63 => ?_)
            · refine ⟨_, rfl, _, rfl, _, _, rfl, rfl, _, rfl, _, rfl, ?_⟩
              refine ite2 (fun c64 => ?_) (fun c64 => ?_)
              · exact castB k (by (try simp only [decide_eq_true_eq, Bool.not_eq_true, decide_eq_false_iff_not, beq_iff_eq, Bool.not_eq_true', Bool.true_eq_false, reduceCtorEq, not_true_eq_false] at c1 c49 c50 c62 c63 c64) <;> (first | rfl | (rw [Bool.eq_iff_iff]; simp only [ch_15 hC, Sh.within, decide_eq_true_eq, Bool.and_eq_true, Bool.or_eq_true, Bool.not_eq_true', decide_eq_false_iff_not, Bool.false_eq_true, reduceCtorEq, iff_false, iff_true] <;> (try simp only [Sh.size]) <;> omega)))
              · refine ⟨_, rfl, _, rfl, ?_⟩
                refine ite2 (fun c65 => ?_) (fun c65 => ?_)
                · exact castB k (by (try simp only [decide_eq_true_eq, Bool.not_eq_true, decide_eq_false_iff_not, beq_iff_eq, Bool.not_eq_true', Bool.true_eq_false, reduceCtorEq, not_true_eq_false] at c1 c49 c50 c62 c63 c64 c65) <;> (first | rfl | (rw [Bool.eq_iff_iff]; simp only [ch_15 hC, Sh.within, decide_eq_true_eq, Bool.and_eq_true, Bool.or_eq_true, Bool.not_eq_true', decide_eq_false_iff_not, Bool.false_eq_true, reduceCtorEq, iff_false, iff_true] <;> (try simp only [Sh.size]) <;> omega)))
                · refine ⟨_, rfl, ?_⟩
                  exact castB k (by (try simp only [decide_eq_true_eq, Bool.not_eq_true, decide_eq_false_iff_not, beq_iff_eq, Bool.not_eq_true', Bool.true_eq_false, reduceCtorEq, not_true_eq_false] at c1 c49 c50 c62 c63 c64 c65) <;> (first | rfl | (rw [Bool.eq_iff_iff]; simp only [ch_15 hC, Sh.within, decide_eq_true_eq, Bool.and_eq_true, Bool.or_eq_true, Bool.not_eq_true', decide_eq_false_iff_not, Bool.false_eq_true, reduceCtorEq, iff_false, iff_true] <;> (try simp only [Sh.size]) <;> omega)))
            · refine ⟨_, rfl, _, rfl, ?_⟩
              refine ite2 (fun c66 => ?_) (fun c66 => ?_)
              · exact castB k (by (try simp only [decide_eq_true_eq, Bool.not_eq_true, decide_eq_false_iff_not, beq_iff_eq, Bool.not_eq_true', Bool.true_eq_false, reduceCtorEq, not_true_eq_false] at c1 c49 c50 c62 c63 c66) <;> (first | rfl | (rw [Bool.eq_iff_iff]; simp only [ch_15 hC, Sh.within, decide_eq_true_eq, Bool.and_eq_true, Bool.or_eq_true, Bool.not_eq_true', decide_eq_false_iff_not, Bool.false_eq_true, reduceCtorEq, iff_false, iff_true] <;> (try simp only [Sh.size]) <;> omega)))
              · refine ⟨_, rfl, _, rfl, ?_⟩
                refine ite2 (fun c67 => ?_) (fun c67 => ?_)
                · exact castB k (by (try simp only [decide_eq_true_eq, Bool.not_eq_true, decide_eq_false_iff_not, beq_iff_eq, Bool.not_eq_true', Bool.true_eq_false, reduceCtorEq, not_true_eq_false] at c1 c49 c50 c62 c63 c66 c67) <;> (first | rfl | (rw [Bool.eq_iff_iff]; simp only [ch_15 hC, Sh.within, decide_eq_true_eq, Bool.and_eq_true, Bool.or_eq_true, Bool.not_eq_true', decide_eq_false_iff_not, Bool.false_eq_true, reduceCtorEq, iff_false, iff_true] <;> (try simp only [Sh.size]) <;> omega)))
                · refine ⟨_, rfl, ?_⟩
                  exact castB k (by (try simp only [decide_eq_true_eq, Bool.not_eq_true, decide_eq_false_iff_not, beq_iff_eq, Bool.not_eq_true', Bool.true_eq_false, reduceCtorEq, not_true_eq_false] at c1 c49 c50 c62 c63 c66 c67) <;> (first | rfl | (rw [Bool.eq_iff_iff]; simp only [ch_15 hC, Sh.within, decide_eq_true_eq, Bool.and_eq_true, Bool.or_eq_true, Bool.not_eq_true', decide_eq_false_iff_not, Bool.false_eq_true, reduceCtorEq, iff_false, iff_true] <;> (try simp only [Sh.size]) <;> omega)))
          · refine ⟨_, rfl, ?_⟩
            refine ite2 (fun c68 => ?_) (fun c68 => ?_)
            · refine ⟨_, rfl, _, rfl, _, _, rfl, rfl, _, rfl, _, rfl, ?_⟩
              refine ite2 (fun c69 => ?_) (fun c69 => ?_)
              · exact castB k (by (try simp only [decide_eq_true_eq, Bool.not_eq_true, decide_eq_false_iff_not, beq_iff_eq, Bool.not_eq_true', Bool.true_eq_false, reduceCtorEq, not_true_eq_false] at c1 c49 c50 c62 c68 c69) <;> (first | rfl | (rw [Bool.eq_iff_iff]; simp only [ch_15 hC, Sh.within, decide_eq_true_eq, Bool.and_eq_true, Bool.or_eq_true, Bool.not_eq_true', decide_eq_false_iff_not, Bool.false_eq_true, reduceCtorEq, iff_false, iff_true] <;> (try simp only [Sh.size]) <;> omega)))
              · refine ⟨_, rfl, _, rfl, ?_⟩
                refine ite2 (fun c70 => ?_) (fun c70 => ?_)
                · exact castB k (by (try simp only [decide_eq_true_eq, Bool.not_eq_true, decide_eq_false_iff_not, beq_iff_eq, Bool.not_eq_true', Bool.true_eq_false, reduceCtorEq, not_true_eq_false] at c1 c49 c50 c62 c68 c69 c70) <;> (first | rfl | (rw [Bool.eq_iff_iff]; simp only [ch_15 hC, Sh.within, decide_eq_true_eq, Bool.and_eq_true, Bool.or_eq_true, Bool.not_eq_true', decide_eq_false_iff_not, Bool.false_eq_true, reduceCtorEq, iff_false, iff_true] <;> (try simp only [Sh.size]) <;> omega)))
                · refine ⟨_, rfl, ?_⟩
                  exact castB k (by (try simp only [decide_eq_true_eq, Bool.not_eq_true, decide_eq_false_iff_not, beq_iff_eq, Bool.not_eq_true', Bool.true_eq_false, reduceCtorEq, not_true_eq_false] at c1 c49 c50 c62 c68 c69 c70) <;> (first | rfl | (rw [Bool.eq_iff_iff]; simp only [ch_15 hC, Sh.within, decide_eq_true_eq, Bool.and_eq_true, Bool.or_eq_true, Bool.not_eq_true', decide_eq_false_iff_not, Bool.false_eq_true, reduceCtorEq, iff_false, iff_true] <;> (try simp only [Sh.size]) <;> omega)))
            · refine ⟨_, rfl, _, rfl, ?_⟩
              refine ite2 (fun c71 => ?_) (fun c71 => ?_)
              · exact castB k (by (try simp only [decide_eq_true_eq, Bool.not_eq_true, decide_eq_false_iff_not, beq_iff_eq, Bool.not_eq_true', Bool.true_eq_false, reduceCtorEq, not_true_eq_false] at c1 c49 c50 c62 c68 c71) <;> (first | rfl | (rw [Bool.eq_iff_iff]; simp only [ch_15 hC, Sh.within, decide_eq_true_eq, Bool.and_eq_true, Bool.or_eq_true, Bool.not_eq_true', decide_eq_false_iff_not, Bool.false_eq_true, reduceCtorEq, iff_false, iff_true] <;> (try simp only [Sh.size]) <;> omega)))
              · refine ⟨_, rfl, _, rfl, ?_⟩
                refine ite2 (fun c72 => ?_) (fun c72 => ?_)
                · exact castB k (by (try simp only [decide_eq_true_eq, Bool.not_eq_true, decide_eq_false_iff_not, beq_iff_eq, Bool.not_eq_true', Bool.true_eq_false, reduceCtorEq, not_true_eq_false] at c1 c49 c50 c62 c68 c71 c72) <;> (first | rfl | (rw [Bool.eq_iff_iff]; simp only [ch_15 hC, Sh.within, decide_eq_true_eq, Bool.and_eq_true, Bool.or_eq_true, Bool.not_eq_true', decide_eq_false_iff_not, Bool.false_eq_true, reduceCtorEq, iff_false, iff_true] <;> (try simp only [Sh.size]) <;> omega)))
                · refine ⟨_, rfl, ?_⟩
                  exact castB k (by (try simp only [decide_eq_true_eq, Bool.not_eq_true, decide_eq_false_iff_not, beq_iff_eq, Bool.not_eq_true', Bool.true_eq_false, reduceCtorEq, not_true_eq_false] at c1 c49 c50 c62 c68 c71 c72) <;> (first | rfl | (rw [Bool.eq_iff_iff]; simp only [ch_15 hC, Sh.within, decide_eq_true_eq, Bool.and_eq_true, Bool.or_eq_true, Bool.not_eq_true', decide_eq_false_iff_not, Bool.false_eq_true, reduceCtorEq, iff_false, iff_true] <;> (try simp only [Sh.size]) <;> omega)))
      · refine ⟨_, rfl, ?_⟩
        refine ite2 (fun c73 => ?_) (fun c73 => ?_)
        · refine ⟨_, rfl, _, rfl, _, _, rfl, rfl, (by first | (apply Or.inl; constructor <;> (first | decide | omega)) | (apply Or.inr; constructor <;> (first | decide | omega))), _, rfl, _, _, rfl, rfl, _, _, rfl, rfl, _, rfl, _, _, rfl, rfl, _, rfl, ?_⟩
          refine ite2 (fun c74 => ?_) (fun c74 => ?_)
          · refine ⟨_, _, rfl, rfl, _, rfl, ?_⟩
            refine ite2 (fun c75 => ?_) (fun c75 => ?_)
            · refine ⟨_, rfl, _, rfl, _, _, rfl, rfl, _, rfl, _, rfl, ?_⟩
              refine ite2 (fun c76 => ?_) (fun c76 => ?_)
              · exact castB k (by (try simp only [decide_eq_true_eq, Bool.not_eq_true, decide_eq_false_iff_not, beq_iff_eq, Bool.not_eq_true', Bool.true_eq_false, reduceCtorEq, not_true_eq_false] at c1 c49 c73 c74 c75 c76) <;> (first | rfl | (rw [Bool.eq_iff_iff]; simp only [ch_15 hC, Sh.within, decide_eq_true_eq, Bool.and_eq_true, Bool.or_eq_true, Bool.not_eq_true', decide_eq_false_iff_not, Bool.false_eq_true, reduceCtorEq, iff_false, iff_true] <;> (try simp only [Sh.size]) <;> omega)))
              · refine ⟨_, rfl, _, rfl, ?_⟩
                refine ite2 (fun c77 => ?_) (fun c77 => ?_)
                · exact castB k (by (try simp only [decide_eq_true_eq, Bool.not_eq_true, decide_eq_false_iff_not, beq_iff_eq, Bool.not_eq_true', Bool.true_eq_false, reduceCtorEq, not_true_eq_false] at c1 c49 c73 c74 c75 c76 c77) <;> (first | rfl | (rw [Bool.eq_iff_iff]; simp only [ch_15 hC, Sh.within, decide_eq_true_eq, Bool.and_eq_true, Bool.or_eq_true, Bool.not_eq_true', decide_eq_false_iff_not, Bool.false_eq_true, reduceCtorEq, iff_false, iff_true] <;> (try simp only [Sh.size]) <;> omega)))
                · refine ⟨_, rfl, ?_⟩
                  exact castB k (by (try simp only [decide_eq_true_eq, Bool.not_eq_true, decide_eq_false_iff_not, beq_iff_eq, Bool.not_eq_true', Bool.true_eq_false, reduceCtorEq, not_true_eq_false] at c1 c49 c73 c74 c75 c76 c77) <;> (first | rfl | (rw [Bool.eq_iff_iff]; simp only [ch_15 hC, Sh.within, decide_eq_true_eq, Bool.and_eq_true, Bool.or_eq_true, Bool.not_eq_true', decide_eq_false_iff_not, Bool.false_eq_true, reduceCtorEq, iff_false, iff_true] <;> (try simp only [Sh.size]) <;> omega)))
            · refine ⟨_, rfl, _, rfl, ?_⟩
              refine ite2 (fun c78 => ?_) (fun c78 => ?_)
              · exact castB k (by (try simp only [decide_eq_true_eq, Bool.not_eq_true, decide_eq_false_iff_not, beq_iff_eq, Bool.not_eq_true', Bool.true_eq_false, reduceCtorEq, not_true_eq_false] at c1 c49 c73 c74 c75 c78) <;> (first | rfl | (rw [Bool.eq_iff_iff]; simp only [ch_15 hC, Sh.within, decide_eq_true_eq, Bool.and_eq_true, Bool.or_eq_true, Bool.not_eq_true', decide_eq_false_iff_not, Bool.false_eq_true, reduceCtorEq, iff_false, iff_true] <;> (try simp only [Sh.size]) <;> omega)))
              · refine ⟨_, rfl, _, rfl, ?_⟩
                refine ite2 (fun c79 => ?_) (fun c79 => ?_)
                · exact castB k (by (try simp only [decide_eq_true_eq, Bool.not_eq_true, decide_eq_false_iff_not, beq_iff_eq, Bool.not_eq_true', Bool.true_eq_false, reduceCtorEq, not_true_eq_false] at c1 c49 c73 c74 c75 c78 c79) <;> (first | rfl | (rw [Bool.eq_iff_iff]; simp only [ch_15 hC, Sh.within, decide_eq_true_eq, Bool.and_eq_true, Bool.or_eq_true, Bool.not_eq_true', decide_eq_false_iff_not, Bool.false_eq_true, reduceCtorEq, iff_false, iff_true] <;> (try simp only [Sh.size]) <;> omega)))
                · refine ⟨_, rfl, ?_⟩
                  exact castB k (by (try simp only [decide_eq_true_eq, Bool.not_eq_true, decide_eq_false_iff_not, beq_iff_eq, Bool.not_eq_true', Bool.true_eq_false, reduceCtorEq, not_true_eq_false] at c1 c49 c73 c74 c75 c78 c79) <;> (first | rfl | (rw [Bool.eq_iff_iff]; simp only [ch_15 hC, Sh.within, decide_eq_true_eq, Bool.and_eq_true, Bool.or_eq_true, Bool.not_eq_true', decide_eq_false_iff_not, Bool.false_eq_true, reduceCtorEq, iff_false, iff_true] <;> (try simp only [Sh.size]) <;> omega)))
          · refine ⟨_, rfl, ?_⟩
            refine ite2 (fun c80 => ?_) (fun c80 => ?_)
            · refine ⟨_, rfl, _, rfl, _, _, rfl, rfl, _, rfl, _, rfl, ?_⟩
              refine ite2 (fun c81 => ?_) (fun c81 => ?_)
              · exact castB k (by (try simp only [decide_eq_true_eq, Bool.not_eq_true, decide_eq_false_iff_not, beq_iff_eq, Bool.not_eq_true', Bool.true_eq_false, reduceCtorEq, not_true_eq_false] at c1 c49 c73 c74 c80 c81) <;> (first | rfl | (rw [Bool.eq_iff_iff]; simp only [ch_15 hC, Sh.within, decide_eq_true_eq, Bool.and_eq_true, Bool.or_eq_true, Bool.not_eq_true', decide_eq_false_iff_not, Bool.false_eq_true, reduceCtorEq, iff_false, iff_true] <;> (try simp only [Sh.size]) <;> omega)))
              · refine ⟨_, rfl, _, rfl, ?_⟩
                refine ite2 (fun c82 => ?_) (fun c82 => ?_)
                · exact castB k (by (try simp only [decide_eq_true_eq, Bool.not_eq_true, decide_eq_false_iff_not, beq_iff_eq, Bool.not_eq_true', Bool.true_eq_false, reduceCtorEq, not_true_eq_false] at c1 c49 c73 c74 c80 c81 c82) <;> (first | rfl | (rw [Bool.eq_iff_iff]; simp only [ch_15 hC, Sh.within, decide_eq_true_eq, Bool.and_eq_true, Bool.or_eq_true, Bool.not_eq_true', decide_eq_false_iff_not, Bool.false_eq_true, reduceCtorEq, iff_false, iff_true] <;> (try simp only [Sh.size]) <;> omega)))
                · refine ⟨_, rfl, ?_⟩
                  exact castB k (by (try simp only [decide_eq_true_eq, Bool.not_eq_true, decide_eq_false_iff_not, beq_iff_eq, Bool.not_eq_true', Bool.true_eq_false, reduceCtorEq, not_true_eq_false] at c1 c49 c73 c74 c80 c81 c82) <;> (first | rfl | (rw [Bool.eq_iff_iff]; simp only [ch_15 hC, Sh.within, decide_eq_true_eq, Bool.and_eq_true, Bool.or_eq_true, Bool.not_eq_true', decide_eq_false_iff_not, Bool.false_eq_true, reduceCtorEq, iff_false, iff_true] <;> (try simp only [Sh.size]) <;> omega)))
            · refine ⟨_, rfl, _, rfl, ?_⟩
              refine ite2 (fun c83 => ?_) (fun c83 => ?_)
              · exact castB k (by (try simp only [decide_eq_true_eq, Bool.not_eq_true, decide_eq_false_iff_not, beq_iff_eq, Bool.not_eq_true', Bool.true_eq_false, reduceCtorEq, not_true_eq_false] at c1 c49 c73 c74 c80 c83) <;> (first | rfl | (rw [Bool.eq_iff_iff]; simp only [ch_15 hC, Sh.within, decide_eq_true_eq, Bool.and_eq_true, Bool.or_eq_true, Bool.not_eq_true', decide_eq_false_iff_not, Bool.false_eq_true, reduceCtorEq, iff_false, iff_true] <;> (try simp only [Sh.size]) <;> omega)))
              · refine ⟨_, rfl, _, rfl, ?_⟩
                refine ite2 (fun c84 => ?_) (fun c84 => ?_)
                · exact castB k (by (try simp only [decide_eq_true_eq, Bool.not_eq_true, decide_eq_false_iff_not, beq_iff_eq, Bool.not_eq_true', Bool.true_eq_false, reduceCtorEq, not_true_eq_false] at c1 c49 c73 c74 c80 c83 c84) <;> (first | rfl | (rw [Bool.eq_iff_iff]; simp only [ch_15 hC, Sh.within, decide_eq_true_eq, Bool.and_eq_true, Bool.or_eq_true, Bool.not_eq_true', decide_eq_false_iff_not, Bool.false_eq_true, reduceCtorEq, iff_false, iff_true] <;> (try simp only [Sh.size]) <;> omega)))
                · refine ⟨_, rfl, ?_⟩
                  exact castB k (by (try simp only [decide_eq_true_eq, Bool.not_eq_true, decide_eq_false_iff_not, beq_iff_eq, Bool.not_eq_true', Bool.true_eq_false, reduceCtorEq, not_true_eq_false] at c1 c49 c73 c74 c80 c83 c84) <;> (first | rfl | (rw [Bool.eq_iff_iff]; simp only [ch_15 hC, Sh.within, decide_eq_true_eq, Bool.and_eq_true, Bool.or_eq_true, Bool.not_eq_true', decide_eq_false_iff_not, Bool.false_eq_true, reduceCtorEq, iff_false, iff_true] <;> (try simp only [Sh.size]) <;> omega)))
        · refine ⟨_, rfl, _, _, rfl, rfl, _, rfl, ?_⟩
          refine ite2 (fun c85 => ?_) (fun c85 => ?_)
          · refine ⟨_, _, rfl, rfl, _, rfl, ?_⟩
            refine ite2 (fun c86 => ?_) (fun c86 => ?_)
            · refine ⟨_, rfl, _, rfl, _, _, rfl, rfl, _, rfl, _, rfl, ?_⟩
              refine ite2 (fun c87 => ?_) (fun c87 => ?_)
              · exact castB k (by (try simp only [decide_eq_true_eq, Bool.not_eq_true, decide_eq_false_iff_not, beq_iff_eq, Bool.not_eq_true', Bool.true_eq_false, reduceCtorEq, not_true_eq_false] at c1 c49 c73 c85 c86 c87) <;> (first | rfl | (rw [Bool.eq_iff_iff]; simp only [ch_15 hC, Sh.within, decide_eq_true_eq, Bool.and_eq_true, Bool.or_eq_true, Bool.not_eq_true', decide_eq_false_iff_not, Bool.false_eq_true, reduceCtorEq, iff_false, iff_true] <;> (try simp only [Sh.size]) <;> omega)))
              · refine ⟨_, rfl, _, rfl, ?_⟩
                refine ite2 (fun c88 => ?_) (fun c88 => ?_)
                · exact castB k (by (try simp only [decide_eq_true_eq, Bool.not_eq_true, decide_eq_false_iff_not, beq_iff_eq, Bool.not_eq_true', Bool.true_eq_false, reduceCtorEq, not_true_eq_false] at c1 c49 c73 c85 c86 c87 c88) <;> (first | rfl | (rw [Bool.eq_iff_iff]; simp only [ch_15 hC, Sh.within, decide_eq_true_eq, Bool.and_eq_true, Bool.or_eq_true, Bool.not_eq_true', decide_eq_false_iff_not, Bool.false_eq_true, reduceCtorEq, iff_false, iff_true] <;> (try simp only [Sh.size]) <;> omega)))
                · refine ⟨_, rfl, ?_⟩
                  exact castB k (by (try simp only [decide_eq_true_eq, Bool.not_eq_true, decide_eq_false_iff_not, beq_iff_eq, Bool.not_eq_true', Bool.true_eq_false, reduceCtorEq, not_true_eq_false] at c1 c49 c73 c85 c86 c87 c88) <;> (first | rfl | (rw [Bool.eq_iff_iff]; simp only [ch_15 hC, Sh.within, decide_eq_true_eq, Bool.and_eq_true, Bool.or_eq_true, Bool.not_eq_true', decide_eq_false_iff_not, Bool.false_eq_true, reduceCtorEq, iff_false, iff_true] <;> (try simp only [Sh.size]) <;> omega)))
            · refine ⟨_, rfl, _, rfl, ?_⟩
              refine ite2 (fun c89 => ?_) (fun c89 => ?_)
              · exact castB k (by (try simp only [decide_eq_true_eq, Bool.not_eq_true, decide_eq_false_iff_not, beq_iff_eq, Bool.not_eq_true', Bool.true_eq_false, reduceCtorEq, not_true_eq_false] at c1 c49 c73 c85 c86 c89) <;> (first | rfl | (rw [Bool.eq_iff_iff]; simp only [ch_15 hC, Sh.within, decide_eq_true_eq, Bool.and_eq_true, Bool.or_eq_true, Bool.not_eq_true', decide_eq_false_iff_not, Bool.false_eq_true, reduceCtorEq, iff_false, iff_true] <;> (try simp only [Sh.size]) <;> omega)))
              · refine ⟨_, rfl, _, rfl, ?_⟩
                refine ite2 (fun c90 => ?_) (fun c90 => ?_)
                · exact castB k (by (try simp only [decide_eq_true_eq, Bool.not_eq_true, decide_eq_false_iff_not, beq_iff_eq, Bool.not_eq_true', Bool.true_eq_false, reduceCtorEq, not_true_eq_false] at c1 c49 c73 c85 c86 c89 c90) <;> (first | rfl | (rw [Bool.eq_iff_iff]; simp only [ch_15 hC, Sh.within, decide_eq_true_eq, Bool.and_eq_true, Bool.or_eq_true, Bool.not_eq_true', decide_eq_false_iff_not, Bool.false_eq_true, reduceCtorEq, iff_false, iff_true] <;> (try simp only [Sh.size]) <;> omega)))
                · refine ⟨_, rfl, ?_⟩
                  exact castB k (by (try simp only [decide_eq_true_eq, Bool.not_eq_true, decide_eq_false_iff_not, beq_iff_eq, Bool.not_eq_true', Bool.true_eq_false, reduceCtorEq, not_true_eq_false] at c1 c49 c73 c85 c86 c89 c90) <;> (first | rfl | (rw [Bool.eq_iff_iff]; simp only [ch_15 hC, Sh.within, decide_eq_true_eq, Bool.and_eq_true, Bool.or_eq_true, Bool.not_eq_true', decide_eq_false_iff_not, Bool.false_eq_true, reduceCtorEq, iff_false, iff_true] <;> (try simp only [Sh.size]) <;> omega)))
          · refine ⟨_, rfl, ?_⟩
            refine ite2 (fun c91 => ?_) (fun c91 => ?_)
            · refine ⟨_, rfl, _, rfl, _, _, rfl, rfl, _, rfl, _, rfl, ?_⟩
              refine ite2 (fun c92 => ?_) (fun c92 => ?_)
              · exact castB k (by (try simp only [decide_eq_true_eq, Bool.not_eq_true, decide_eq_false_iff_not, beq_iff_eq, Bool.not_eq_true', Bool.true_eq_false, reduceCtorEq, not_true_eq_false] at c1 c49 c73 c85 c91 c92) <;> (first | rfl | (rw [Bool.eq_iff_iff]; simp only [ch_15 hC, Sh.within, decide_eq_true_eq, Bool.and_eq_true, Bool.or_eq_true, Bool.not_eq_true', decide_eq_false_iff_not, Bool.false_eq_true, reduceCtorEq, iff_false, iff_true] <;> (try simp only [Sh.size]) <;> omega)))
              · refine ⟨_, rfl, _, rfl, ?_⟩
                refine ite2 (fun c93 => ?_) (fun c93 => ?_)
                · exact castB k (by (try simp only [decide_eq_true_eq, Bool.not_eq_true, decide_eq_false_iff_not, beq_iff_eq, Bool.not_eq_true', Bool.true_eq_false, reduceCtorEq, not_true_eq_false] at c1 c49 c73 c85 c91 c92 c93) <;> (first | rfl | (rw [Bool.eq_iff_iff]; simp only [ch_15 hC, Sh.within, decide_eq_true_eq, Bool.and_eq_true, Bool.or_eq_true, Bool.not_eq_true', decide_eq_false_iff_not, Bool.false_eq_true, reduceCtorEq, iff_false, iff_true] <;> (try simp only [Sh.size]) <;> omega)))
                · refine ⟨_, rfl, ?_⟩
                  exact castB k (by (try simp only [decide_eq_true_eq, Bool.not_eq_true, decide_eq_false_iff_not, beq_iff_eq, Bool.not_eq_true', Bool.true_eq_false, reduceCtorEq, not_true_eq_false] at c1 c49 c73 c85 c91 c92 c93) <;> (first | rfl | (rw [Bool.eq_iff_iff]; simp only [ch_15 hC, Sh.within, decide_eq_true_eq, Bool.and_eq_true, Bool.or_eq_true, Bool.not_eq_true', decide_eq_false_iff_not, Bool.false_eq_true, reduceCtorEq, iff_false, iff_true] <;> (try simp only [Sh.size]) <;> omega)))
            · refine ⟨_, rfl, _, rfl, ?_⟩
              refine ite2 (fun c94 => ?_) (fun c94 => ?_)
              · exact castB k (by (try simp only [decide_eq_true_eq, Bool.not_eq_true, decide_eq_false_iff_not, beq_iff_eq, Bool.not_eq_true', Bool.true_eq_false, reduceCtorEq, not_true_eq_false] at c1 c49 c73 c85 c91 c94) <;> (first | rfl | (rw [Bool.eq_iff_iff]; simp only [ch_15 hC, Sh.within, decide_eq_true_eq, Bool.and_eq_true, Bool.or_eq_true, Bool.not_eq_true', decide_eq_false_iff_not, Bool.false_eq_true, reduceCtorEq, iff_false, iff_true] <;> (try simp only [Sh.size]) <;> omega)))
              · refine ⟨_, rfl, _, rfl, ?_⟩
                refine ite2 (fun c95 => ?_) (fun c95 => ?_)
                · exact castB k (by (try simp only [decide_eq_true_eq, Bool.not_eq_true, decide_eq_false_iff_not, beq_iff_eq, Bool.not_eq_true', Bool.true_eq_false, reduceCtorEq, not_true_eq_false] at c1 c49 c73 c85 c91 c94 c95) <;> (first | rfl | (rw [Bool.eq_iff_iff]; simp only [ch_15 hC, Sh.within, decide_eq_true_eq, Bool.and_eq_true, Bool.or_eq_true, Bool.not_eq_true', decide_eq_false_iff_not, Bool.false_eq_true, reduceCtorEq, iff_false, iff_true] <;> (try simp only [Sh.size]) <;> omega)))
                · refine ⟨_, rfl, ?_⟩
                  exact castB k (by (try simp only [decide_eq_true_eq, Bool.not_eq_true, decide_eq_false_iff_not, beq_iff_eq, Bool.not_eq_true', Bool.true_eq_false, reduceCtorEq, not_true_eq_false] at c1 c49 c73 c85 c91 c94 c95) <;> (first | rfl | (rw [Bool.eq_iff_iff]; simp only [ch_15 hC, Sh.within, decide_eq_true_eq, Bool.and_eq_true, Bool.or_eq_true, Bool.not_eq_true', decide_eq_false_iff_not, Bool.false_eq_true, reduceCtorEq, iff_false, iff_true] <;> (try simp only [Sh.size]) <;> omega)))
end
end HC
namespace HC
open PySem PySem.Spec PyProof.Rows L2
section
variable {P : Program} {w : World} {K : PySem.W.Frag} {mg : Str → Option Value} {base : Heap} {d : Ad}
abbrev sp_share_middle : Sp := spI3 (fun length k many => 0 ≤ length ∧ length ≤ 1000 ∧ 1 ≤ many ∧ many ≤ 10) (fun length k many => .int (length * (2 * k + 1) / (2 * many)))
theorem sc_share_middle : FnScope ["length", "k", "many"] ["length", "k", "many"] (defScope s_share_middle) := ⟨rfl, rfl, rfl, by decide +kernel, rfl, by decide +kernel, by decide +kernel⟩
theorem ok_share_middle (T : Txt K mg d) : OkD P w K mg base CX0 1 d.f_share_middle ["length", "k", "many"] (sp_share_middle) := by
  obtain ⟨fd, F, B⟩ := T.k_share_middle.ex
  refine ⟨⟨fd, F.ok sc_share_middle (fun vs H Q E h => ?_) (fun cdv A outer s H vs Q E hr h => ?_), B⟩, F.kp⟩
  · obtain ⟨length, k, many, rfl, _⟩ := h
    rfl
  · obtain ⟨length, k, many, rfl, hC, k⟩ := h
    refine ⟨_, pss_one (ps_ret (pe_op op_fdiv (pe_op op_mul (pv 0) (pe_op op_add (pe_op op_mul pe_int (pv 1)) pe_int)) (pe_op op_mul pe_int (pv 2)))), ?_⟩
    refine ⟨_, rfl, _, rfl, _, _, rfl, rfl, (by first | (apply Or.inl; constructor <;> (first | decide | omega)) | (apply Or.inr; constructor <;> (first | decide | omega))), _, _, rfl, rfl, _, _, rfl, rfl, (by first | (apply Or.inl; constructor <;> (first | decide | omega)) | (apply Or.inr; constructor <;> (first | decide | omega))), _, rfl, _, _, rfl, rfl, (by first | (apply Or.inl; constructor <;> (first | decide | omega)) | (apply Or.inr; constructor <;> (first | decide | omega))), _, _, rfl, rfl, (by constructor <;> first | decide | omega), ?_⟩
    exact castI k (by (first | rfl | (skip; (repeat' split) <;> omega)))
abbrev sp_across : Sp := spI2 (fun k many => 1 ≤ many ∧ many ≤ 10) (fun k many => .int (480 * (2 * k + 1) / (2 * many)))
theorem sc_across : FnScope ["k", "many"] ["k", "many"] (defScope s_across) := ⟨rfl, rfl, rfl, by decide +kernel, rfl, by decide +kernel, by decide +kernel⟩
theorem ok_across (T : Txt K mg d) : OkD P w K mg base CX0 2 d.f_across ["k", "many"] (sp_across) := by
  obtain ⟨fd, F, B⟩ := T.k_across.ex
  obtain ⟨⟨fd_share_middle, G_share_middle, B_share_middle⟩, kp_share_middle⟩ := ok_share_middle (P := P) (w := w) (base := base) T
  obtain ⟨c_WIDTH, m_WIDTH⟩ := T.nWIDTH
  refine ⟨⟨fd, F.ok sc_across (fun vs H Q E h => ?_) (fun cdv A outer s H vs Q E hr h => ?_), B⟩, F.kp⟩
  · obtain ⟨k, many, rfl, _⟩ := h
    rfl
  · obtain ⟨k, many, rfl, hC, k⟩ := h
    have hr_share_middle : Room 1 _ := hr.mono (by decide)
    refine ⟨_, pss_one (ps_ret (pe_call G_share_middle hr_share_middle rfl T.k_share_middle.gl kp_share_middle B_share_middle .nil pass0 (pa_cons (pgi m_WIDTH) (pa_cons (pv 0) (pa_cons (pv 1) pa_nil))))), ?_⟩
    refine ⟨_, rfl, _, rfl, _, _, _, rfl, (by first | trivial | assumption | omega), ?_⟩
    exact castI k (by (first | rfl | (skip; (repeat' split) <;> omega)))
abbrev sp_down : Sp := spI2 (fun k many => 1 ≤ many ∧ many ≤ 10) (fun k many => .int (576 * (2 * k + 1) / (2 * many)))
theorem sc_down : FnScope ["k", "many"] ["k", "many"] (defScope s_down) := ⟨rfl, rfl, rfl, by decide +kernel, rfl, by decide +kernel, by decide +kernel⟩
theorem ok_down (T : Txt K mg d) : OkD P w K mg base CX0 2 d.f_down ["k", "many"] (sp_down) := by
  obtain ⟨fd, F, B⟩ := T.k_down.ex
  obtain ⟨⟨fd_share_middle, G_share_middle, B_share_middle⟩, kp_share_middle⟩ := ok_share_middle (P := P) (w := w) (base := base) T
  obtain ⟨c_HEIGHT, m_HEIGHT⟩ := T.nHEIGHT
  refine ⟨⟨fd, F.ok sc_down (fun vs H Q E h => ?_) (fun cdv A outer s H vs Q E hr h => ?_), B⟩, F.kp⟩
  · obtain ⟨k, many, rfl, _⟩ := h
    rfl
  · obtain ⟨k, many, rfl, hC, k⟩ := h
    have hr_share_middle : Room 1 _ := hr.mono (by decide)
    refine ⟨_, pss_one (ps_ret (pe_call G_share_middle hr_share_middle rfl T.k_share_middle.gl kp_share_middle B_share_middle .nil pass0 (pa_cons (pgi m_HEIGHT) (pa_cons (pv 0) (pa_cons (pv 1) pa_nil))))), ?_⟩
    refine ⟨_, rfl, _, rfl, _, _, _, rfl, (by first | trivial | assumption | omega), ?_⟩
    exact castI k (by (first | rfl | (skip; (repeat' split) <;> omega)))
abbrev sp_fess_half : Sp := spI1 (fun many => 1 ≤ many ∧ many ≤ 10) (fun many => .int (if 84 < 240 / many then 84 else 240 / many))
theorem sc_fess_half : FnScope ["many"] ["many"] (defScope s_fess_half) := ⟨rfl, rfl, rfl, by decide +kernel, rfl, by decide +kernel, by decide +kernel⟩
theorem ok_fess_half (T : Txt K mg d) : OkD P w K mg base CX0 1 d.f_fess_half ["many"] (sp_fess_half) := by
  obtain ⟨fd, F, B⟩ := T.k_fess_half.ex
  refine ⟨⟨fd, F.ok sc_fess_half (fun vs H Q E h => ?_) (fun cdv A outer s H vs Q E hr h => ?_), B⟩, F.kp⟩
  · obtain ⟨many, rfl, _⟩ := h
    rfl
  · obtain ⟨many, rfl, hC, k⟩ := h
    refine ⟨_, pss_one (ps_ret (pe_callB (call_min2 rfl) (by rfl) T.b_min (by decide +kernel) (pa_cons (pe_op op_fdiv pe_int (pv 0)) (pa_cons pe_int pa_nil)))), ?_⟩
    refine ⟨_, rfl, _, _, rfl, rfl, (by constructor <;> first | decide | omega), _, _, rfl, ?_⟩
    exact castI k (by (first | rfl | (skip; (repeat' split) <;> omega)))
abbrev sp_pale_half : Sp := spI1 (fun many => 1 ≤ many ∧ many ≤ 10) (fun many => .int (if 72 < 288 / many then 72 else 288 / many))
theorem sc_pale_half : FnScope ["many"] ["many"] (defScope s_pale_half) := ⟨rfl, rfl, rfl, by decide +kernel, rfl, by decide +kernel, by decide +kernel⟩
theorem ok_pale_half (T : Txt K mg d) : OkD P w K mg base CX0 1 d.f_pale_half ["many"] (sp_pale_half) := by
  obtain ⟨fd, F, B⟩ := T.k_pale_half.ex
  refine ⟨⟨fd, F.ok sc_pale_half (fun vs H Q E h => ?_) (fun cdv A outer s H vs Q E hr h => ?_), B⟩, F.kp⟩
  · obtain ⟨many, rfl, _⟩ := h
    rfl
  · obtain ⟨many, rfl, hC, k⟩ := h
    refine ⟨_, pss_one (ps_ret (pe_callB (call_min2 rfl) (by rfl) T.b_min (by decide +kernel) (pa_cons (pe_op op_fdiv pe_int (pv 0)) (pa_cons pe_int pa_nil)))), ?_⟩
    refine ⟨_, rfl, _, _, rfl, rfl, (by constructor <;> first | decide | omega), _, _, rfl, ?_⟩
    exact castI k (by (first | rfl | (skip; (repeat' split) <;> omega)))
abbrev sp_bend_half : Sp := spI1 (fun many => 1 ≤ many ∧ many ≤ 10) (fun many => .int (if 96 < 240 / many then 96 else 240 / many))
theorem sc_bend_half : FnScope ["many"] ["many"] (defScope s_bend_half) := ⟨rfl, rfl, rfl, by decide +kernel, rfl, by decide +kernel, by decide +kernel⟩
theorem ok_bend_half (T : Txt K mg d) : OkD P w K mg base CX0 1 d.f_bend_half ["many"] (sp_bend_half) := by
  obtain ⟨fd, F, B⟩ := T.k_bend_half.ex
  refine ⟨⟨fd, F.ok sc_bend_half (fun vs H Q E h => ?_) (fun cdv A outer s H vs Q E hr h => ?_), B⟩, F.kp⟩
  · obtain ⟨many, rfl, _⟩ := h
    rfl
  · obtain ⟨many, rfl, hC, k⟩ := h
    refine ⟨_, pss_one (ps_ret (pe_callB (call_min2 rfl) (by rfl) T.b_min (by decide +kernel) (pa_cons (pe_op op_fdiv pe_int (pv 0)) (pa_cons pe_int pa_nil)))), ?_⟩
    refine ⟨_, rfl, _, _, rfl, rfl, (by constructor <;> first | decide | omega), _, _, rfl, ?_⟩
    exact castI k (by (first | rfl | (skip; (repeat' split) <;> omega)))
abbrev sp_chief_half : Sp := spI1 (fun many => 1 ≤ many ∧ many ≤ 10) (fun many => .int (if 72 < 240 / many then 72 else 240 / many))
theorem sc_chief_half : FnScope ["many"] ["many"] (defScope s_chief_half) := ⟨rfl, rfl, rfl, by decide +kernel, rfl, by decide +kernel, by decide +kernel⟩
theorem ok_chief_half (T : Txt K mg d) : OkD P w K mg base CX0 1 d.f_chief_half ["many"] (sp_chief_half) := by
  obtain ⟨fd, F, B⟩ := T.k_chief_half.ex
  refine ⟨⟨fd, F.ok sc_chief_half (fun vs H Q E h => ?_) (fun cdv A outer s H vs Q E hr h => ?_), B⟩, F.kp⟩
  · obtain ⟨many, rfl, _⟩ := h
    rfl
  · obtain ⟨many, rfl, hC, k⟩ := h
    refine ⟨_, pss_one (ps_ret (pe_callB (call_min2 rfl) (by rfl) T.b_min (by decide +kernel) (pa_cons (pe_op op_fdiv pe_int (pv 0)) (pa_cons pe_int pa_nil)))), ?_⟩
    refine ⟨_, rfl, _, _, rfl, rfl, (by constructor <;> first | decide | omega), _, _, rfl, ?_⟩
    exact castI k (by (first | rfl | (skip; (repeat' split) <;> omega)))
abbrev sp_base_half : Sp := spI1 (fun many => 1 ≤ many ∧ many ≤ 10) (fun many => .int (if 64 < 240 / many then 64 else 240 / many))
theorem sc_base_half : FnScope ["many"] ["many"] (defScope s_base_half) := ⟨rfl, rfl, rfl, by decide +kernel, rfl, by decide +kernel, by decide +kernel⟩
theorem ok_base_half (T : Txt K mg d) : OkD P w K mg base CX0 1 d.f_base_half ["many"] (sp_base_half) := by
  obtain ⟨fd, F, B⟩ := T.k_base_half.ex
  refine ⟨⟨fd, F.ok sc_base_half (fun vs H Q E h => ?_) (fun cdv A outer s H vs Q E hr h => ?_), B⟩, F.kp⟩
  · obtain ⟨many, rfl, _⟩ := h
    rfl
  · obtain ⟨many, rfl, hC, k⟩ := h
    refine ⟨_, pss_one (ps_ret (pe_callB (call_min2 rfl) (by rfl) T.b_min (by decide +kernel) (pa_cons (pe_op op_fdiv pe_int (pv 0)) (pa_cons pe_int pa_nil)))), ?_⟩
    refine ⟨_, rfl, _, _, rfl, rfl, (by constructor <;> first | decide | omega), _, _, rfl, ?_⟩
    exact castI k (by (first | rfl | (skip; (repeat' split) <;> omega)))
end
end HC
namespace HC
open PySem PySem.Spec PyProof.Rows L2
section
variable {P : Program} {w : World} {K : PySem.W.Frag} {mg : Str → Option Value} {base : Heap} {d : Ad}
theorem ch_out {c : Nat} {x y : Int} (h : 48 < Sh.size x ∨ 48 < Sh.size y) : Sh.chargeHas c x y = false := by
  unfold Sh.chargeHas
  rw [if_pos h]
theorem in48_of {x y : Int} (c1 : ¬ 48 < Sh.size x) (c2 : ¬ 48 < Sh.size y) : -48 ≤ x ∧ x ≤ 48 ∧ -48 ≤ y ∧ y ≤ 48 := by
  unfold Sh.size at c1 c2
  split at c1 <;> split at c2 <;> omega
abbrev sp_charge_has : Sp := spI3 (fun charge x y => 0 ≤ charge ∧ charge ≤ 15) (fun charge x y => .bl (Sh.chargeHas charge.toNat x y))
theorem sc_charge_has : FnScope ["charge", "x", "y"] ["charge", "x", "y"] (defScope s_charge_has) := ⟨rfl, rfl, rfl, by decide +kernel, rfl, by decide +kernel, by decide +kernel⟩
theorem ok_charge_has (T : Txt K mg d) : OkD P w K mg base CX0 3 d.f_charge_has ["charge", "x", "y"] (sp_charge_has) := by
  obtain ⟨fd, F, B⟩ := T.k_charge_has.ex
  obtain ⟨a_CHARGES, m_CHARGES, q_CHARGES⟩ := T.tCHARGES
  obtain ⟨⟨fd_roundel, G_roundel, B_roundel⟩, kp_roundel⟩ := ok_roundel (P := P) (w := w) (base := base) T
  obtain ⟨⟨fd_annulet, G_annulet, B_annulet⟩, kp_annulet⟩ := ok_annulet (P := P) (w := w) (base := base) T
  obtain ⟨⟨fd_lozenge, G_lozenge, B_lozenge⟩, kp_lozenge⟩ := ok_lozenge (P := P) (w := w) (base := base) T
  obtain ⟨⟨fd_mascle, G_mascle, B_mascle⟩, kp_mascle⟩ := ok_mascle (P := P) (w := w) (base := base) T
  obtain ⟨⟨fd_fusil, G_fusil, B_fusil⟩, kp_fusil⟩ := ok_fusil (P := P) (w := w) (base := base) T
  obtain ⟨⟨fd_billet, G_billet, B_billet⟩, kp_billet⟩ := ok_billet (P := P) (w := w) (base := base) T
  obtain ⟨⟨fd_mullet, G_mullet, B_mullet⟩, kp_mullet⟩ := ok_mullet (P := P) (w := w) (base := base) T
  obtain ⟨⟨fd_crescent, G_crescent, B_crescent⟩, kp_crescent⟩ := ok_crescent (P := P) (w := w) (base := base) T
  obtain ⟨⟨fd_increscent, G_increscent, B_increscent⟩, kp_increscent⟩ := ok_increscent (P := P) (w := w) (base := base) T
  obtain ⟨⟨fd_crosslet, G_crosslet, B_crosslet⟩, kp_crosslet⟩ := ok_crosslet (P := P) (w := w) (base := base) T
  obtain ⟨⟨fd_saltorel, G_saltorel, B_saltorel⟩, kp_saltorel⟩ := ok_saltorel (P := P) (w := w) (base := base) T
  obtain ⟨⟨fd_escutcheon, G_escutcheon, B_escutcheon⟩, kp_escutcheon⟩ := ok_escutcheon (P := P) (w := w) (base := base) T
  obtain ⟨⟨fd_tower, G_tower, B_tower⟩, kp_tower⟩ := ok_tower (P := P) (w := w) (base := base) T
  obtain ⟨⟨fd_sword, G_sword, B_sword⟩, kp_sword⟩ := ok_sword (P := P) (w := w) (base := base) T
  obtain ⟨⟨fd_wheel, G_wheel, B_wheel⟩, kp_wheel⟩ := ok_wheel (P := P) (w := w) (base := base) T
  obtain ⟨⟨fd_arrow, G_arrow, B_arrow⟩, kp_arrow⟩ := ok_arrow (P := P) (w := w) (base := base) T
  obtain ⟨c_REACH, m_REACH⟩ := T.nREACH
  refine ⟨⟨fd, F.ok sc_charge_has (fun vs H Q E h => ?_) (fun cdv A outer s H vs Q E hr h => ?_), B⟩, F.kp⟩
  · obtain ⟨charge, x, y, rfl, _⟩ := h
    rfl
  · obtain ⟨charge, x, y, rfl, hC, k⟩ := h
    have hr_CHARGES : Room 2 _ := hr.mono (by decide)
    refine ⟨_, pss_cons (ps_if (PW.pt (pw_or (pt_cmpR op_gt (pe_callB call_abs (by rfl) T.b_abs (by decide +kernel) (pa_cons (pv 1) pa_nil)) (pgi m_REACH) (nomark _)) (pw_or1 (pt_cmpR op_gt (pe_callB call_abs (by rfl) T.b_abs (by decide +kernel) (pa_cons (pv 2) pa_nil)) (pgi m_REACH) (nomark _)))))
        (pss_one (ps_ret pe_bl))
        pss_nil)
      (pss_one (ps_ret (pe_callE hr_CHARGES (pe_ix ix_tup (pe_glob (v := .ref a_CHARGES) rfl m_CHARGES rfl) (pv 0) (fun _ _ => rfl)) (pa_cons (pv 1) (pa_cons (pv 2) pa_nil))))), ?_⟩
    refine ⟨_, rfl, _, rfl, _, _, rfl, rfl, _, rfl, ?_⟩
    refine ite2 (fun c1 => ?_) (fun c1 => ?_)
    · refine iteT ?_
      exact castB k (ch_out (.inl (of_decide_eq_true c1)))
    · refine ⟨_, rfl, _, rfl, _, _, rfl, rfl, _, rfl, ?_⟩
      refine ite2 (fun c2 => ?_) (fun c2 => ?_)
      · exact castB k (ch_out (.inr (of_decide_eq_true c2)))
      · have hb := in48_of (x := x) (y := y) (fun z => c1 (decide_eq_true z)) (fun z => c2 (decide_eq_true z))
        rcases (show charge = 0 ∨ charge = 1 ∨ charge = 2 ∨ charge = 3 ∨ charge = 4 ∨ charge = 5 ∨ charge = 6 ∨ charge = 7 ∨ charge = 8 ∨ charge = 9 ∨ charge = 10 ∨ charge = 11 ∨ charge = 12 ∨ charge = 13 ∨ charge = 14 ∨ charge = 15 by omega) with rfl | rfl | rfl | rfl | rfl | rfl | rfl | rfl | rfl | rfl | rfl | rfl | rfl | rfl | rfl | rfl
        · exact ⟨_, rfl, _, _, _, _, rfl, rfl, q_CHARGES _, (by rfl), _, sp_roundel, rfl, ⟨_, _, _, (by decide), G_roundel, B_roundel, kp_roundel⟩, _, rfl, _, rfl, _, _, rfl, hb, k⟩
        · exact ⟨_, rfl, _, _, _, _, rfl, rfl, q_CHARGES _, (by rfl), _, sp_annulet, rfl, ⟨_, _, _, (by decide), G_annulet, B_annulet, kp_annulet⟩, _, rfl, _, rfl, _, _, rfl, hb, k⟩
        · exact ⟨_, rfl, _, _, _, _, rfl, rfl, q_CHARGES _, (by rfl), _, sp_lozenge, rfl, ⟨_, _, _, (by decide), G_lozenge, B_lozenge, kp_lozenge⟩, _, rfl, _, rfl, _, _, rfl, hb, k⟩
        · exact ⟨_, rfl, _, _, _, _, rfl, rfl, q_CHARGES _, (by rfl), _, sp_mascle, rfl, ⟨_, _, _, (by decide), G_mascle, B_mascle, kp_mascle⟩, _, rfl, _, rfl, _, _, rfl, hb, k⟩
        · exact ⟨_, rfl, _, _, _, _, rfl, rfl, q_CHARGES _, (by rfl), _, sp_fusil, rfl, ⟨_, _, _, (by decide), G_fusil, B_fusil, kp_fusil⟩, _, rfl, _, rfl, _, _, rfl, hb, k⟩
        · exact ⟨_, rfl, _, _, _, _, rfl, rfl, q_CHARGES _, (by rfl), _, sp_billet, rfl, ⟨_, _, _, (by decide), G_billet, B_billet, kp_billet⟩, _, rfl, _, rfl, _, _, rfl, hb, k⟩
        · exact ⟨_, rfl, _, _, _, _, rfl, rfl, q_CHARGES _, (by rfl), _, sp_mullet, rfl, ⟨_, _, _, (by decide), G_mullet, B_mullet, kp_mullet⟩, _, rfl, _, rfl, _, _, rfl, hb, k⟩
        · exact ⟨_, rfl, _, _, _, _, rfl, rfl, q_CHARGES _, (by rfl), _, sp_crescent, rfl, ⟨_, _, _, (by decide), G_crescent, B_crescent, kp_crescent⟩, _, rfl, _, rfl, _, _, rfl, hb, k⟩
        · exact ⟨_, rfl, _, _, _, _, rfl, rfl, q_CHARGES _, (by rfl), _, sp_increscent, rfl, ⟨_, _, _, (by decide), G_increscent, B_increscent, kp_increscent⟩, _, rfl, _, rfl, _, _, rfl, hb, k⟩
        · exact ⟨_, rfl, _, _, _, _, rfl, rfl, q_CHARGES _, (by rfl), _, sp_crosslet, rfl, ⟨_, _, _, (by decide), G_crosslet, B_crosslet, kp_crosslet⟩, _, rfl, _, rfl, _, _, rfl, hb, k⟩
        · exact ⟨_, rfl, _, _, _, _, rfl, rfl, q_CHARGES _, (by rfl), _, sp_saltorel, rfl, ⟨_, _, _, (by decide), G_saltorel, B_saltorel, kp_saltorel⟩, _, rfl, _, rfl, _, _, rfl, hb, k⟩
        · exact ⟨_, rfl, _, _, _, _, rfl, rfl, q_CHARGES _, (by rfl), _, sp_escutcheon, rfl, ⟨_, _, _, (by decide), G_escutcheon, B_escutcheon, kp_escutcheon⟩, _, rfl, _, rfl, _, _, rfl, hb, k⟩
        · exact ⟨_, rfl, _, _, _, _, rfl, rfl, q_CHARGES _, (by rfl), _, sp_tower, rfl, ⟨_, _, _, (by decide), G_tower, B_tower, kp_tower⟩, _, rfl, _, rfl, _, _, rfl, hb, k⟩
        · exact ⟨_, rfl, _, _, _, _, rfl, rfl, q_CHARGES _, (by rfl), _, sp_sword, rfl, ⟨_, _, _, (by decide), G_sword, B_sword, kp_sword⟩, _, rfl, _, rfl, _, _, rfl, hb, k⟩
        · exact ⟨_, rfl, _, _, _, _, rfl, rfl, q_CHARGES _, (by rfl), _, sp_wheel, rfl, ⟨_, _, _, (by decide), G_wheel, B_wheel, kp_wheel⟩, _, rfl, _, rfl, _, _, rfl, hb, k⟩
        · exact ⟨_, rfl, _, _, _, _, rfl, rfl, q_CHARGES _, (by rfl), _, sp_arrow, rfl, ⟨_, _, _, (by decide), G_arrow, B_arrow, kp_arrow⟩, _, rfl, _, rfl, _, _, rfl, hb, k⟩
end
end HC

namespace HC
open PySem PySem.Spec PyProof.Rows L2
/-! ### groups: middles and half-sides -/
/-- a pair of numbers as a tuple; a list of such -/
def RTup (H : Hp) (v : V) (x : Nat × Nat) : Prop := ∃ b, v = .ref b ∧ H b = some (.tup [vN x.1, vN x.2])
def RMid (H : Hp) (v : V) (xs : List (Nat × Nat)) : Prop := ∃ l us, v = .ref l ∧ H l = some (.lst us) ∧ All2 (RTup H) us xs
def spMid (m : Nat) : Sp := fun vs H Q _ => ∃ n : Nat, vs = [vN n] ∧ 1 ≤ n ∧ n ≤ 10 ∧ ∀ v H', Same H H' → RMid H' v (Sh.middles m n) → Q v H'
section
variable {P : Program} {w : World} {K : PySem.W.Frag} {mg : Str → Option Value} {base : Heap} {d : Ad}
theorem int_nat (x : Nat) : ((x : Nat) : Int) = (x : Int) := rfl
/-- the list so far in a comprehension over range(n): f the pairs -/
structure Cm (H : Hp) (D : Addr) (f : Nat → Nat × Nat) (i : Nat) (H' : Hp) : Prop where
  sm : ∀ b o, b ≠ D → H b = some o → H' b = some o
  ac : ∃ us, H' D = some (.lst us) ∧ us.length = i ∧ All2 (RTup H') us ((List.range i).map f)
theorem Cm.start {H : Hp} {D : Addr} {f : Nat → Nat × Nat} : Cm H D f 0 (upd H D (.lst [])) := ⟨fun b o n h => by rw [upd_ne n]; exact h, [], upd_same, rfl, .nil⟩
theorem RTup.up {H H' : Hp} {v : V} {x : Nat × Nat} (h : RTup H v x) (s : ∀ b o, (∀ ys, o ≠ .lst ys) → H b = some o → H' b = some o) : RTup H' v x := by
  obtain ⟨b, e, ho⟩ := h
  exact ⟨b, e, s b _ (fun ys z => by cases z) ho⟩
theorem Cm.turn {H H' : Hp} {D t : Addr} {f : Nat → Nat × Nat} {i : Nat} (c : Cm H D f i H') (hD : H D = none) (ht : H' t = none) : ∃ us, (upd H' t (.tup [vN (f i).1, vN (f i).2])) D = some (.lst us) ∧ us.length = i ∧
    Cm H D f (i + 1) (upd (upd H' t (.tup [vN (f i).1, vN (f i).2])) D (.lst (us ++ [.ref t]))) := by
  obtain ⟨us, h1, h2, h3⟩ := c.ac
  have nt : D ≠ t := ne_of_none h1 ht
  refine ⟨us, by rw [upd_ne nt]; exact h1, h2, fun b o nb hb => ?_, us ++ [.ref t], upd_same, by rw [List.length_append, h2]; rfl, ?_⟩
  · have h4 := c.sm b o nb hb
    rw [upd_ne nb, upd_ne (ne_of_none h4 ht)]
    exact h4
  · rw [List.range_succ, List.map_append]
    refine (h3.mono fun v x z => z.up fun b o no hb => ?_).snoc ⟨t, rfl, ?_⟩
    · rw [upd_ne (fun e => by rw [e, h1] at hb; cases hb; exact no us rfl), upd_ne (ne_of_none hb ht)]
      exact hb
    · rw [upd_ne nt.symm, upd_same]
theorem Cm.fin {H H' : Hp} {D : Addr} {f : Nat → Nat × Nat} {i : Nat} (c : Cm H D f i H') (hD : H D = none) : Same H H' ∧ RMid H' (.ref D) ((List.range i).map f) :=
  ⟨fun b o h => c.sm b o (ne_of_none h hD) h, let ⟨us, h1, _, h3⟩ := c.ac; ⟨D, us, rfl, h1, h3⟩⟩
theorem vN_div (a k n : Nat) : (V.int ((a : Int) * (2 * (0 + (k : Int)) + 1) / (2 * (n : Int)))) = vN (a * (2 * k + 1) / (2 * n)) := by
  show V.int _ = V.int _
  rw [Int.zero_add, Int.natCast_ediv, Int.natCast_mul, Int.natCast_add, Int.natCast_mul, Int.natCast_mul]
  rfl
theorem mid_le {k n : Nat} (h : k < n) : 480 * (2 * k + 1) / (2 * n) ≤ 480 := by
  refine Nat.div_le_of_le_mul ?_
  have : 2 * k + 1 ≤ 2 * n := by omega
  calc 480 * (2 * k + 1) ≤ 480 * (2 * n) := Nat.mul_le_mul_left _ this
    _ = 2 * n * 480 := Nat.mul_comm _ _
theorem vN_sub {k n : Nat} (h : k < n) : V.int (480 - 480 * (2 * (0 + (k : Int)) + 1) / (2 * (n : Int))) = vN (480 - 480 * (2 * k + 1) / (2 * n)) := by
  have e : (480 : Int) * (2 * (0 + (k : Int)) + 1) / (2 * (n : Int)) = ((480 * (2 * k + 1) / (2 * n) : Nat) : Int) := by
    have := vN_div 480 k n
    injection this
  rw [e]
  show V.int _ = V.int _
  have := mid_le h
  congr 1
  omega
theorem sc_fess_middles : FnScope ["many", "k"] ["many"] (defScope s_fess_middles) := ⟨rfl, rfl, rfl, by decide +kernel, rfl, by decide +kernel, by decide +kernel⟩
theorem ok_fess_middles (T : Txt K mg d) : OkD P w K mg base CX0 4 d.f_fess_middles ["many"] (spMid 1) := by
  obtain ⟨fd, F, B⟩ := T.k_fess_middles.ex
  obtain ⟨⟨fd_across, G_across, B_across⟩, kp_across⟩ := ok_across (P := P) (w := w) (base := base) T
  refine ⟨⟨fd, F.ok sc_fess_middles (fun vs H Q E h => ?_) (fun cdv A outer s H vs Q E hr h => ?_), B⟩, F.kp⟩
  · obtain ⟨n, rfl, _⟩ := h
    rfl
  · obtain ⟨n, rfl, h1, h2, k⟩ := h
    have hr_across : Room 2 _ := hr.mono (by decide)
    refine ⟨_, pss_one (ps_ret (pe_lc (own := [("k", 1)]) (g := gName 1) (tt := tYes) rfl sc_fess_middles.nd (pi_range1 rfl T.b_range (pa_cons (pv 0) pa_nil)) (blkOk_by (N := ["many", "k"]) (sc := defScope s_fess_middles) (by decide +kernel)) (fun _ _ _ _ _ => pg_name (i := 1) sc_fess_middles.nd rfl (Or.inl rfl)) (fun _ _ _ _ _ => pts_nil) (fun _ _ _ _ _ => (pe_tup (pa_cons (pe_call G_across hr_across rfl T.k_across.gl kp_across B_across .nil pass0 (pa_cons (pv 1) (pa_cons (pv 0) pa_nil))) (pa_cons pe_int pa_nil)))))), ?_⟩
    refine ⟨_, rfl, _, rfl, by omega, by omega, fun D hD => ?_⟩
    rw [show Sh.middles 1 n = (List.range n).map (fun k => (480 * (2 * k + 1) / (2 * n), 288)) from rfl] at k
    have hC : (1 : Int) ≤ (n : Int) ∧ (n : Int) ≤ 10 := by omega
    refine lc_range (lo := 0) (n := n) (Cm H D (fun k => (480 * (2 * k + 1) / (2 * n), 288))) Cm.start ?_ (fun H' c => ?_)
    · intro i H' hi c
      refine ⟨rfl, ?_⟩
      unfold tYes
      dsimp only
      rw [if_pos rfl]
      refine ⟨_, rfl, _, rfl, _, _, rfl, hC, (by show 2 ≤ sizeLine; decide), fun t ht => ?_⟩
      obtain ⟨us, z1, z2, z3⟩ := c.turn hD ht
      have e1 : V.int (480 * (2 * (0 + (i : Int)) + 1) / (2 * (n : Int))) = vN (480 * (2 * i + 1) / (2 * n)) := vN_div 480 i n
      have e2 : V.int (576 * (2 * (0 + (i : Int)) + 1) / (2 * (n : Int))) = vN (576 * (2 * i + 1) / (2 * n)) := vN_div 576 i n
      have e3 := vN_sub hi
      have e : [V.int (480 * (2 * (0 + (i : Int)) + 1) / (2 * (n : Int))), V.int 288] = [vN (480 * (2 * i + 1) / (2 * n)), vN (288)] := by
        rw [e1] <;> rfl
      refine ⟨us, ?_, by rw [z2]; exact Nat.lt_of_lt_of_le hi (Nat.le_trans h2 (by decide)), ?_⟩
      · exact (congrArg (fun l => upd H' t (HO.tup l) D) e).trans z1
      · exact (congrArg (fun l => Cm H D _ (i + 1) (upd (upd H' t (HO.tup l)) D _)) e).mpr z3
    · obtain ⟨s, r⟩ := c.fin hD
      exact k _ H' s r
theorem sc_pale_middles : FnScope ["many", "k"] ["many"] (defScope s_pale_middles) := ⟨rfl, rfl, rfl, by decide +kernel, rfl, by decide +kernel, by decide +kernel⟩
theorem ok_pale_middles (T : Txt K mg d) : OkD P w K mg base CX0 4 d.f_pale_middles ["many"] (spMid 2) := by
  obtain ⟨fd, F, B⟩ := T.k_pale_middles.ex
  obtain ⟨⟨fd_down, G_down, B_down⟩, kp_down⟩ := ok_down (P := P) (w := w) (base := base) T
  refine ⟨⟨fd, F.ok sc_pale_middles (fun vs H Q E h => ?_) (fun cdv A outer s H vs Q E hr h => ?_), B⟩, F.kp⟩
  · obtain ⟨n, rfl, _⟩ := h
    rfl
  · obtain ⟨n, rfl, h1, h2, k⟩ := h
    have hr_down : Room 2 _ := hr.mono (by decide)
    refine ⟨_, pss_one (ps_ret (pe_lc (own := [("k", 1)]) (g := gName 1) (tt := tYes) rfl sc_pale_middles.nd (pi_range1 rfl T.b_range (pa_cons (pv 0) pa_nil)) (blkOk_by (N := ["many", "k"]) (sc := defScope s_pale_middles) (by decide +kernel)) (fun _ _ _ _ _ => pg_name (i := 1) sc_pale_middles.nd rfl (Or.inl rfl)) (fun _ _ _ _ _ => pts_nil) (fun _ _ _ _ _ => (pe_tup (pa_cons pe_int (pa_cons (pe_call G_down hr_down rfl T.k_down.gl kp_down B_down .nil pass0 (pa_cons (pv 1) (pa_cons (pv 0) pa_nil))) pa_nil)))))), ?_⟩
    refine ⟨_, rfl, _, rfl, by omega, by omega, fun D hD => ?_⟩
    rw [show Sh.middles 2 n = (List.range n).map (fun k => (240, 576 * (2 * k + 1) / (2 * n))) from rfl] at k
    have hC : (1 : Int) ≤ (n : Int) ∧ (n : Int) ≤ 10 := by omega
    refine lc_range (lo := 0) (n := n) (Cm H D (fun k => (240, 576 * (2 * k + 1) / (2 * n)))) Cm.start ?_ (fun H' c => ?_)
    · intro i H' hi c
      refine ⟨rfl, ?_⟩
      unfold tYes
      dsimp only
      rw [if_pos rfl]
      refine ⟨_, rfl, _, rfl, _, _, rfl, hC, (by show 2 ≤ sizeLine; decide), fun t ht => ?_⟩
      obtain ⟨us, z1, z2, z3⟩ := c.turn hD ht
      have e1 : V.int (480 * (2 * (0 + (i : Int)) + 1) / (2 * (n : Int))) = vN (480 * (2 * i + 1) / (2 * n)) := vN_div 480 i n
      have e2 : V.int (576 * (2 * (0 + (i : Int)) + 1) / (2 * (n : Int))) = vN (576 * (2 * i + 1) / (2 * n)) := vN_div 576 i n
      have e3 := vN_sub hi
      have e : [V.int 240, V.int (576 * (2 * (0 + (i : Int)) + 1) / (2 * (n : Int)))] = [vN (240), vN (576 * (2 * i + 1) / (2 * n))] := by
        rw [e2] <;> rfl
      refine ⟨us, ?_, by rw [z2]; exact Nat.lt_of_lt_of_le hi (Nat.le_trans h2 (by decide)), ?_⟩
      · exact (congrArg (fun l => upd H' t (HO.tup l) D) e).trans z1
      · exact (congrArg (fun l => Cm H D _ (i + 1) (upd (upd H' t (HO.tup l)) D _)) e).mpr z3
    · obtain ⟨s, r⟩ := c.fin hD
      exact k _ H' s r
theorem sc_bend_middles : FnScope ["many", "k"] ["many"] (defScope s_bend_middles) := ⟨rfl, rfl, rfl, by decide +kernel, rfl, by decide +kernel, by decide +kernel⟩
theorem ok_bend_middles (T : Txt K mg d) : OkD P w K mg base CX0 4 d.f_bend_middles ["many"] (spMid 3) := by
  obtain ⟨fd, F, B⟩ := T.k_bend_middles.ex
  obtain ⟨⟨fd_across, G_across, B_across⟩, kp_across⟩ := ok_across (P := P) (w := w) (base := base) T
  obtain ⟨⟨fd_down, G_down, B_down⟩, kp_down⟩ := ok_down (P := P) (w := w) (base := base) T
  refine ⟨⟨fd, F.ok sc_bend_middles (fun vs H Q E h => ?_) (fun cdv A outer s H vs Q E hr h => ?_), B⟩, F.kp⟩
  · obtain ⟨n, rfl, _⟩ := h
    rfl
  · obtain ⟨n, rfl, h1, h2, k⟩ := h
    have hr_across : Room 2 _ := hr.mono (by decide)
    have hr_down : Room 2 _ := hr.mono (by decide)
    refine ⟨_, pss_one (ps_ret (pe_lc (own := [("k", 1)]) (g := gName 1) (tt := tYes) rfl sc_bend_middles.nd (pi_range1 rfl T.b_range (pa_cons (pv 0) pa_nil)) (blkOk_by (N := ["many", "k"]) (sc := defScope s_bend_middles) (by decide +kernel)) (fun _ _ _ _ _ => pg_name (i := 1) sc_bend_middles.nd rfl (Or.inl rfl)) (fun _ _ _ _ _ => pts_nil) (fun _ _ _ _ _ => (pe_tup (pa_cons (pe_call G_across hr_across rfl T.k_across.gl kp_across B_across .nil pass0 (pa_cons (pv 1) (pa_cons (pv 0) pa_nil))) (pa_cons (pe_call G_down hr_down rfl T.k_down.gl kp_down B_down .nil pass0 (pa_cons (pv 1) (pa_cons (pv 0) pa_nil))) pa_nil)))))), ?_⟩
    refine ⟨_, rfl, _, rfl, by omega, by omega, fun D hD => ?_⟩
    rw [show Sh.middles 3 n = (List.range n).map (fun k => (480 * (2 * k + 1) / (2 * n), 576 * (2 * k + 1) / (2 * n))) from rfl] at k
    have hC : (1 : Int) ≤ (n : Int) ∧ (n : Int) ≤ 10 := by omega
    refine lc_range (lo := 0) (n := n) (Cm H D (fun k => (480 * (2 * k + 1) / (2 * n), 576 * (2 * k + 1) / (2 * n)))) Cm.start ?_ (fun H' c => ?_)
    · intro i H' hi c
      refine ⟨rfl, ?_⟩
      unfold tYes
      dsimp only
      rw [if_pos rfl]
      refine ⟨_, rfl, _, rfl, _, _, rfl, hC, _, rfl, _, rfl, _, _, rfl, hC, (by show 2 ≤ sizeLine; decide), fun t ht => ?_⟩
      obtain ⟨us, z1, z2, z3⟩ := c.turn hD ht
      have e1 : V.int (480 * (2 * (0 + (i : Int)) + 1) / (2 * (n : Int))) = vN (480 * (2 * i + 1) / (2 * n)) := vN_div 480 i n
      have e2 : V.int (576 * (2 * (0 + (i : Int)) + 1) / (2 * (n : Int))) = vN (576 * (2 * i + 1) / (2 * n)) := vN_div 576 i n
      have e3 := vN_sub hi
      have e : [V.int (480 * (2 * (0 + (i : Int)) + 1) / (2 * (n : Int))), V.int (576 * (2 * (0 + (i : Int)) + 1) / (2 * (n : Int)))] = [vN (480 * (2 * i + 1) / (2 * n)), vN (576 * (2 * i + 1) / (2 * n))] := by
        rw [e1, e2] <;> rfl
      refine ⟨us, ?_, by rw [z2]; exact Nat.lt_of_lt_of_le hi (Nat.le_trans h2 (by decide)), ?_⟩
      · exact (congrArg (fun l => upd H' t (HO.tup l) D) e).trans z1
      · exact (congrArg (fun l => Cm H D _ (i + 1) (upd (upd H' t (HO.tup l)) D _)) e).mpr z3
    · obtain ⟨s, r⟩ := c.fin hD
      exact k _ H' s r
theorem sc_bend_sinister_middles : FnScope ["many", "k"] ["many"] (defScope s_bend_sinister_middles) := ⟨rfl, rfl, rfl, by decide +kernel, rfl, by decide +kernel, by decide +kernel⟩
theorem ok_bend_sinister_middles (T : Txt K mg d) : OkD P w K mg base CX0 4 d.f_bend_sinister_middles ["many"] (spMid 4) := by
  obtain ⟨fd, F, B⟩ := T.k_bend_sinister_middles.ex
  obtain ⟨⟨fd_down, G_down, B_down⟩, kp_down⟩ := ok_down (P := P) (w := w) (base := base) T
  obtain ⟨⟨fd_across, G_across, B_across⟩, kp_across⟩ := ok_across (P := P) (w := w) (base := base) T
  obtain ⟨c_WIDTH, m_WIDTH⟩ := T.nWIDTH
  refine ⟨⟨fd, F.ok sc_bend_sinister_middles (fun vs H Q E h => ?_) (fun cdv A outer s H vs Q E hr h => ?_), B⟩, F.kp⟩
  · obtain ⟨n, rfl, _⟩ := h
    rfl
  · obtain ⟨n, rfl, h1, h2, k⟩ := h
    have hr_down : Room 2 _ := hr.mono (by decide)
    have hr_across : Room 2 _ := hr.mono (by decide)
    refine ⟨_, pss_one (ps_ret (pe_lc (own := [("k", 1)]) (g := gName 1) (tt := tYes) rfl sc_bend_sinister_middles.nd (pi_range1 rfl T.b_range (pa_cons (pv 0) pa_nil)) (blkOk_by (N := ["many", "k"]) (sc := defScope s_bend_sinister_middles) (by decide +kernel)) (fun _ _ _ _ _ => pg_name (i := 1) sc_bend_sinister_middles.nd rfl (Or.inl rfl)) (fun _ _ _ _ _ => pts_nil) (fun _ _ _ _ _ => (pe_tup (pa_cons (pe_op op_sub (pgi m_WIDTH) (pe_call G_across hr_across rfl T.k_across.gl kp_across B_across .nil pass0 (pa_cons (pv 1) (pa_cons (pv 0) pa_nil)))) (pa_cons (pe_call G_down hr_down rfl T.k_down.gl kp_down B_down .nil pass0 (pa_cons (pv 1) (pa_cons (pv 0) pa_nil))) pa_nil)))))), ?_⟩
    refine ⟨_, rfl, _, rfl, by omega, by omega, fun D hD => ?_⟩
    rw [show Sh.middles 4 n = (List.range n).map (fun k => (480 - 480 * (2 * k + 1) / (2 * n), 576 * (2 * k + 1) / (2 * n))) from rfl] at k
    have hC : (1 : Int) ≤ (n : Int) ∧ (n : Int) ≤ 10 := by omega
    refine lc_range (lo := 0) (n := n) (Cm H D (fun k => (480 - 480 * (2 * k + 1) / (2 * n), 576 * (2 * k + 1) / (2 * n)))) Cm.start ?_ (fun H' c => ?_)
    · intro i H' hi c
      refine ⟨rfl, ?_⟩
      unfold tYes
      dsimp only
      rw [if_pos rfl]
      refine ⟨_, rfl, _, rfl, _, _, rfl, hC, _, _, rfl, rfl, _, rfl, _, rfl, _, _, rfl, hC, (by show 2 ≤ sizeLine; decide), fun t ht => ?_⟩
      obtain ⟨us, z1, z2, z3⟩ := c.turn hD ht
      have e1 : V.int (480 * (2 * (0 + (i : Int)) + 1) / (2 * (n : Int))) = vN (480 * (2 * i + 1) / (2 * n)) := vN_div 480 i n
      have e2 : V.int (576 * (2 * (0 + (i : Int)) + 1) / (2 * (n : Int))) = vN (576 * (2 * i + 1) / (2 * n)) := vN_div 576 i n
      have e3 := vN_sub hi
      have e : [V.int (480 - 480 * (2 * (0 + (i : Int)) + 1) / (2 * (n : Int))), V.int (576 * (2 * (0 + (i : Int)) + 1) / (2 * (n : Int)))] = [vN (480 - 480 * (2 * i + 1) / (2 * n)), vN (576 * (2 * i + 1) / (2 * n))] := by
        rw [e3, e2] <;> rfl
      refine ⟨us, ?_, by rw [z2]; exact Nat.lt_of_lt_of_le hi (Nat.le_trans h2 (by decide)), ?_⟩
      · exact (congrArg (fun l => upd H' t (HO.tup l) D) e).trans z1
      · exact (congrArg (fun l => Cm H D _ (i + 1) (upd (upd H' t (HO.tup l)) D _)) e).mpr z3
    · obtain ⟨s, r⟩ := c.fin hD
      exact k _ H' s r
theorem sc_chief_middles : FnScope ["many", "k"] ["many"] (defScope s_chief_middles) := ⟨rfl, rfl, rfl, by decide +kernel, rfl, by decide +kernel, by decide +kernel⟩
theorem ok_chief_middles (T : Txt K mg d) : OkD P w K mg base CX0 4 d.f_chief_middles ["many"] (spMid 5) := by
  obtain ⟨fd, F, B⟩ := T.k_chief_middles.ex
  obtain ⟨⟨fd_across, G_across, B_across⟩, kp_across⟩ := ok_across (P := P) (w := w) (base := base) T
  refine ⟨⟨fd, F.ok sc_chief_middles (fun vs H Q E h => ?_) (fun cdv A outer s H vs Q E hr h => ?_), B⟩, F.kp⟩
  · obtain ⟨n, rfl, _⟩ := h
    rfl
  · obtain ⟨n, rfl, h1, h2, k⟩ := h
    have hr_across : Room 2 _ := hr.mono (by decide)
    refine ⟨_, pss_one (ps_ret (pe_lc (own := [("k", 1)]) (g := gName 1) (tt := tYes) rfl sc_chief_middles.nd (pi_range1 rfl T.b_range (pa_cons (pv 0) pa_nil)) (blkOk_by (N := ["many", "k"]) (sc := defScope s_chief_middles) (by decide +kernel)) (fun _ _ _ _ _ => pg_name (i := 1) sc_chief_middles.nd rfl (Or.inl rfl)) (fun _ _ _ _ _ => pts_nil) (fun _ _ _ _ _ => (pe_tup (pa_cons (pe_call G_across hr_across rfl T.k_across.gl kp_across B_across .nil pass0 (pa_cons (pv 1) (pa_cons (pv 0) pa_nil))) (pa_cons pe_int pa_nil)))))), ?_⟩
    refine ⟨_, rfl, _, rfl, by omega, by omega, fun D hD => ?_⟩
    rw [show Sh.middles 5 n = (List.range n).map (fun k => (480 * (2 * k + 1) / (2 * n), 80)) from rfl] at k
    have hC : (1 : Int) ≤ (n : Int) ∧ (n : Int) ≤ 10 := by omega
    refine lc_range (lo := 0) (n := n) (Cm H D (fun k => (480 * (2 * k + 1) / (2 * n), 80))) Cm.start ?_ (fun H' c => ?_)
    · intro i H' hi c
      refine ⟨rfl, ?_⟩
      unfold tYes
      dsimp only
      rw [if_pos rfl]
      refine ⟨_, rfl, _, rfl, _, _, rfl, hC, (by show 2 ≤ sizeLine; decide), fun t ht => ?_⟩
      obtain ⟨us, z1, z2, z3⟩ := c.turn hD ht
      have e1 : V.int (480 * (2 * (0 + (i : Int)) + 1) / (2 * (n : Int))) = vN (480 * (2 * i + 1) / (2 * n)) := vN_div 480 i n
      have e2 : V.int (576 * (2 * (0 + (i : Int)) + 1) / (2 * (n : Int))) = vN (576 * (2 * i + 1) / (2 * n)) := vN_div 576 i n
      have e3 := vN_sub hi
      have e : [V.int (480 * (2 * (0 + (i : Int)) + 1) / (2 * (n : Int))), V.int 80] = [vN (480 * (2 * i + 1) / (2 * n)), vN (80)] := by
        rw [e1] <;> rfl
      refine ⟨us, ?_, by rw [z2]; exact Nat.lt_of_lt_of_le hi (Nat.le_trans h2 (by decide)), ?_⟩
      · exact (congrArg (fun l => upd H' t (HO.tup l) D) e).trans z1
      · exact (congrArg (fun l => Cm H D _ (i + 1) (upd (upd H' t (HO.tup l)) D _)) e).mpr z3
    · obtain ⟨s, r⟩ := c.fin hD
      exact k _ H' s r
theorem sc_base_middles : FnScope ["many", "k"] ["many"] (defScope s_base_middles) := ⟨rfl, rfl, rfl, by decide +kernel, rfl, by decide +kernel, by decide +kernel⟩
theorem ok_base_middles (T : Txt K mg d) : OkD P w K mg base CX0 4 d.f_base_middles ["many"] (spMid 6) := by
  obtain ⟨fd, F, B⟩ := T.k_base_middles.ex
  obtain ⟨⟨fd_across, G_across, B_across⟩, kp_across⟩ := ok_across (P := P) (w := w) (base := base) T
  refine ⟨⟨fd, F.ok sc_base_middles (fun vs H Q E h => ?_) (fun cdv A outer s H vs Q E hr h => ?_), B⟩, F.kp⟩
  · obtain ⟨n, rfl, _⟩ := h
    rfl
  · obtain ⟨n, rfl, h1, h2, k⟩ := h
    have hr_across : Room 2 _ := hr.mono (by decide)
    refine ⟨_, pss_one (ps_ret (pe_lc (own := [("k", 1)]) (g := gName 1) (tt := tYes) rfl sc_base_middles.nd (pi_range1 rfl T.b_range (pa_cons (pv 0) pa_nil)) (blkOk_by (N := ["many", "k"]) (sc := defScope s_base_middles) (by decide +kernel)) (fun _ _ _ _ _ => pg_name (i := 1) sc_base_middles.nd rfl (Or.inl rfl)) (fun _ _ _ _ _ => pts_nil) (fun _ _ _ _ _ => (pe_tup (pa_cons (pe_call G_across hr_across rfl T.k_across.gl kp_across B_across .nil pass0 (pa_cons (pv 1) (pa_cons (pv 0) pa_nil))) (pa_cons pe_int pa_nil)))))), ?_⟩
    refine ⟨_, rfl, _, rfl, by omega, by omega, fun D hD => ?_⟩
    rw [show Sh.middles 6 n = (List.range n).map (fun k => (480 * (2 * k + 1) / (2 * n), 504)) from rfl] at k
    have hC : (1 : Int) ≤ (n : Int) ∧ (n : Int) ≤ 10 := by omega
    refine lc_range (lo := 0) (n := n) (Cm H D (fun k => (480 * (2 * k + 1) / (2 * n), 504))) Cm.start ?_ (fun H' c => ?_)
    · intro i H' hi c
      refine ⟨rfl, ?_⟩
      unfold tYes
      dsimp only
      rw [if_pos rfl]
      refine ⟨_, rfl, _, rfl, _, _, rfl, hC, (by show 2 ≤ sizeLine; decide), fun t ht => ?_⟩
      obtain ⟨us, z1, z2, z3⟩ := c.turn hD ht
      have e1 : V.int (480 * (2 * (0 + (i : Int)) + 1) / (2 * (n : Int))) = vN (480 * (2 * i + 1) / (2 * n)) := vN_div 480 i n
      have e2 : V.int (576 * (2 * (0 + (i : Int)) + 1) / (2 * (n : Int))) = vN (576 * (2 * i + 1) / (2 * n)) := vN_div 576 i n
      have e3 := vN_sub hi
      have e : [V.int (480 * (2 * (0 + (i : Int)) + 1) / (2 * (n : Int))), V.int 504] = [vN (480 * (2 * i + 1) / (2 * n)), vN (504)] := by
        rw [e1] <;> rfl
      refine ⟨us, ?_, by rw [z2]; exact Nat.lt_of_lt_of_le hi (Nat.le_trans h2 (by decide)), ?_⟩
      · exact (congrArg (fun l => upd H' t (HO.tup l) D) e).trans z1
      · exact (congrArg (fun l => Cm H D _ (i + 1) (upd (upd H' t (HO.tup l)) D _)) e).mpr z3
    · obtain ⟨s, r⟩ := c.fin hD
      exact k _ H' s r
/-! ### by rows -/
theorem rows_at {a_ROWS b0 b1 b2 b3 b4 b5 b6 b7 b8 b9 : Addr} (r0 : TupK K b0 [.int 1]) (r1 : TupK K b1 [.int 2]) (r2 : TupK K b2 [.int 2, .int 1]) (r3 : TupK K b3 [.int 2, .int 2]) (r4 : TupK K b4 [.int 2, .int 1, .int 2]) (r5 : TupK K b5 [.int 3, .int 2, .int 1])
    (r6 : TupK K b6 [.int 3, .int 3, .int 1]) (r7 : TupK K b7 [.int 3, .int 2, .int 3]) (r8 : TupK K b8 [.int 3, .int 3, .int 3]) (r9 : TupK K b9 [.int 4, .int 3, .int 2, .int 1]) {n : Nat} (h1 : 1 ≤ n) (h2 : n ≤ 10) :
    ∃ b, atI ([.ref b0, .ref b1, .ref b2, .ref b3, .ref b4, .ref b5, .ref b6, .ref b7, .ref b8, .ref b9] : List V) ((n : Int) - 1) = some (.ref b) ∧ TupK K b ((Sh.rowsOf n).map vN) ∧ (∀ c ∈ Sh.rowsOf n, 1 ≤ c ∧ c ≤ 4) ∧ 1 ≤ (Sh.rowsOf n).length ∧ (Sh.rowsOf n).length ≤ 4 := by
  rcases (show n = 1 ∨ n = 2 ∨ n = 3 ∨ n = 4 ∨ n = 5 ∨ n = 6 ∨ n = 7 ∨ n = 8 ∨ n = 9 ∨ n = 10 by omega) with rfl | rfl | rfl | rfl | rfl | rfl | rfl | rfl | rfl | rfl
  · exact ⟨b0, rfl, r0, by decide, by decide, by decide⟩
  · exact ⟨b1, rfl, r1, by decide, by decide, by decide⟩
  · exact ⟨b2, rfl, r2, by decide, by decide, by decide⟩
  · exact ⟨b3, rfl, r3, by decide, by decide, by decide⟩
  · exact ⟨b4, rfl, r4, by decide, by decide, by decide⟩
  · exact ⟨b5, rfl, r5, by decide, by decide, by decide⟩
  · exact ⟨b6, rfl, r6, by decide, by decide, by decide⟩
  · exact ⟨b7, rfl, r7, by decide, by decide, by decide⟩
  · exact ⟨b8, rfl, r8, by decide, by decide, by decide⟩
  · exact ⟨b9, rfl, r9, by decide, by decide, by decide⟩
/-- the list at l holds these pairs, all else of H is as it was -/
structure Rm (H : Hp) (l : Addr) (ys : List (Nat × Nat)) (H' : Hp) : Prop where
  sm : ∀ b o, b ≠ l → H b = some o → H' b = some o
  ac : ∃ us, H' l = some (.lst us) ∧ All2 (RTup H') us ys
theorem Rm.new {H H' : Hp} {l t : Addr} {ys : List (Nat × Nat)} {zs : List V} (r : Rm H l ys H') (ht : H' t = none) : Rm H l ys (upd H' t (.tup zs)) := by
  obtain ⟨us, h1, h3⟩ := r.ac
  refine ⟨fun b o nb hb => ?_, us, by rw [upd_ne (ne_of_none h1 ht)]; exact h1, h3.mono fun v x z => z.up fun b o _ hb => by rw [upd_ne (ne_of_none hb ht)]; exact hb⟩
  have h4 := r.sm b o nb hb
  rw [upd_ne (ne_of_none h4 ht)]
  exact h4
theorem Rm.push {H H' : Hp} {l t : Addr} {ys : List (Nat × Nat)} {y : Nat × Nat} (r : Rm H l ys H') (ht : H' t = some (.tup [vN y.1, vN y.2])) : ∃ us, H' l = some (.lst us) ∧ us.length = ys.length ∧ Rm H l (ys ++ [y]) (upd H' l (.lst (us ++ [.ref t]))) := by
  obtain ⟨us, h1, h3⟩ := r.ac
  have nt : t ≠ l := ne_of ht h1 (by intro z; cases z)
  refine ⟨us, h1, h3.length, fun b o nb hb => ?_, us ++ [.ref t], upd_same, ?_⟩
  · rw [upd_ne nb]
    exact r.sm b o nb hb
  · refine (h3.mono fun v x z => z.up fun b o no hb => ?_).snoc ⟨t, rfl, ?_⟩
    · rw [upd_ne (fun e => by rw [e, h1] at hb; cases hb; exact no us rfl)]
      exact hb
    · rw [upd_ne nt]
      exact ht
/-- the pairs of the i-th of R rows, of c -/
def rowAt (R i c : Nat) : Nat → List (Nat × Nat) := fun m => (List.range m).map fun j => (480 * (2 * j + 1) / (2 * c), 576 * (2 * i + 1) / (2 * R))
def rowsTo (rs : List Nat) (i : Nat) : List (Nat × Nat) := (rs.take i).zipIdx.flatMap fun x => rowAt rs.length x.2 x.1 x.1
theorem rowsTo_all (n : Nat) : Sh.middles 0 n = rowsTo (Sh.rowsOf n) (Sh.rowsOf n).length := by
  unfold rowsTo
  rw [List.take_length]
  rfl
theorem rowsTo_succ {rs : List Nat} {i c : Nat} (h : rs[i]? = some c) : rowsTo rs (i + 1) = rowsTo rs i ++ rowAt rs.length i c c := by
  unfold rowsTo
  obtain ⟨hl, hx⟩ := List.getElem?_eq_some_iff.mp h
  rw [List.take_succ_eq_append_getElem hl, List.zipIdx_append, List.flatMap_append, hx]
  have e : (rs.take i).length = i := by rw [List.length_take]; omega
  simp [e]
theorem rowAt_succ {R i c m : Nat} : rowAt R i c (m + 1) = rowAt R i c m ++ [(480 * (2 * m + 1) / (2 * c), 576 * (2 * i + 1) / (2 * R))] := by
  unfold rowAt
  rw [List.range_succ, List.map_append]
  rfl
theorem sc_row_middles : FnScope ["many", "middles", "deep", "i", "wide", "j"] ["many"] (defScope s_row_middles) := ⟨rfl, rfl, rfl, by decide +kernel, rfl, by decide +kernel, by decide +kernel⟩
theorem ok_row_middles (T : Txt K mg d) : OkD P w K mg base CX0 4 d.f_row_middles ["many"] (spMid 0) := by
  obtain ⟨fd, F, B⟩ := T.k_row_middles.ex
  obtain ⟨⟨fd_across, G_across, B_across⟩, kp_across⟩ := ok_across (P := P) (w := w) (base := base) T
  obtain ⟨⟨fd_down, G_down, B_down⟩, kp_down⟩ := ok_down (P := P) (w := w) (base := base) T
  obtain ⟨a_ROWS, b0, b1, b2, b3, b4, b5, b6, b7, b8, b9, m_ROWS, q_ROWS, r0, r1, r2, r3, r4, r5, r6, r7, r8, r9⟩ := T.tROWS
  refine ⟨⟨fd, F.ok sc_row_middles (fun vs H Q E h => ?_) (fun cdv A outer s H vs Q E hr h => ?_), B⟩, F.kp⟩
  · obtain ⟨n, rfl, _⟩ := h
    rfl
  · obtain ⟨n, rfl, h1, h2, k⟩ := h
    have hr_across : Room 2 _ := hr.mono (by decide)
    have hr_down : Room 2 _ := hr.mono (by decide)
    refine ⟨_, pss_cons (ps_set (i := 1) sc_row_middles.nd rfl (Or.inl rfl) (pe_lst pa_nil))
      (pss_cons (ps_set (i := 2) sc_row_middles.nd rfl (Or.inl rfl) (pe_callB call_len_seq (by rfl) T.b_len PySem.boot_len (pa_cons (pe_ix ix_tup (pe_glob (v := .ref a_ROWS) rfl m_ROWS rfl) (pe_op op_sub (pv 0) pe_int) (fun _ _ => rfl)) pa_nil)))
      (pss_cons (ps_for PassesOwn.never rfl (pi_enumT rfl T.b_enumerate (pa_cons (pe_ix ix_tup (pe_glob (v := .ref a_ROWS) rfl m_ROWS rfl) (pe_op op_sub (pv 0) pe_int) (fun _ _ => rfl)) pa_nil)) (pg_tup rfl (pgs_cons (pg_name (i := 3) sc_row_middles.nd rfl (Or.inl rfl)) (pgs_cons (pg_name (i := 4) sc_row_middles.nd rfl (Or.inl rfl)) pgs_nil)))
        (pss_one (ps_for PassesOwn.never rfl (pi_range1 rfl T.b_range (pa_cons (pv 4) pa_nil)) (pg_name (i := 5) sc_row_middles.nd rfl (Or.inl rfl))
        (pss_one (ps_expr (pe_bm PySem.F.plainAttrs_list PySem.F.slot_list_append PySem.F.type_list_append mt_append (pv 1) (pa_cons (pe_tup (pa_cons (pe_call G_across hr_across rfl T.k_across.gl kp_across B_across .nil pass0 (pa_cons (pv 5) (pa_cons (pv 4) pa_nil))) (pa_cons (pe_call G_down hr_down rfl T.k_down.gl kp_down B_down .nil pass0 (pa_cons (pv 3) (pa_cons (pv 2) pa_nil))) pa_nil))) pa_nil)))))))
      (pss_one (ps_ret (pv 1))))), ?_⟩
    obtain ⟨b, hat, hb, hc, hl1, hl2⟩ := rows_at (a_ROWS := a_ROWS) r0 r1 r2 r3 r4 r5 r6 r7 r8 r9 h1 h2
    refine ⟨Nat.zero_le _, fun l nl => ?_⟩
    refine ⟨_, rfl, _, _, rfl, rfl, _, _, _, _, rfl, rfl, q_ROWS _, hat, _, _, rfl, .inr (hb _), ?_⟩
    refine ⟨_, rfl, _, _, rfl, rfl, _, _, _, _, rfl, rfl, q_ROWS _, hat, b, _, rfl, hb _, ?_⟩
    have hR : (((Sh.rowsOf n).map vN).length : Int) = ((Sh.rowsOf n).length : Int) := by rw [List.length_map]
    have e0 : Rm H l (rowsTo (Sh.rowsOf n) 0) (upd H l (.lst [])) := ⟨fun b o nb hb => by rw [upd_ne nb]; exact hb, [], upd_same, .nil⟩
    refine for_enumT (fun i σ Hc => ∃ v3 v4 v5 : Option V, σ = [some (vN n), some (.ref l), some (.int (((Sh.rowsOf n).map vN).length : Int)), v3, v4, v5] ∧ Rm H l (rowsTo (Sh.rowsOf n) i) Hc ∧ (rowsTo (Sh.rowsOf n) i).length ≤ 4 * i)
      ⟨none, none, none, rfl, e0, Nat.zero_le _⟩ (fun _ _ _ _ => hb _) ?_ ?_
    · rintro i y σ Hc hy ⟨v3, v4, v5, rfl, rm, hlen⟩ T hT
      obtain ⟨c, hci, rfl⟩ : ∃ c, (Sh.rowsOf n)[i]? = some c ∧ y = vN c := by
        rw [List.getElem?_map] at hy
        cases e : (Sh.rowsOf n)[i]? with
        | none => rw [e] at hy; cases hy
        | some c => rw [e] at hy; exact ⟨c, rfl, (Option.some.inj hy).symm⟩
      have hil : i < (Sh.rowsOf n).length := (List.getElem?_eq_some_iff.mp hci).1
      have hcb := hc c (List.mem_of_getElem? hci)
      refine ⟨T, _, rfl, SqT.of upd_same, rfl, _, _, rfl, _, _, rfl, rfl, ?_⟩
      refine ⟨_, rfl, _, rfl, by omega, by omega, ?_⟩
      refine for_range (lo := 0) (n := c) (fun j σ Hc => ∃ v5 : Option V, σ = [some (vN n), some (.ref l), some (.int (((Sh.rowsOf n).map vN).length : Int)), some (vN i), some (vN c), v5] ∧ Rm H l (rowsTo (Sh.rowsOf n) i ++ rowAt (Sh.rowsOf n).length i c j) Hc ∧ (rowsTo (Sh.rowsOf n) i ++ rowAt (Sh.rowsOf n).length i c j).length ≤ 4 * i + j)
        ⟨v5, rfl, by rw [show rowAt (Sh.rowsOf n).length i c 0 = [] from rfl, List.append_nil]; exact rm.new hT, by rw [show rowAt (Sh.rowsOf n).length i c 0 = [] from rfl, List.append_nil]; omega⟩ ?_ ?_
      · rintro j σ Hd hj ⟨v5', rfl, rm2, hlen2⟩
        obtain ⟨us0, hl0, _⟩ := rm2.ac
        refine ⟨_, rfl, .inl ⟨rfl, _, SqL.of hl0⟩, _, rfl, _, rfl, _, _, rfl, (by show (1 : Int) ≤ (c : Int) ∧ (c : Int) ≤ 10; omega), _, rfl, _, rfl, _, _, rfl, (by rw [hR]; omega), (by show 2 ≤ sizeLine; decide), fun t ht => ?_⟩
        have e1 : V.int (480 * (2 * (0 + (j : Int)) + 1) / (2 * (c : Int))) = vN (480 * (2 * j + 1) / (2 * c)) := vN_div 480 j c
        have e2 : V.int (576 * (2 * (i : Int) + 1) / (2 * (((Sh.rowsOf n).map vN).length : Int))) = vN (576 * (2 * i + 1) / (2 * (Sh.rowsOf n).length)) := by
          rw [hR]
          have := vN_div 576 i (Sh.rowsOf n).length
          rw [Int.zero_add] at this
          exact this
        have rm3 := rm2.new (zs := [V.int (480 * (2 * (0 + (j : Int)) + 1) / (2 * (c : Int))), V.int (576 * (2 * (i : Int) + 1) / (2 * (((Sh.rowsOf n).map vN).length : Int)))]) ht
        obtain ⟨us, z1, z2, z3⟩ := rm3.push (t := t) (y := (480 * (2 * j + 1) / (2 * c), 576 * (2 * i + 1) / (2 * (Sh.rowsOf n).length))) (by rw [upd_same, e1, e2])
        refine ⟨l, us, _, rfl, rfl, z1, ?_, ?_⟩
        · rw [z2]
          exact Nat.lt_of_le_of_lt hlen2 (Nat.lt_of_lt_of_le (show 4 * i + j < 100 by omega) (by decide))
        · refine ⟨_, rfl, ?_, ?_⟩
          · rw [rowAt_succ, ← List.append_assoc]
            exact z3
          · rw [rowAt_succ, ← List.append_assoc, List.length_append]
            show _ + 1 ≤ _
            omega
      · rintro σ Hd ⟨v5', rfl, rm2, hlen2⟩
        exact ⟨_, _, _, rfl, by rw [rowsTo_succ hci]; exact rm2, by rw [rowsTo_succ hci]; omega⟩
    · rintro σ Hc ⟨v3, v4, v5, rfl, rm, _⟩
      rw [List.length_map] at rm
      obtain ⟨us, z1, z2⟩ := rm.ac
      refine ⟨_, rfl, k _ Hc (fun b o hb => rm.sm b o (ne_of_none hb nl) hb) ⟨l, us, rfl, z1, ?_⟩⟩
      rw [rowsTo_all]
      exact z2
/-! ### half-sides -/
/-- a half-side before its size -/
def halfOf (m n : Nat) : Nat := if m = 0 then min (240 / (Sh.rowsOf n).foldl max 1) (288 / (Sh.rowsOf n).length) else if m = 1 then min (240 / n) 84 else if m = 2 then min (288 / n) 72 else if m = 3 then min (240 / n) 96 else if m = 4 then min (240 / n) 96 else if m = 5 then min (240 / n) 72 else min (240 / n) 64
abbrev sp_row_half : Sp := spI1 (fun many => 1 ≤ many ∧ many ≤ 10) (fun many => .int (halfOf 0 many.toNat))
theorem sc_row_half : FnScope ["many"] ["many"] (defScope s_row_half) := ⟨rfl, rfl, rfl, by decide +kernel, rfl, by decide +kernel, by decide +kernel⟩
theorem ok_row_half (T : Txt K mg d) : OkD P w K mg base CX0 2 d.f_row_half ["many"] (sp_row_half) := by
  obtain ⟨fd, F, B⟩ := T.k_row_half.ex
  obtain ⟨a_ROWS, b0, b1, b2, b3, b4, b5, b6, b7, b8, b9, m_ROWS, q_ROWS, r0, r1, r2, r3, r4, r5, r6, r7, r8, r9⟩ := T.tROWS
  refine ⟨⟨fd, F.ok sc_row_half (fun vs H Q E h => ?_) (fun cdv A outer s H vs Q E hr h => ?_), B⟩, F.kp⟩
  · obtain ⟨many, rfl, _⟩ := h
    rfl
  · obtain ⟨many, rfl, hC, k⟩ := h
    refine ⟨_, pss_one (ps_ret (pe_callB (call_min2 rfl) (by rfl) T.b_min (by decide +kernel) (pa_cons (pe_op op_fdiv pe_int (pe_callB (cr_maxT rfl hr) (by rfl) T.b_max (by decide +kernel) (pa_cons (pe_ix ix_tup (pe_glob (v := .ref a_ROWS) rfl m_ROWS rfl) (pe_op op_sub (pv 0) pe_int) (fun _ _ => rfl)) pa_nil))) (pa_cons (pe_op op_fdiv pe_int (pe_callB call_len_seq (by rfl) T.b_len PySem.boot_len (pa_cons (pe_ix ix_tup (pe_glob (v := .ref a_ROWS) rfl m_ROWS rfl) (pe_op op_sub (pv 0) pe_int) (fun _ _ => rfl)) pa_nil))) pa_nil)))), ?_⟩
    rcases (show many = 1 ∨ many = 2 ∨ many = 3 ∨ many = 4 ∨ many = 5 ∨ many = 6 ∨ many = 7 ∨ many = 8 ∨ many = 9 ∨ many = 10 by omega) with rfl | rfl | rfl | rfl | rfl | rfl | rfl | rfl | rfl | rfl
    · refine ⟨_, rfl, _, _, rfl, rfl, _, _, _, _, rfl, rfl, q_ROWS _, (by rfl), _, 1, [], rfl, r0 _, _, _, rfl, rfl, ⟨by decide, by decide⟩, _, rfl, _, _, rfl, rfl, _, _, _, _, rfl, rfl, q_ROWS _, (by rfl), _, _, rfl, .inr (r0 _), _, _, rfl, rfl, ⟨by decide, by decide⟩, _, _, rfl, ?_⟩
      exact castI k (by decide)
    · refine ⟨_, rfl, _, _, rfl, rfl, _, _, _, _, rfl, rfl, q_ROWS _, (by rfl), _, 2, [], rfl, r1 _, _, _, rfl, rfl, ⟨by decide, by decide⟩, _, rfl, _, _, rfl, rfl, _, _, _, _, rfl, rfl, q_ROWS _, (by rfl), _, _, rfl, .inr (r1 _), _, _, rfl, rfl, ⟨by decide, by decide⟩, _, _, rfl, ?_⟩
      exact castI k (by decide)
    · refine ⟨_, rfl, _, _, rfl, rfl, _, _, _, _, rfl, rfl, q_ROWS _, (by rfl), _, 2, [1], rfl, r2 _, _, _, rfl, rfl, ⟨by decide, by decide⟩, _, rfl, _, _, rfl, rfl, _, _, _, _, rfl, rfl, q_ROWS _, (by rfl), _, _, rfl, .inr (r2 _), _, _, rfl, rfl, ⟨by decide, by decide⟩, _, _, rfl, ?_⟩
      exact castI k (by decide)
    · refine ⟨_, rfl, _, _, rfl, rfl, _, _, _, _, rfl, rfl, q_ROWS _, (by rfl), _, 2, [2], rfl, r3 _, _, _, rfl, rfl, ⟨by decide, by decide⟩, _, rfl, _, _, rfl, rfl, _, _, _, _, rfl, rfl, q_ROWS _, (by rfl), _, _, rfl, .inr (r3 _), _, _, rfl, rfl, ⟨by decide, by decide⟩, _, _, rfl, ?_⟩
      exact castI k (by decide)
    · refine ⟨_, rfl, _, _, rfl, rfl, _, _, _, _, rfl, rfl, q_ROWS _, (by rfl), _, 2, [1, 2], rfl, r4 _, _, _, rfl, rfl, ⟨by decide, by decide⟩, _, rfl, _, _, rfl, rfl, _, _, _, _, rfl, rfl, q_ROWS _, (by rfl), _, _, rfl, .inr (r4 _), _, _, rfl, rfl, ⟨by decide, by decide⟩, _, _, rfl, ?_⟩
      exact castI k (by decide)
    · refine ⟨_, rfl, _, _, rfl, rfl, _, _, _, _, rfl, rfl, q_ROWS _, (by rfl), _, 3, [2, 1], rfl, r5 _, _, _, rfl, rfl, ⟨by decide, by decide⟩, _, rfl, _, _, rfl, rfl, _, _, _, _, rfl, rfl, q_ROWS _, (by rfl), _, _, rfl, .inr (r5 _), _, _, rfl, rfl, ⟨by decide, by decide⟩, _, _, rfl, ?_⟩
      exact castI k (by decide)
    · refine ⟨_, rfl, _, _, rfl, rfl, _, _, _, _, rfl, rfl, q_ROWS _, (by rfl), _, 3, [3, 1], rfl, r6 _, _, _, rfl, rfl, ⟨by decide, by decide⟩, _, rfl, _, _, rfl, rfl, _, _, _, _, rfl, rfl, q_ROWS _, (by rfl), _, _, rfl, .inr (r6 _), _, _, rfl, rfl, ⟨by decide, by decide⟩, _, _, rfl, ?_⟩
      exact castI k (by decide)
    · refine ⟨_, rfl, _, _, rfl, rfl, _, _, _, _, rfl, rfl, q_ROWS _, (by rfl), _, 3, [2, 3], rfl, r7 _, _, _, rfl, rfl, ⟨by decide, by decide⟩, _, rfl, _, _, rfl, rfl, _, _, _, _, rfl, rfl, q_ROWS _, (by rfl), _, _, rfl, .inr (r7 _), _, _, rfl, rfl, ⟨by decide, by decide⟩, _, _, rfl, ?_⟩
      exact castI k (by decide)
    · refine ⟨_, rfl, _, _, rfl, rfl, _, _, _, _, rfl, rfl, q_ROWS _, (by rfl), _, 3, [3, 3], rfl, r8 _, _, _, rfl, rfl, ⟨by decide, by decide⟩, _, rfl, _, _, rfl, rfl, _, _, _, _, rfl, rfl, q_ROWS _, (by rfl), _, _, rfl, .inr (r8 _), _, _, rfl, rfl, ⟨by decide, by decide⟩, _, _, rfl, ?_⟩
      exact castI k (by decide)
    · refine ⟨_, rfl, _, _, rfl, rfl, _, _, _, _, rfl, rfl, q_ROWS _, (by rfl), _, 4, [3, 2, 1], rfl, r9 _, _, _, rfl, rfl, ⟨by decide, by decide⟩, _, rfl, _, _, rfl, rfl, _, _, _, _, rfl, rfl, q_ROWS _, (by rfl), _, _, rfl, .inr (r9 _), _, _, rfl, rfl, ⟨by decide, by decide⟩, _, _, rfl, ?_⟩
      exact castI k (by decide)
end
end HC


namespace HC
open PySem PySem.Spec PyProof.Rows L2
/-! ### half-sides and groups -/
theorem half_eq : ∀ m < 7, ∀ n < 11, 1 ≤ n → ∀ s < 5, 1 ≤ s → Sh.half m n s = halfOf m n * s / 4 := by decide +kernel
theorem half_hi : ∀ m < 7, ∀ n < 11, 1 ≤ n → ∀ s < 5, 1 ≤ s → Sh.half m n s < 1000 := by decide +kernel
theorem half_lo (m n s : Nat) : 6 ≤ Sh.half m n s := by
  unfold Sh.half
  exact Nat.le_max_left _ _
theorem hv1 : ∀ n : Nat, n < 11 → 1 ≤ n → (if (84 : Int) < 240 / (n : Int) then (84 : Int) else 240 / (n : Int)) = (halfOf 1 n : Int) := by decide +kernel
theorem hv2 : ∀ n : Nat, n < 11 → 1 ≤ n → (if (72 : Int) < 288 / (n : Int) then (72 : Int) else 288 / (n : Int)) = (halfOf 2 n : Int) := by decide +kernel
theorem hv3 : ∀ n : Nat, n < 11 → 1 ≤ n → (if (96 : Int) < 240 / (n : Int) then (96 : Int) else 240 / (n : Int)) = (halfOf 3 n : Int) := by decide +kernel
theorem hv4 : ∀ n : Nat, n < 11 → 1 ≤ n → (if (96 : Int) < 240 / (n : Int) then (96 : Int) else 240 / (n : Int)) = (halfOf 4 n : Int) := by decide +kernel
theorem hv5 : ∀ n : Nat, n < 11 → 1 ≤ n → (if (72 : Int) < 240 / (n : Int) then (72 : Int) else 240 / (n : Int)) = (halfOf 5 n : Int) := by decide +kernel
theorem hv6 : ∀ n : Nat, n < 11 → 1 ≤ n → (if (64 : Int) < 240 / (n : Int) then (64 : Int) else 240 / (n : Int)) = (halfOf 6 n : Int) := by decide +kernel
theorem All2.get {α : Type} {R : V → α → Prop} {vs : List V} {xs : List α} (t : All2 R vs xs) : ∀ {i : Nat} {v : V}, vs[i]? = some v → ∃ x, xs[i]? = some x ∧ R v x := by
  induction t with
  | nil => intro i v h; simp at h
  | cons h' _ ih =>
    intro i v h
    cases i with
    | zero => cases h; exact ⟨_, rfl, h'⟩
    | succ i => exact ih h
section
variable {P : Program} {w : World} {K : PySem.W.Frag} {mg : Str → Option Value} {base : Heap} {d : Ad}
abbrev oGroup (d : Ad) (dx : Addr) (c n m s : Nat) (u : V) : HO := .ins d.cGroup dx ((["charge", "many", "manner", "size", "fill"] : List Str).zip [vN c, vN n, vN m, vN s, u])
def spHalf (d : Ad) : Sp := fun vs H Q _ => ∃ (b dxb : Addr) (c n m s : Nat) (u : V), vs = [.ref b] ∧ H b = some (oGroup d dxb c n m s u) ∧ 1 ≤ n ∧ n ≤ 10 ∧ m ≤ 6 ∧ 1 ≤ s ∧ s ≤ 4 ∧ Q (vN (Sh.half m n s)) H
theorem sc_half_side : FnScope ["group"] ["group"] (defScope s_half_side) := ⟨rfl, rfl, rfl, by decide +kernel, rfl, by decide +kernel, by decide +kernel⟩
theorem ok_half_side (T : Txt K mg d) : OkD P w K mg base CX0 4 d.f_half_side ["group"] (spHalf d) := by
  obtain ⟨fd, F, B⟩ := T.k_half_side.ex
  obtain ⟨a_HALVES, m_HALVES, q_HALVES⟩ := T.tHALVES
  obtain ⟨⟨fd_row_half, G_row_half, B_row_half⟩, kp_row_half⟩ := ok_row_half (P := P) (w := w) (base := base) T
  obtain ⟨⟨fd_fess_half, G_fess_half, B_fess_half⟩, kp_fess_half⟩ := ok_fess_half (P := P) (w := w) (base := base) T
  obtain ⟨⟨fd_pale_half, G_pale_half, B_pale_half⟩, kp_pale_half⟩ := ok_pale_half (P := P) (w := w) (base := base) T
  obtain ⟨⟨fd_bend_half, G_bend_half, B_bend_half⟩, kp_bend_half⟩ := ok_bend_half (P := P) (w := w) (base := base) T
  obtain ⟨⟨fd_chief_half, G_chief_half, B_chief_half⟩, kp_chief_half⟩ := ok_chief_half (P := P) (w := w) (base := base) T
  obtain ⟨⟨fd_base_half, G_base_half, B_base_half⟩, kp_base_half⟩ := ok_base_half (P := P) (w := w) (base := base) T
  refine ⟨⟨fd, F.ok sc_half_side (fun vs H Q E h => ?_) (fun cdv A outer s H vs Q E hr h => ?_), B⟩, F.kp⟩
  · obtain ⟨b, dxb, c, n, m, s, u, rfl, _⟩ := h
    rfl
  · obtain ⟨b, dxb, c, n, m, s', u, rfl, hb, h1, h2, h3, h4, h5, k⟩ := h
    have hr_HALVES : Room 2 _ := hr.mono (by decide)
    refine ⟨_, pss_one (ps_ret (pe_op op_fdiv (pe_op op_mul (pe_callE hr_HALVES (pe_ix ix_tup (pe_glob (v := .ref a_HALVES) rfl m_HALVES rfl) (pe_fld (pv 0) rfl) (fun _ _ => rfl)) (pa_cons (pe_fld (pv 0) rfl) pa_nil)) (pe_fld (pv 0) rfl)) pe_int)), ?_⟩
    have hC : (1 : Int) ≤ (n : Int) ∧ (n : Int) ≤ 10 := by omega
    have cm : CMul ((halfOf m n : Nat) : Int) (s' : Int) := Or.inr ⟨by omega, by omega⟩
    have e : V.int (((halfOf m n : Nat) : Int) * (s' : Int) / 4) = vN (Sh.half m n s') := by
      rw [half_eq m (by omega) n (by omega) h1 s' (by omega) h4]
      rfl
    rcases (show m = 0 ∨ m = 1 ∨ m = 2 ∨ m = 3 ∨ m = 4 ∨ m = 5 ∨ m = 6 by omega) with rfl | rfl | rfl | rfl | rfl | rfl | rfl
    · refine ⟨_, rfl, b, d.cGroup, dxb, _, _, rfl, hb, T.kGroup.cl, T.kGroup.no.2.2.1, look_at _ _ _ 2 rfl (by decide +kernel), _, _, _, _, rfl, rfl, q_HALVES _, (by rfl), _, sp_row_half, rfl, ⟨_, _, _, (by decide), G_row_half, B_row_half, kp_row_half⟩, _, rfl, b, d.cGroup, dxb, _, _, rfl, hb, T.kGroup.cl, T.kGroup.no.2.1, look_at _ _ _ 1 rfl (by decide +kernel), _, rfl, hC, _, rfl, b, d.cGroup, dxb, _, _, rfl, hb, T.kGroup.cl, T.kGroup.no.2.2.2.1, look_at _ _ _ 3 rfl (by decide +kernel), _, _, rfl, rfl, cm, _, _, rfl, rfl, ⟨by decide, by decide⟩, ?_⟩
      exact castI k (V.int.inj e).symm
    · refine ⟨_, rfl, b, d.cGroup, dxb, _, _, rfl, hb, T.kGroup.cl, T.kGroup.no.2.2.1, look_at _ _ _ 2 rfl (by decide +kernel), _, _, _, _, rfl, rfl, q_HALVES _, (by rfl), _, sp_fess_half, rfl, ⟨_, _, _, (by decide), G_fess_half, B_fess_half, kp_fess_half⟩, _, rfl, b, d.cGroup, dxb, _, _, rfl, hb, T.kGroup.cl, T.kGroup.no.2.1, look_at _ _ _ 1 rfl (by decide +kernel), _, rfl, hC, _, rfl, b, d.cGroup, dxb, _, _, rfl, hb, T.kGroup.cl, T.kGroup.no.2.2.2.1, look_at _ _ _ 3 rfl (by decide +kernel), _, _, rfl, rfl, Or.inr ⟨by omega, by omega⟩, _, _, rfl, rfl, ⟨by decide, by decide⟩, ?_⟩
      exact castI k (by rw [hv1 n (by omega) h1]; exact (V.int.inj e).symm)
    · refine ⟨_, rfl, b, d.cGroup, dxb, _, _, rfl, hb, T.kGroup.cl, T.kGroup.no.2.2.1, look_at _ _ _ 2 rfl (by decide +kernel), _, _, _, _, rfl, rfl, q_HALVES _, (by rfl), _, sp_pale_half, rfl, ⟨_, _, _, (by decide), G_pale_half, B_pale_half, kp_pale_half⟩, _, rfl, b, d.cGroup, dxb, _, _, rfl, hb, T.kGroup.cl, T.kGroup.no.2.1, look_at _ _ _ 1 rfl (by decide +kernel), _, rfl, hC, _, rfl, b, d.cGroup, dxb, _, _, rfl, hb, T.kGroup.cl, T.kGroup.no.2.2.2.1, look_at _ _ _ 3 rfl (by decide +kernel), _, _, rfl, rfl, Or.inr ⟨by omega, by omega⟩, _, _, rfl, rfl, ⟨by decide, by decide⟩, ?_⟩
      exact castI k (by rw [hv2 n (by omega) h1]; exact (V.int.inj e).symm)
    · refine ⟨_, rfl, b, d.cGroup, dxb, _, _, rfl, hb, T.kGroup.cl, T.kGroup.no.2.2.1, look_at _ _ _ 2 rfl (by decide +kernel), _, _, _, _, rfl, rfl, q_HALVES _, (by rfl), _, sp_bend_half, rfl, ⟨_, _, _, (by decide), G_bend_half, B_bend_half, kp_bend_half⟩, _, rfl, b, d.cGroup, dxb, _, _, rfl, hb, T.kGroup.cl, T.kGroup.no.2.1, look_at _ _ _ 1 rfl (by decide +kernel), _, rfl, hC, _, rfl, b, d.cGroup, dxb, _, _, rfl, hb, T.kGroup.cl, T.kGroup.no.2.2.2.1, look_at _ _ _ 3 rfl (by decide +kernel), _, _, rfl, rfl, Or.inr ⟨by omega, by omega⟩, _, _, rfl, rfl, ⟨by decide, by decide⟩, ?_⟩
      exact castI k (by rw [hv3 n (by omega) h1]; exact (V.int.inj e).symm)
    · refine ⟨_, rfl, b, d.cGroup, dxb, _, _, rfl, hb, T.kGroup.cl, T.kGroup.no.2.2.1, look_at _ _ _ 2 rfl (by decide +kernel), _, _, _, _, rfl, rfl, q_HALVES _, (by rfl), _, sp_bend_half, rfl, ⟨_, _, _, (by decide), G_bend_half, B_bend_half, kp_bend_half⟩, _, rfl, b, d.cGroup, dxb, _, _, rfl, hb, T.kGroup.cl, T.kGroup.no.2.1, look_at _ _ _ 1 rfl (by decide +kernel), _, rfl, hC, _, rfl, b, d.cGroup, dxb, _, _, rfl, hb, T.kGroup.cl, T.kGroup.no.2.2.2.1, look_at _ _ _ 3 rfl (by decide +kernel), _, _, rfl, rfl, Or.inr ⟨by omega, by omega⟩, _, _, rfl, rfl, ⟨by decide, by decide⟩, ?_⟩
      exact castI k (by rw [hv4 n (by omega) h1]; exact (V.int.inj e).symm)
    · refine ⟨_, rfl, b, d.cGroup, dxb, _, _, rfl, hb, T.kGroup.cl, T.kGroup.no.2.2.1, look_at _ _ _ 2 rfl (by decide +kernel), _, _, _, _, rfl, rfl, q_HALVES _, (by rfl), _, sp_chief_half, rfl, ⟨_, _, _, (by decide), G_chief_half, B_chief_half, kp_chief_half⟩, _, rfl, b, d.cGroup, dxb, _, _, rfl, hb, T.kGroup.cl, T.kGroup.no.2.1, look_at _ _ _ 1 rfl (by decide +kernel), _, rfl, hC, _, rfl, b, d.cGroup, dxb, _, _, rfl, hb, T.kGroup.cl, T.kGroup.no.2.2.2.1, look_at _ _ _ 3 rfl (by decide +kernel), _, _, rfl, rfl, Or.inr ⟨by omega, by omega⟩, _, _, rfl, rfl, ⟨by decide, by decide⟩, ?_⟩
      exact castI k (by rw [hv5 n (by omega) h1]; exact (V.int.inj e).symm)
    · refine ⟨_, rfl, b, d.cGroup, dxb, _, _, rfl, hb, T.kGroup.cl, T.kGroup.no.2.2.1, look_at _ _ _ 2 rfl (by decide +kernel), _, _, _, _, rfl, rfl, q_HALVES _, (by rfl), _, sp_base_half, rfl, ⟨_, _, _, (by decide), G_base_half, B_base_half, kp_base_half⟩, _, rfl, b, d.cGroup, dxb, _, _, rfl, hb, T.kGroup.cl, T.kGroup.no.2.1, look_at _ _ _ 1 rfl (by decide +kernel), _, rfl, hC, _, rfl, b, d.cGroup, dxb, _, _, rfl, hb, T.kGroup.cl, T.kGroup.no.2.2.2.1, look_at _ _ _ 3 rfl (by decide +kernel), _, _, rfl, rfl, Or.inr ⟨by omega, by omega⟩, _, _, rfl, rfl, ⟨by decide, by decide⟩, ?_⟩
      exact castI k (by rw [hv6 n (by omega) h1]; exact (V.int.inj e).symm)
def spGroup (d : Ad) : Sp := fun vs H Q _ => ∃ (b dxb : Addr) (c n m s : Nat) (u : V) (p r : Int), vs = [.ref b, .int p, .int r] ∧ H b = some (oGroup d dxb c n m s u) ∧ c ≤ 15 ∧ 1 ≤ n ∧ n ≤ 10 ∧ m ≤ 6 ∧ 1 ≤ s ∧ s ≤ 4 ∧ ∀ H', Same H H' → Q (.bl (Sh.groupHas c n m s p r)) H'
/-- is the point the charge's at this middle -/
def atMid (c n m s : Nat) (p r : Int) (x : Nat × Nat) : Bool := Sh.chargeHas c ((p - (x.1 : Int)) * 48 / ((Sh.half m n s : Nat) : Int)) ((r - (x.2 : Int)) * 48 / ((Sh.half m n s : Nat) : Int))
theorem group_any (c n m s : Nat) (p r : Int) : Sh.groupHas c n m s p r = (Sh.middles m n).any (atMid c n m s p r) := rfl
theorem any_take {α : Type} {f : α → Bool} {xs : List α} {i : Nat} {x : α} (h : xs[i]? = some x) : (xs.take (i + 1)).any f = ((xs.take i).any f || f x) := by
  obtain ⟨hl, hx⟩ := List.getElem?_eq_some_iff.mp h
  rw [List.take_succ_eq_append_getElem hl, List.any_append, hx]
  simp
theorem any_at {α : Type} {f : α → Bool} {xs : List α} {i : Nat} {x : α} (h : xs[i]? = some x) (hf : f x = true) : xs.any f = true := List.any_eq_true.mpr ⟨x, List.mem_of_getElem? h, hf⟩
theorem sc_group_has : FnScope ["group", "p", "r", "half", "middle"] ["group", "p", "r"] (defScope s_group_has) := ⟨rfl, rfl, rfl, by decide +kernel, rfl, by decide +kernel, by decide +kernel⟩
theorem ok_group_has (T : Txt K mg d) : OkD P w K mg base CX0 6 d.f_group_has ["group", "p", "r"] (spGroup d) := by
  obtain ⟨fd, F, B⟩ := T.k_group_has.ex
  obtain ⟨⟨fd_half_side, G_half_side, B_half_side⟩, kp_half_side⟩ := ok_half_side (P := P) (w := w) (base := base) T
  obtain ⟨a_MIDDLES, m_MIDDLES, q_MIDDLES⟩ := T.tMIDDLES
  obtain ⟨⟨fd_row_middles, G_row_middles, B_row_middles⟩, kp_row_middles⟩ := ok_row_middles (P := P) (w := w) (base := base) T
  obtain ⟨⟨fd_fess_middles, G_fess_middles, B_fess_middles⟩, kp_fess_middles⟩ := ok_fess_middles (P := P) (w := w) (base := base) T
  obtain ⟨⟨fd_pale_middles, G_pale_middles, B_pale_middles⟩, kp_pale_middles⟩ := ok_pale_middles (P := P) (w := w) (base := base) T
  obtain ⟨⟨fd_bend_middles, G_bend_middles, B_bend_middles⟩, kp_bend_middles⟩ := ok_bend_middles (P := P) (w := w) (base := base) T
  obtain ⟨⟨fd_bend_sinister_middles, G_bend_sinister_middles, B_bend_sinister_middles⟩, kp_bend_sinister_middles⟩ := ok_bend_sinister_middles (P := P) (w := w) (base := base) T
  obtain ⟨⟨fd_chief_middles, G_chief_middles, B_chief_middles⟩, kp_chief_middles⟩ := ok_chief_middles (P := P) (w := w) (base := base) T
  obtain ⟨⟨fd_base_middles, G_base_middles, B_base_middles⟩, kp_base_middles⟩ := ok_base_middles (P := P) (w := w) (base := base) T
  obtain ⟨⟨fd_charge_has, G_charge_has, B_charge_has⟩, kp_charge_has⟩ := ok_charge_has (P := P) (w := w) (base := base) T
  obtain ⟨c_REACH, m_REACH⟩ := T.nREACH
  refine ⟨⟨fd, F.ok sc_group_has (fun vs H Q E h => ?_) (fun cdv A outer s H vs Q E hr h => ?_), B⟩, F.kp⟩
  · obtain ⟨b, dxb, c, n, m, s, u, p, r, rfl, _⟩ := h
    rfl
  · obtain ⟨b, dxb, c, n, m, s', u, p, r, rfl, hb, h0, h1, h2, h3, h4, h5, k⟩ := h
    have hr_half_side : Room 4 _ := hr.mono (by decide)
    have hr_MIDDLES : Room 4 _ := hr.mono (by decide)
    have hr_charge_has : Room 3 _ := hr.mono (by decide)
    refine ⟨_, pss_cons (ps_set (i := 3) sc_group_has.nd rfl (Or.inl rfl) (pe_call G_half_side hr_half_side rfl T.k_half_side.gl kp_half_side B_half_side .nil pass0 (pa_cons (pv 0) pa_nil)))
      (pss_cons (ps_for PassesOwn.never rfl (pi_list (pe_callE hr_MIDDLES (pe_ix ix_tup (pe_glob (v := .ref a_MIDDLES) rfl m_MIDDLES rfl) (pe_fld (pv 0) rfl) (fun _ _ => rfl)) (pa_cons (pe_fld (pv 0) rfl) pa_nil))) (pg_name (i := 4) sc_group_has.nd rfl (Or.inl rfl))
        (pss_one (ps_if (pt_val (pe_call G_charge_has hr_charge_has rfl T.k_charge_has.gl kp_charge_has B_charge_has .nil pass0 (pa_cons (pe_fld (pv 0) rfl) (pa_cons (pe_op op_fdiv (pe_op op_mul (pe_op op_sub (pv 1) (pe_ix ix_tup (pv 4) pe_int (fun _ _ => rfl))) (pgi m_REACH)) (pv 3)) (pa_cons (pe_op op_fdiv (pe_op op_mul (pe_op op_sub (pv 2) (pe_ix ix_tup (pv 4) pe_int (fun _ _ => rfl))) (pgi m_REACH)) (pv 3)) pa_nil)))))
        (pss_one (ps_ret pe_bl))
        pss_nil)))
      (pss_one (ps_ret pe_bl))), ?_⟩
    refine ⟨_, rfl, b, dxb, c, n, m, s', u, rfl, hb, h1, h2, h3, h4, h5, ?_⟩
    have bd1 := half_hi m (by omega) n (by omega) h1 s' (by omega) h4
    have bd2 := half_lo m n s'
    rw [group_any] at k
    obtain ⟨f, hat, hfn⟩ : ∃ f, atI ([.ref d.f_row_middles, .ref d.f_fess_middles, .ref d.f_pale_middles, .ref d.f_bend_middles, .ref d.f_bend_sinister_middles, .ref d.f_chief_middles, .ref d.f_base_middles] : List V) ((m : Nat) : Int) = some (.ref f) ∧ ∃ j fd ps, j ≤ 4 ∧ FnOk P w K mg base CX0 j f fd ps (spMid m) ∧ Binds K fd ps [] ∧ PySem.W.keepIn K (.ref f) = true := by
      rcases (show m = 0 ∨ m = 1 ∨ m = 2 ∨ m = 3 ∨ m = 4 ∨ m = 5 ∨ m = 6 by omega) with rfl | rfl | rfl | rfl | rfl | rfl | rfl
      · exact ⟨_, rfl, _, _, _, (by decide), G_row_middles, B_row_middles, kp_row_middles⟩
      · exact ⟨_, rfl, _, _, _, (by decide), G_fess_middles, B_fess_middles, kp_fess_middles⟩
      · exact ⟨_, rfl, _, _, _, (by decide), G_pale_middles, B_pale_middles, kp_pale_middles⟩
      · exact ⟨_, rfl, _, _, _, (by decide), G_bend_middles, B_bend_middles, kp_bend_middles⟩
      · exact ⟨_, rfl, _, _, _, (by decide), G_bend_sinister_middles, B_bend_sinister_middles, kp_bend_sinister_middles⟩
      · exact ⟨_, rfl, _, _, _, (by decide), G_chief_middles, B_chief_middles, kp_chief_middles⟩
      · exact ⟨_, rfl, _, _, _, (by decide), G_base_middles, B_base_middles, kp_base_middles⟩
    refine ⟨_, rfl, b, d.cGroup, dxb, _, _, rfl, hb, T.kGroup.cl, T.kGroup.no.2.2.1, look_at _ _ _ 2 rfl (by decide +kernel), _, _, _, _, rfl, rfl, q_MIDDLES _, hat, f, spMid m, rfl, hfn, _, rfl, b, d.cGroup, dxb, _, _, rfl, hb, T.kGroup.cl, T.kGroup.no.2.1, look_at _ _ _ 1 rfl (by decide +kernel), n, rfl, h1, h2, fun v H1 s1 rm => ?_⟩
    obtain ⟨l, us, rfl, hl, hall⟩ := rm
    replace hb := s1 _ _ hb
    have kk := k H1 s1
    refine ⟨l, rfl, ⟨_, SqL.of hl⟩, for_list (K := K) (a := l) (xs := us) (fun i σ Hc => ∃ v4 : Option V, σ = [some (.ref b), some (.int p), some (.int r), some (vN (Sh.half m n s')), v4] ∧ Hc = H1 ∧ ((Sh.middles m n).take i).any (atMid c n m s' p r) = false) ⟨none, rfl, rfl, rfl⟩ (fun i σ Hc _ ⟨_, _, e, _⟩ => by rw [e]; exact SqL.of hl) ?_ ?_⟩
    · rintro i y σ Hc hy ⟨v4, rfl, e, hany⟩
      subst e
      obtain ⟨x, hx, t, rfl, ht⟩ := hall.get hy
      refine ⟨_, rfl, b, d.cGroup, dxb, _, _, rfl, hb, T.kGroup.cl, T.kGroup.no.1, look_at _ _ _ 0 rfl (by decide +kernel), _, rfl, _, rfl, t, _, _, _, rfl, rfl, SqT.of ht, (by rfl), _, _, rfl, rfl, _, _, rfl, rfl, Or.inr ⟨by decide, by decide⟩, _, rfl, _, _, rfl, rfl, ⟨by omega, by omega⟩, _, rfl, _, rfl, t, _, _, _, rfl, rfl, SqT.of ht, (by rfl), _, _, rfl, rfl, _, _, rfl, rfl, Or.inr ⟨by decide, by decide⟩, _, rfl, _, _, rfl, rfl, ⟨by omega, by omega⟩, _, _, _, rfl, (by omega), _, rfl, ?_⟩
      refine ite2 (fun c1 => ?_) (fun c1 => ?_)
      · have c2 : atMid c n m s' p r x = true := c1
        exact castB kk (any_at hx c2)
      · have c2 : atMid c n m s' p r x = false := Bool.eq_false_iff.mpr c1
        exact ⟨_, rfl, rfl, by rw [any_take hx, hany, c2]; rfl⟩
    · rintro σ Hc ⟨v4, rfl, e, hany⟩
      subst e
      rw [hall.length, List.take_length] at hany
      exact castB kk hany
/-! ### fields at points -/
def firstOf (p r : Int) : Sh.Field → Bool
  | .plain _ => false
  | .parted d l _ _ => Sh.firstAt d l p r
  | .varied v n l _ _ => decide (Sh.pieceAt v (n : Int) l p r % 2 = 0)
theorem dec0 (a : Int) : decide (a = 0) = decide (V.int a = V.int 0) := by
  rw [dec_int, Bool.eq_iff_iff]
  simp
def spFirst (d : Ad) : Sp := fun vs H Q _ => ∃ (v : V) (f : Sh.Field) (H0 : Hp) (p r : Int), vs = [v, .int p, .int r] ∧ RField d H0 H v f ∧ WField f ∧ f.two.isSome = true ∧ Q (.bl (firstOf p r f)) H
theorem sc_has_first : FnScope ["field", "p", "r"] ["field", "p", "r"] (defScope s_has_first) := ⟨rfl, rfl, rfl, by decide +kernel, rfl, by decide +kernel, by decide +kernel⟩
theorem ok_has_first (T : Txt K mg d) : OkD P w K mg base CX0 10 d.f_has_first ["field", "p", "r"] (spFirst d) := by
  obtain ⟨fd, F, B⟩ := T.k_has_first.ex
  obtain ⟨a_PARTINGS, m_PARTINGS, q_PARTINGS⟩ := T.tPARTINGS
  obtain ⟨⟨fd_per_pale, G_per_pale, B_per_pale⟩, kp_per_pale⟩ := ok_per_pale (P := P) (w := w) (base := base) T
  obtain ⟨⟨fd_per_fess, G_per_fess, B_per_fess⟩, kp_per_fess⟩ := ok_per_fess (P := P) (w := w) (base := base) T
  obtain ⟨⟨fd_per_bend, G_per_bend, B_per_bend⟩, kp_per_bend⟩ := ok_per_bend (P := P) (w := w) (base := base) T
  obtain ⟨⟨fd_per_bend_sinister, G_per_bend_sinister, B_per_bend_sinister⟩, kp_per_bend_sinister⟩ := ok_per_bend_sinister (P := P) (w := w) (base := base) T
  obtain ⟨⟨fd_per_chevron, G_per_chevron, B_per_chevron⟩, kp_per_chevron⟩ := ok_per_chevron (P := P) (w := w) (base := base) T
  obtain ⟨⟨fd_per_saltire, G_per_saltire, B_per_saltire⟩, kp_per_saltire⟩ := ok_per_saltire (P := P) (w := w) (base := base) T
  obtain ⟨⟨fd_per_cross, G_per_cross, B_per_cross⟩, kp_per_cross⟩ := ok_per_cross (P := P) (w := w) (base := base) T
  obtain ⟨⟨fd_gyronny, G_gyronny, B_gyronny⟩, kp_gyronny⟩ := ok_gyronny (P := P) (w := w) (base := base) T
  obtain ⟨a_VARIATIONS, m_VARIATIONS, q_VARIATIONS⟩ := T.tVARIATIONS
  obtain ⟨⟨fd_barry, G_barry, B_barry⟩, kp_barry⟩ := ok_barry (P := P) (w := w) (base := base) T
  obtain ⟨⟨fd_paly, G_paly, B_paly⟩, kp_paly⟩ := ok_paly (P := P) (w := w) (base := base) T
  obtain ⟨⟨fd_bendy, G_bendy, B_bendy⟩, kp_bendy⟩ := ok_bendy (P := P) (w := w) (base := base) T
  obtain ⟨⟨fd_bendy_sinister, G_bendy_sinister, B_bendy_sinister⟩, kp_bendy_sinister⟩ := ok_bendy_sinister (P := P) (w := w) (base := base) T
  obtain ⟨⟨fd_chevronny, G_chevronny, B_chevronny⟩, kp_chevronny⟩ := ok_chevronny (P := P) (w := w) (base := base) T
  obtain ⟨⟨fd_chequy, G_chequy, B_chequy⟩, kp_chequy⟩ := ok_chequy (P := P) (w := w) (base := base) T
  obtain ⟨⟨fd_lozengy, G_lozengy, B_lozengy⟩, kp_lozengy⟩ := ok_lozengy (P := P) (w := w) (base := base) T
  refine ⟨⟨fd, F.ok sc_has_first (fun vs H Q E h => ?_) (fun cdv A outer s H vs Q E hr h => ?_), B⟩, F.kp⟩
  · obtain ⟨v, f, H0, p, r, rfl, _⟩ := h
    rfl
  · obtain ⟨v, f, H0, p, r, rfl, hf, hw, h2, k⟩ := h
    have hr_PARTINGS : Room 8 _ := hr.mono (by decide)
    have hr_VARIATIONS : Room 6 _ := hr.mono (by decide)
    refine ⟨_, pss_cons (ps_if (pt_val (pe_callB call_isi (by rfl) T.b_isinstance (by decide +kernel) (pa_cons (pv 0) (pa_cons (pe_glob (v := .ref d.cParted) rfl T.kParted.gl rfl) pa_nil))))
        (pss_one (ps_ret (pe_callE hr_PARTINGS (pe_ix ix_tup (pe_glob (v := .ref a_PARTINGS) rfl m_PARTINGS rfl) (pe_fld (pv 0) rfl) (fun _ _ => rfl)) (pa_cons (pe_fld (pv 0) rfl) (pa_cons (pv 1) (pa_cons (pv 2) pa_nil))))))
        pss_nil)
      (pss_one (ps_ret (pe_cmpR op_eq (pe_op op_mod (pe_callE hr_VARIATIONS (pe_ix ix_tup (pe_glob (v := .ref a_VARIATIONS) rfl m_VARIATIONS rfl) (pe_fld (pv 0) rfl) (fun _ _ => rfl)) (pa_cons (pe_fld (pv 0) rfl) (pa_cons (pe_fld (pv 0) rfl) (pa_cons (pv 1) (pa_cons (pv 2) pa_nil))))) pe_int) pe_int (nomark _)))), ?_⟩
    cases f with
    | plain t => cases h2
    | parted wy l a b' =>
      obtain ⟨b, dxb, rfl, _, hb⟩ := hf
      obtain ⟨w1, w2, _⟩ := hw
      have hC : (0 : Int) ≤ (l : Int) ∧ (l : Int) ≤ 5 := by omega
      refine ⟨_, rfl, _, _, _, _, _, rfl, ClsV.own _, .base (.ins hb T.kParted.cl T.kParted.cla T.gs T.tk T.kParted.mro), T.iParted_Parted, _, rfl, ?_⟩
      refine iteT ?_
      rcases (show wy = 0 ∨ wy = 1 ∨ wy = 2 ∨ wy = 3 ∨ wy = 4 ∨ wy = 5 ∨ wy = 6 ∨ wy = 7 by omega) with rfl | rfl | rfl | rfl | rfl | rfl | rfl | rfl
      · exact ⟨_, rfl, b, d.cParted, dxb, _, _, rfl, hb, T.kParted.cl, T.kParted.no.1, look_at _ _ _ 0 rfl (by decide +kernel), _, _, _, _, rfl, rfl, q_PARTINGS _, (by rfl), _, sp_per_pale, rfl, ⟨_, _, _, (by decide), G_per_pale, B_per_pale, kp_per_pale⟩, _, rfl, b, d.cParted, dxb, _, _, rfl, hb, T.kParted.cl, T.kParted.no.2.1, look_at _ _ _ 1 rfl (by decide +kernel), _, rfl, _, rfl, _, _, _, rfl, hC, k⟩
      · exact ⟨_, rfl, b, d.cParted, dxb, _, _, rfl, hb, T.kParted.cl, T.kParted.no.1, look_at _ _ _ 0 rfl (by decide +kernel), _, _, _, _, rfl, rfl, q_PARTINGS _, (by rfl), _, sp_per_fess, rfl, ⟨_, _, _, (by decide), G_per_fess, B_per_fess, kp_per_fess⟩, _, rfl, b, d.cParted, dxb, _, _, rfl, hb, T.kParted.cl, T.kParted.no.2.1, look_at _ _ _ 1 rfl (by decide +kernel), _, rfl, _, rfl, _, _, _, rfl, hC, k⟩
      · exact ⟨_, rfl, b, d.cParted, dxb, _, _, rfl, hb, T.kParted.cl, T.kParted.no.1, look_at _ _ _ 0 rfl (by decide +kernel), _, _, _, _, rfl, rfl, q_PARTINGS _, (by rfl), _, sp_per_bend, rfl, ⟨_, _, _, (by decide), G_per_bend, B_per_bend, kp_per_bend⟩, _, rfl, b, d.cParted, dxb, _, _, rfl, hb, T.kParted.cl, T.kParted.no.2.1, look_at _ _ _ 1 rfl (by decide +kernel), _, rfl, _, rfl, _, _, _, rfl, hC, k⟩
      · exact ⟨_, rfl, b, d.cParted, dxb, _, _, rfl, hb, T.kParted.cl, T.kParted.no.1, look_at _ _ _ 0 rfl (by decide +kernel), _, _, _, _, rfl, rfl, q_PARTINGS _, (by rfl), _, sp_per_bend_sinister, rfl, ⟨_, _, _, (by decide), G_per_bend_sinister, B_per_bend_sinister, kp_per_bend_sinister⟩, _, rfl, b, d.cParted, dxb, _, _, rfl, hb, T.kParted.cl, T.kParted.no.2.1, look_at _ _ _ 1 rfl (by decide +kernel), _, rfl, _, rfl, _, _, _, rfl, hC, k⟩
      · exact ⟨_, rfl, b, d.cParted, dxb, _, _, rfl, hb, T.kParted.cl, T.kParted.no.1, look_at _ _ _ 0 rfl (by decide +kernel), _, _, _, _, rfl, rfl, q_PARTINGS _, (by rfl), _, sp_per_chevron, rfl, ⟨_, _, _, (by decide), G_per_chevron, B_per_chevron, kp_per_chevron⟩, _, rfl, b, d.cParted, dxb, _, _, rfl, hb, T.kParted.cl, T.kParted.no.2.1, look_at _ _ _ 1 rfl (by decide +kernel), _, rfl, _, rfl, _, _, _, rfl, hC, k⟩
      · exact ⟨_, rfl, b, d.cParted, dxb, _, _, rfl, hb, T.kParted.cl, T.kParted.no.1, look_at _ _ _ 0 rfl (by decide +kernel), _, _, _, _, rfl, rfl, q_PARTINGS _, (by rfl), _, sp_per_saltire, rfl, ⟨_, _, _, (by decide), G_per_saltire, B_per_saltire, kp_per_saltire⟩, _, rfl, b, d.cParted, dxb, _, _, rfl, hb, T.kParted.cl, T.kParted.no.2.1, look_at _ _ _ 1 rfl (by decide +kernel), _, rfl, _, rfl, _, _, _, rfl, hC, k⟩
      · exact ⟨_, rfl, b, d.cParted, dxb, _, _, rfl, hb, T.kParted.cl, T.kParted.no.1, look_at _ _ _ 0 rfl (by decide +kernel), _, _, _, _, rfl, rfl, q_PARTINGS _, (by rfl), _, sp_per_cross, rfl, ⟨_, _, _, (by decide), G_per_cross, B_per_cross, kp_per_cross⟩, _, rfl, b, d.cParted, dxb, _, _, rfl, hb, T.kParted.cl, T.kParted.no.2.1, look_at _ _ _ 1 rfl (by decide +kernel), _, rfl, _, rfl, _, _, _, rfl, hC, k⟩
      · exact ⟨_, rfl, b, d.cParted, dxb, _, _, rfl, hb, T.kParted.cl, T.kParted.no.1, look_at _ _ _ 0 rfl (by decide +kernel), _, _, _, _, rfl, rfl, q_PARTINGS _, (by rfl), _, sp_gyronny, rfl, ⟨_, _, _, (by decide), G_gyronny, B_gyronny, kp_gyronny⟩, _, rfl, b, d.cParted, dxb, _, _, rfl, hb, T.kParted.cl, T.kParted.no.2.1, look_at _ _ _ 1 rfl (by decide +kernel), _, rfl, _, rfl, _, _, _, rfl, hC, k⟩
    | varied wy n l a b' =>
      obtain ⟨b, dxb, rfl, _, hb⟩ := hf
      obtain ⟨w1, w2, w3, w4, _⟩ := hw
      have hC : ((0 : Int) ≤ (l : Int) ∧ (l : Int) ≤ 5 ∧ (0 : Int) ≤ (n : Int) ∧ (n : Int) ≤ 24) := by omega
      refine ⟨_, rfl, _, _, _, _, _, rfl, ClsV.own _, .base (.ins hb T.kVaried.cl T.kVaried.cla T.gs T.tk T.kVaried.mro), T.iVaried_Parted, _, rfl, ?_⟩
      refine iteF ?_
      rcases (show wy = 0 ∨ wy = 1 ∨ wy = 2 ∨ wy = 3 ∨ wy = 4 ∨ wy = 5 ∨ wy = 6 by omega) with rfl | rfl | rfl | rfl | rfl | rfl | rfl
      · refine ⟨_, rfl, b, d.cVaried, dxb, _, _, rfl, hb, T.kVaried.cl, T.kVaried.no.1, look_at _ _ _ 0 rfl (by decide +kernel), _, _, _, _, rfl, rfl, q_VARIATIONS _, (by rfl), _, sp_barry, rfl, ⟨_, _, _, (by decide), G_barry, B_barry, kp_barry⟩, _, rfl, b, d.cVaried, dxb, _, _, rfl, hb, T.kVaried.cl, T.kVaried.no.2.1, look_at _ _ _ 1 rfl (by decide +kernel), _, rfl, b, d.cVaried, dxb, _, _, rfl, hb, T.kVaried.cl, T.kVaried.no.2.2.1, look_at _ _ _ 2 rfl (by decide +kernel), _, rfl, _, rfl, _, _, _, _, rfl, (by first | exact hC | omega), _, _, rfl, rfl, (by show (0 : Int) < 2; decide), rfl, ?_⟩
        exact castB k (dec0 _)
      · refine ⟨_, rfl, b, d.cVaried, dxb, _, _, rfl, hb, T.kVaried.cl, T.kVaried.no.1, look_at _ _ _ 0 rfl (by decide +kernel), _, _, _, _, rfl, rfl, q_VARIATIONS _, (by rfl), _, sp_paly, rfl, ⟨_, _, _, (by decide), G_paly, B_paly, kp_paly⟩, _, rfl, b, d.cVaried, dxb, _, _, rfl, hb, T.kVaried.cl, T.kVaried.no.2.1, look_at _ _ _ 1 rfl (by decide +kernel), _, rfl, b, d.cVaried, dxb, _, _, rfl, hb, T.kVaried.cl, T.kVaried.no.2.2.1, look_at _ _ _ 2 rfl (by decide +kernel), _, rfl, _, rfl, _, _, _, _, rfl, (by first | exact hC | omega), _, _, rfl, rfl, (by show (0 : Int) < 2; decide), rfl, ?_⟩
        exact castB k (dec0 _)
      · refine ⟨_, rfl, b, d.cVaried, dxb, _, _, rfl, hb, T.kVaried.cl, T.kVaried.no.1, look_at _ _ _ 0 rfl (by decide +kernel), _, _, _, _, rfl, rfl, q_VARIATIONS _, (by rfl), _, sp_bendy, rfl, ⟨_, _, _, (by decide), G_bendy, B_bendy, kp_bendy⟩, _, rfl, b, d.cVaried, dxb, _, _, rfl, hb, T.kVaried.cl, T.kVaried.no.2.1, look_at _ _ _ 1 rfl (by decide +kernel), _, rfl, b, d.cVaried, dxb, _, _, rfl, hb, T.kVaried.cl, T.kVaried.no.2.2.1, look_at _ _ _ 2 rfl (by decide +kernel), _, rfl, _, rfl, _, _, _, _, rfl, (by first | exact hC | omega), _, _, rfl, rfl, (by show (0 : Int) < 2; decide), rfl, ?_⟩
        exact castB k (dec0 _)
      · refine ⟨_, rfl, b, d.cVaried, dxb, _, _, rfl, hb, T.kVaried.cl, T.kVaried.no.1, look_at _ _ _ 0 rfl (by decide +kernel), _, _, _, _, rfl, rfl, q_VARIATIONS _, (by rfl), _, sp_bendy_sinister, rfl, ⟨_, _, _, (by decide), G_bendy_sinister, B_bendy_sinister, kp_bendy_sinister⟩, _, rfl, b, d.cVaried, dxb, _, _, rfl, hb, T.kVaried.cl, T.kVaried.no.2.1, look_at _ _ _ 1 rfl (by decide +kernel), _, rfl, b, d.cVaried, dxb, _, _, rfl, hb, T.kVaried.cl, T.kVaried.no.2.2.1, look_at _ _ _ 2 rfl (by decide +kernel), _, rfl, _, rfl, _, _, _, _, rfl, (by first | exact hC | omega), _, _, rfl, rfl, (by show (0 : Int) < 2; decide), rfl, ?_⟩
        exact castB k (dec0 _)
      · refine ⟨_, rfl, b, d.cVaried, dxb, _, _, rfl, hb, T.kVaried.cl, T.kVaried.no.1, look_at _ _ _ 0 rfl (by decide +kernel), _, _, _, _, rfl, rfl, q_VARIATIONS _, (by rfl), _, sp_chevronny, rfl, ⟨_, _, _, (by decide), G_chevronny, B_chevronny, kp_chevronny⟩, _, rfl, b, d.cVaried, dxb, _, _, rfl, hb, T.kVaried.cl, T.kVaried.no.2.1, look_at _ _ _ 1 rfl (by decide +kernel), _, rfl, b, d.cVaried, dxb, _, _, rfl, hb, T.kVaried.cl, T.kVaried.no.2.2.1, look_at _ _ _ 2 rfl (by decide +kernel), _, rfl, _, rfl, _, _, _, _, rfl, (by first | exact hC | omega), _, _, rfl, rfl, (by show (0 : Int) < 2; decide), rfl, ?_⟩
        exact castB k (dec0 _)
      · refine ⟨_, rfl, b, d.cVaried, dxb, _, _, rfl, hb, T.kVaried.cl, T.kVaried.no.1, look_at _ _ _ 0 rfl (by decide +kernel), _, _, _, _, rfl, rfl, q_VARIATIONS _, (by rfl), _, sp_chequy, rfl, ⟨_, _, _, (by decide), G_chequy, B_chequy, kp_chequy⟩, _, rfl, b, d.cVaried, dxb, _, _, rfl, hb, T.kVaried.cl, T.kVaried.no.2.1, look_at _ _ _ 1 rfl (by decide +kernel), _, rfl, b, d.cVaried, dxb, _, _, rfl, hb, T.kVaried.cl, T.kVaried.no.2.2.1, look_at _ _ _ 2 rfl (by decide +kernel), _, rfl, _, rfl, _, _, _, _, rfl, (by first | exact hC | omega), _, _, rfl, rfl, (by show (0 : Int) < 2; decide), rfl, ?_⟩
        exact castB k (dec0 _)
      · refine ⟨_, rfl, b, d.cVaried, dxb, _, _, rfl, hb, T.kVaried.cl, T.kVaried.no.1, look_at _ _ _ 0 rfl (by decide +kernel), _, _, _, _, rfl, rfl, q_VARIATIONS _, (by rfl), _, sp_lozengy, rfl, ⟨_, _, _, (by decide), G_lozengy, B_lozengy, kp_lozengy⟩, _, rfl, b, d.cVaried, dxb, _, _, rfl, hb, T.kVaried.cl, T.kVaried.no.2.1, look_at _ _ _ 1 rfl (by decide +kernel), _, rfl, b, d.cVaried, dxb, _, _, rfl, hb, T.kVaried.cl, T.kVaried.no.2.2.1, look_at _ _ _ 2 rfl (by decide +kernel), _, rfl, _, rfl, _, _, _, _, rfl, (by first | exact hC | omega), _, _, rfl, rfl, (by show (0 : Int) < 2; decide), rfl, ?_⟩
        exact castB k (dec0 _)
theorem at_two {f : Sh.Field} {p r : Int} {x : Nat × Nat} (h : f.two = some x) : f.at_ p r = if firstOf p r f = true then x.1 else x.2 := by
  cases f with
  | plain t => cases h
  | parted d l a b => cases h; rfl
  | varied v n l a b =>
    cases h
    show (if Sh.pieceAt v (n : Int) l p r % 2 = 0 then a else b) = if decide (Sh.pieceAt v (n : Int) l p r % 2 = 0) = true then a else b
    by_cases c : Sh.pieceAt v (n : Int) l p r % 2 = 0
    · rw [if_pos c, if_pos (decide_eq_true c)]
    · rw [if_neg c, if_neg (by rw [decide_eq_false c]; decide)]
theorem counter_two {f : Sh.Field} {p r : Int} {x : Nat × Nat} (h : f.two = some x) (hw : WField f) : Sh.Fill.at_ .counter f p r = if firstOf p r f = true then x.2 else x.1 := by
  have hne : x.1 ≠ x.2 := by
    cases f with
    | plain t => cases h
    | parted d l a b => cases h; exact hw.2.2
    | varied v n l a b => cases h; exact hw.2.2.2.2
  show (match f.two with
    | some x => if f.at_ p r = x.1 then x.2 else x.1
    | none => f.at_ p r) = _
  rw [h, at_two h]
  dsimp only
  by_cases c : firstOf p r f = true
  · rw [if_pos c, if_pos rfl, if_pos c]
  · rw [if_neg c, if_neg (Ne.symm hne), if_neg c]
def spTinct (d : Ad) : Sp := fun vs H Q _ => ∃ (v : V) (f : Sh.Field) (H0 : Hp) (p r : Int), vs = [v, .int p, .int r] ∧ RField d H0 H v f ∧ WField f ∧ Q (vN (f.at_ p r)) H
theorem castN {Q : VK} {H : Hp} {a b : Nat} (k : Q (vN a) H) (e : a = b) : Q (vN b) H := e ▸ k
theorem sc_field_tincture : FnScope ["field", "p", "r"] ["field", "p", "r"] (defScope s_field_tincture) := ⟨rfl, rfl, rfl, by decide +kernel, rfl, by decide +kernel, by decide +kernel⟩
theorem ok_field_tincture (T : Txt K mg d) : OkD P w K mg base CX0 11 d.f_field_tincture ["field", "p", "r"] (spTinct d) := by
  obtain ⟨fd, F, B⟩ := T.k_field_tincture.ex
  obtain ⟨⟨fd_has_first, G_has_first, B_has_first⟩, kp_has_first⟩ := ok_has_first (P := P) (w := w) (base := base) T
  refine ⟨⟨fd, F.ok sc_field_tincture (fun vs H Q E h => ?_) (fun cdv A outer s H vs Q E hr h => ?_), B⟩, F.kp⟩
  · obtain ⟨v, f, H0, p, r, rfl, _⟩ := h
    rfl
  · obtain ⟨v, f, H0, p, r, rfl, hf, hw, k⟩ := h
    have hr_has_first : Room 10 _ := hr.mono (by decide)
    refine ⟨_, pss_cons (ps_if (pt_val (pe_callB call_isi (by rfl) T.b_isinstance (by decide +kernel) (pa_cons (pv 0) (pa_cons (pe_glob (v := .ref d.cPlain) rfl T.kPlain.gl rfl) pa_nil))))
        (pss_one (ps_ret (pe_fld (pv 0) rfl)))
        pss_nil)
      (pss_one (ps_ret (pe_ifExp (pt_val (pe_call G_has_first hr_has_first rfl T.k_has_first.gl kp_has_first B_has_first .nil pass0 (pa_cons (pv 0) (pa_cons (pv 1) (pa_cons (pv 2) pa_nil))))) (pe_fld (pv 0) rfl) (pe_fld (pv 0) rfl)))), ?_⟩
    have hf' := hf
    cases f with
    | plain t =>
      obtain ⟨b, dxb, rfl, _, hb⟩ := hf
      refine ⟨_, rfl, _, _, _, _, _, rfl, ClsV.own _, .base (.ins hb T.kPlain.cl T.kPlain.cla T.gs T.tk T.kPlain.mro), T.iPlain_Plain, _, rfl, ?_⟩
      refine iteT ?_
      exact ⟨_, rfl, b, d.cPlain, dxb, _, _, rfl, hb, T.kPlain.cl, T.kPlain.no.1, look_at _ _ _ 0 rfl (by decide +kernel), k⟩
    | parted wy l a b' =>
      obtain ⟨b, dxb, rfl, _, hb⟩ := hf
      refine ⟨_, rfl, _, _, _, _, _, rfl, ClsV.own _, .base (.ins hb T.kParted.cl T.kParted.cla T.gs T.tk T.kParted.mro), T.iParted_Plain, _, rfl, ?_⟩
      refine iteF ?_
      refine ⟨_, rfl, _, rfl, _, rfl, _, _, H0, p, r, rfl, hf', hw, rfl, _, rfl, ?_⟩
      refine ite2 (fun c => ?_) (fun c => ?_)
      · exact ⟨_, rfl, b, d.cParted, dxb, _, _, rfl, hb, T.kParted.cl, T.kParted.no.2.2.1, look_at _ _ _ 2 rfl (by decide +kernel), castN k (by rw [at_two rfl, if_pos c])⟩
      · exact ⟨_, rfl, b, d.cParted, dxb, _, _, rfl, hb, T.kParted.cl, T.kParted.no.2.2.2.1, look_at _ _ _ 3 rfl (by decide +kernel), castN k (by rw [at_two rfl, if_neg c])⟩
    | varied wy n l a b' =>
      obtain ⟨b, dxb, rfl, _, hb⟩ := hf
      refine ⟨_, rfl, _, _, _, _, _, rfl, ClsV.own _, .base (.ins hb T.kVaried.cl T.kVaried.cla T.gs T.tk T.kVaried.mro), T.iVaried_Plain, _, rfl, ?_⟩
      refine iteF ?_
      refine ⟨_, rfl, _, rfl, _, rfl, _, _, H0, p, r, rfl, hf', hw, rfl, _, rfl, ?_⟩
      refine ite2 (fun c => ?_) (fun c => ?_)
      · exact ⟨_, rfl, b, d.cVaried, dxb, _, _, rfl, hb, T.kVaried.cl, T.kVaried.no.2.2.2.1, look_at _ _ _ 3 rfl (by decide +kernel), castN k (by rw [at_two rfl, if_pos c])⟩
      · exact ⟨_, rfl, b, d.cVaried, dxb, _, _, rfl, hb, T.kVaried.cl, T.kVaried.no.2.2.2.2.1, look_at _ _ _ 4 rfl (by decide +kernel), castN k (by rw [at_two rfl, if_neg c])⟩
def spCounter (d : Ad) : Sp := fun vs H Q _ => ∃ (v : V) (f : Sh.Field) (H0 : Hp) (p r : Int), vs = [v, .int p, .int r] ∧ RField d H0 H v f ∧ WField f ∧ f.two.isSome = true ∧ Q (vN (Sh.Fill.at_ .counter f p r)) H
theorem sc_counterchanged_tincture : FnScope ["field", "p", "r"] ["field", "p", "r"] (defScope s_counterchanged_tincture) := ⟨rfl, rfl, rfl, by decide +kernel, rfl, by decide +kernel, by decide +kernel⟩
theorem ok_counterchanged_tincture (T : Txt K mg d) : OkD P w K mg base CX0 11 d.f_counterchanged_tincture ["field", "p", "r"] (spCounter d) := by
  obtain ⟨fd, F, B⟩ := T.k_counterchanged_tincture.ex
  obtain ⟨⟨fd_has_first, G_has_first, B_has_first⟩, kp_has_first⟩ := ok_has_first (P := P) (w := w) (base := base) T
  refine ⟨⟨fd, F.ok sc_counterchanged_tincture (fun vs H Q E h => ?_) (fun cdv A outer s H vs Q E hr h => ?_), B⟩, F.kp⟩
  · obtain ⟨v, f, H0, p, r, rfl, _⟩ := h
    rfl
  · obtain ⟨v, f, H0, p, r, rfl, hf, hw, h2, k⟩ := h
    have hr_has_first : Room 10 _ := hr.mono (by decide)
    refine ⟨_, pss_one (ps_ret (pe_ifExp (pt_val (pe_call G_has_first hr_has_first rfl T.k_has_first.gl kp_has_first B_has_first .nil pass0 (pa_cons (pv 0) (pa_cons (pv 1) (pa_cons (pv 2) pa_nil))))) (pe_fld (pv 0) rfl) (pe_fld (pv 0) rfl))), ?_⟩
    refine ⟨_, rfl, _, rfl, _, rfl, v, f, H0, p, r, rfl, hf, hw, h2, _, rfl, ?_⟩
    cases f with
    | plain t => cases h2
    | parted wy l a b' =>
      obtain ⟨b, dxb, rfl, _, hb⟩ := hf
      refine ite2 (fun c => ?_) (fun c => ?_)
      · exact ⟨_, rfl, b, d.cParted, dxb, _, _, rfl, hb, T.kParted.cl, T.kParted.no.2.2.2.1, look_at _ _ _ 3 rfl (by decide +kernel), castN k (by rw [counter_two rfl hw, if_pos c])⟩
      · exact ⟨_, rfl, b, d.cParted, dxb, _, _, rfl, hb, T.kParted.cl, T.kParted.no.2.2.1, look_at _ _ _ 2 rfl (by decide +kernel), castN k (by rw [counter_two rfl hw, if_neg c])⟩
    | varied wy n l a b' =>
      obtain ⟨b, dxb, rfl, _, hb⟩ := hf
      refine ite2 (fun c => ?_) (fun c => ?_)
      · exact ⟨_, rfl, b, d.cVaried, dxb, _, _, rfl, hb, T.kVaried.cl, T.kVaried.no.2.2.2.2.1, look_at _ _ _ 4 rfl (by decide +kernel), castN k (by rw [counter_two rfl hw, if_pos c])⟩
      · exact ⟨_, rfl, b, d.cVaried, dxb, _, _, rfl, hb, T.kVaried.cl, T.kVaried.no.2.2.2.1, look_at _ _ _ 3 rfl (by decide +kernel), castN k (by rw [counter_two rfl hw, if_neg c])⟩
end
end HC


namespace HC
open PySem PySem.Spec PyProof.Rows L2
section
variable {P : Program} {w : World} {K : PySem.W.Frag} {mg : Str → Option Value} {base : Heap} {d : Ad}
/-! ### layers and arms at points -/
def spLHas (d : Ad) : Sp := fun vs H Q _ => ∃ (v : V) (x : Sh.Layer) (f : Sh.Field) (H0 : Hp) (p r : Int), vs = [v, .int p, .int r] ∧ RLayer d H0 H v x ∧ WLayer f x ∧ ∀ H', Same H H' → Q (.bl (x.has p r)) H'
theorem sc_layer_has : FnScope ["layer", "p", "r"] ["layer", "p", "r"] (defScope s_layer_has) := ⟨rfl, rfl, rfl, by decide +kernel, rfl, by decide +kernel, by decide +kernel⟩
theorem ok_layer_has (T : Txt K mg d) : OkD P w K mg base CX0 9 d.f_layer_has ["layer", "p", "r"] (spLHas d) := by
  obtain ⟨fd, F, B⟩ := T.k_layer_has.ex
  obtain ⟨⟨fd_group_has, G_group_has, B_group_has⟩, kp_group_has⟩ := ok_group_has (P := P) (w := w) (base := base) T
  obtain ⟨⟨fd_ordinary_has, G_ordinary_has, B_ordinary_has⟩, kp_ordinary_has⟩ := ok_ordinary_has (P := P) (w := w) (base := base) T
  refine ⟨⟨fd, F.ok sc_layer_has (fun vs H Q E h => ?_) (fun cdv A outer s H vs Q E hr h => ?_), B⟩, F.kp⟩
  · obtain ⟨v, x, f, H0, p, r, rfl, _⟩ := h
    rfl
  · obtain ⟨v, x, f, H0, p, r, rfl, hx, hw, k⟩ := h
    have hr_group_has : Room 6 _ := hr.mono (by decide)
    have hr_ordinary_has : Room 7 _ := hr.mono (by decide)
    refine ⟨_, pss_cons (ps_if (pt_val (pe_callB call_isi (by rfl) T.b_isinstance (by decide +kernel) (pa_cons (pv 0) (pa_cons (pe_glob (v := .ref d.cOrdinary) rfl T.kOrdinary.gl rfl) pa_nil))))
        (pss_one (ps_ret (pe_call G_ordinary_has hr_ordinary_has rfl T.k_ordinary_has.gl kp_ordinary_has B_ordinary_has .nil pass0 (pa_cons (pe_fld (pv 0) rfl) (pa_cons (pe_fld (pv 0) rfl) (pa_cons (pv 1) (pa_cons (pv 2) pa_nil)))))))
        pss_nil)
      (pss_one (ps_ret (pe_call G_group_has hr_group_has rfl T.k_group_has.gl kp_group_has B_group_has .nil pass0 (pa_cons (pv 0) (pa_cons (pv 1) (pa_cons (pv 2) pa_nil)))))), ?_⟩
    cases x with
    | ord o l g =>
      obtain ⟨u, ⟨b, dxb, rfl, _, hb⟩, _⟩ := hx
      obtain ⟨w1, w2, _⟩ := hw
      refine ⟨_, rfl, _, _, _, _, _, rfl, ClsV.own _, .base (.ins hb T.kOrdinary.cl T.kOrdinary.cla T.gs T.tk T.kOrdinary.mro), T.iOrdinary_Ordinary, _, rfl, ?_⟩
      refine iteT ?_
      exact ⟨_, rfl, b, d.cOrdinary, dxb, _, _, rfl, hb, T.kOrdinary.cl, T.kOrdinary.no.1, look_at _ _ _ 0 rfl (by decide +kernel), _, rfl, b, d.cOrdinary, dxb, _, _, rfl, hb, T.kOrdinary.cl, T.kOrdinary.no.2.1, look_at _ _ _ 1 rfl (by decide +kernel), _, rfl, _, rfl, _, _, _, _, rfl, (by omega), k H (Same.refl H)⟩
    | group c n m s' g =>
      obtain ⟨u, ⟨b, dxb, rfl, _, hb⟩, _⟩ := hx
      obtain ⟨w1, w2, w3, w4, w5, w6, _⟩ := hw
      refine ⟨_, rfl, _, _, _, _, _, rfl, ClsV.own _, .base (.ins hb T.kGroup.cl T.kGroup.cla T.gs T.tk T.kGroup.mro), T.iGroup_Ordinary, _, rfl, ?_⟩
      refine iteF ?_
      exact ⟨_, rfl, _, rfl, _, rfl, b, dxb, c, n, m, s', u, p, r, rfl, hb, w1, w2, w3, w4, w5, w6, k⟩
def spLTin (d : Ad) : Sp := fun vs H Q _ => ∃ (v vf : V) (x : Sh.Layer) (f : Sh.Field) (H0 H1 : Hp) (p r : Int), vs = [v, vf, .int p, .int r] ∧ RLayer d H0 H v x ∧ WLayer f x ∧ RField d H1 H vf f ∧ WField f ∧ Q (vN (x.fill.at_ f p r)) H
theorem sc_layer_tincture : FnScope ["layer", "field", "p", "r"] ["layer", "field", "p", "r"] (defScope s_layer_tincture) := ⟨rfl, rfl, rfl, by decide +kernel, rfl, by decide +kernel, by decide +kernel⟩
theorem ok_layer_tincture (T : Txt K mg d) : OkD P w K mg base CX0 12 d.f_layer_tincture ["layer", "field", "p", "r"] (spLTin d) := by
  obtain ⟨fd, F, B⟩ := T.k_layer_tincture.ex
  obtain ⟨⟨fd_field_tincture, G_field_tincture, B_field_tincture⟩, kp_field_tincture⟩ := ok_field_tincture (P := P) (w := w) (base := base) T
  obtain ⟨⟨fd_counterchanged_tincture, G_counterchanged_tincture, B_counterchanged_tincture⟩, kp_counterchanged_tincture⟩ := ok_counterchanged_tincture (P := P) (w := w) (base := base) T
  refine ⟨⟨fd, F.ok sc_layer_tincture (fun vs H Q E h => ?_) (fun cdv A outer s H vs Q E hr h => ?_), B⟩, F.kp⟩
  · obtain ⟨v, vf, x, f, H0, H1, p, r, rfl, _⟩ := h
    rfl
  · obtain ⟨v, vf, x, f, H0, H1, p, r, rfl, hx, hw, hf, hwf, k⟩ := h
    have hr_field_tincture : Room 11 _ := hr.mono (by decide)
    have hr_counterchanged_tincture : Room 11 _ := hr.mono (by decide)
    refine ⟨_, pss_cons (ps_if (pt_cmp (pc_isN (pe_fld (pv 0) rfl)))
        (pss_one (ps_ret (pe_call G_counterchanged_tincture hr_counterchanged_tincture rfl T.k_counterchanged_tincture.gl kp_counterchanged_tincture B_counterchanged_tincture .nil pass0 (pa_cons (pv 1) (pa_cons (pv 2) (pa_cons (pv 3) pa_nil))))))
        pss_nil)
      (pss_one (ps_ret (pe_call G_field_tincture hr_field_tincture rfl T.k_field_tincture.gl kp_field_tincture B_field_tincture .nil pass0 (pa_cons (pe_fld (pv 0) rfl) (pa_cons (pv 2) (pa_cons (pv 3) pa_nil)))))), ?_⟩
    cases x with
    | ord o l g =>
      obtain ⟨u, ⟨b, dxb, rfl, _, hb⟩, hu⟩ := hx
      obtain ⟨w1, w2, w3⟩ := hw
      refine ⟨_, rfl, b, d.cOrdinary, dxb, _, _, rfl, hb, T.kOrdinary.cl, T.kOrdinary.no.2.2.1, look_at _ _ _ 2 rfl (by decide +kernel), _, rfl, ?_⟩
      cases g with
      | counter =>
        cases (show u = .non from hu)
        refine iteT ?_
        exact ⟨_, rfl, _, rfl, _, rfl, vf, f, H1, p, r, rfl, hf, hwf, w3, k⟩
      | solid g =>
        have hn : ¬ u = .non := fun e => by
          subst e
          cases g <;> (obtain ⟨_, _, z, _⟩ := hu; cases z)
        rw [decide_eq_false hn]
        refine iteF ?_
        exact ⟨_, rfl, b, d.cOrdinary, dxb, _, _, rfl, hb, T.kOrdinary.cl, T.kOrdinary.no.2.2.1, look_at _ _ _ 2 rfl (by decide +kernel), _, rfl, _, rfl, u, g, H0, p, r, rfl, hu, w3, k⟩
    | group c n m s' g =>
      obtain ⟨u, ⟨b, dxb, rfl, _, hb⟩, hu⟩ := hx
      obtain ⟨w1, w2, w3, w4, w5, w6, w7⟩ := hw
      refine ⟨_, rfl, b, d.cGroup, dxb, _, _, rfl, hb, T.kGroup.cl, T.kGroup.no.2.2.2.2.1, look_at _ _ _ 4 rfl (by decide +kernel), _, rfl, ?_⟩
      cases g with
      | counter =>
        cases (show u = .non from hu)
        refine iteT ?_
        exact ⟨_, rfl, _, rfl, _, rfl, vf, f, H1, p, r, rfl, hf, hwf, w7, k⟩
      | solid g =>
        have hn : ¬ u = .non := fun e => by
          subst e
          cases g <;> (obtain ⟨_, _, z, _⟩ := hu; cases z)
        rw [decide_eq_false hn]
        refine iteF ?_
        exact ⟨_, rfl, b, d.cGroup, dxb, _, _, rfl, hb, T.kGroup.cl, T.kGroup.no.2.2.2.2.1, look_at _ _ _ 4 rfl (by decide +kernel), _, rfl, _, rfl, u, g, H0, p, r, rfl, hu, w7, k⟩
theorem find_at {α : Type} {f : α → Bool} : ∀ {xs : List α} {i : Nat} {x : α}, (∀ z ∈ xs.take i, f z = false) → xs[i]? = some x → f x = true → xs.find? f = some x
  | [], i, x, _, h, _ => by simp at h
  | a :: xs, 0, x, _, h, hf => by
    cases h
    exact List.find?_cons_of_pos hf
  | a :: xs, i + 1, x, hn, h, hf => by
    rw [List.find?_cons_of_neg]
    · exact find_at (fun z hz => hn z (by rw [List.take_succ_cons]; exact List.mem_cons_of_mem _ hz)) h hf
    · rw [hn a (by rw [List.take_succ_cons]; exact List.mem_cons_self)]
      exact Bool.false_ne_true
theorem find_no {α : Type} {f : α → Bool} {xs : List α} (h : ∀ z ∈ xs, f z = false) : xs.find? f = none := List.find?_eq_none.mpr fun z hz => by rw [h z hz]; exact Bool.false_ne_true
def spArmsAt (d : Ad) : Sp := fun vs H Q _ => ∃ (v : V) (a : Sh.Arms) (H0 : Hp) (p r : Int), vs = [v, .int p, .int r] ∧ RArms d H0 H v a ∧ WArms a ∧ ∀ H', Same H H' → Q (vN (a.at_ p r)) H'
theorem sc_arms_tincture : FnScope ["arms", "p", "r", "layer"] ["arms", "p", "r"] (defScope s_arms_tincture) := ⟨rfl, rfl, rfl, by decide +kernel, rfl, by decide +kernel, by decide +kernel⟩
theorem ok_arms_tincture (T : Txt K mg d) : OkD P w K mg base CX0 14 d.f_arms_tincture ["arms", "p", "r"] (spArmsAt d) := by
  obtain ⟨fd, F, B⟩ := T.k_arms_tincture.ex
  obtain ⟨⟨fd_field_tincture, G_field_tincture, B_field_tincture⟩, kp_field_tincture⟩ := ok_field_tincture (P := P) (w := w) (base := base) T
  obtain ⟨⟨fd_layer_has, G_layer_has, B_layer_has⟩, kp_layer_has⟩ := ok_layer_has (P := P) (w := w) (base := base) T
  obtain ⟨⟨fd_layer_tincture, G_layer_tincture, B_layer_tincture⟩, kp_layer_tincture⟩ := ok_layer_tincture (P := P) (w := w) (base := base) T
  refine ⟨⟨fd, F.ok sc_arms_tincture (fun vs H Q E h => ?_) (fun cdv A outer s H vs Q E hr h => ?_), B⟩, F.kp⟩
  · obtain ⟨v, a, H0, p, r, rfl, _⟩ := h
    rfl
  · obtain ⟨v, a, H0, p, r, rfl, ha, hw, k⟩ := h
    have hr_field_tincture : Room 11 _ := hr.mono (by decide)
    have hr_layer_has : Room 9 _ := hr.mono (by decide)
    have hr_layer_tincture : Room 12 _ := hr.mono (by decide)
    refine ⟨_, pss_cons (ps_for PassesOwn.never rfl (pi_reversed rfl T.b_reversed (pa_cons (pe_fld (pv 0) rfl) pa_nil)) (pg_name (i := 3) sc_arms_tincture.nd rfl (Or.inl rfl))
        (pss_one (ps_if (pt_val (pe_call G_layer_has hr_layer_has rfl T.k_layer_has.gl kp_layer_has B_layer_has .nil pass0 (pa_cons (pv 3) (pa_cons (pv 1) (pa_cons (pv 2) pa_nil)))))
        (pss_one (ps_ret (pe_call G_layer_tincture hr_layer_tincture rfl T.k_layer_tincture.gl kp_layer_tincture B_layer_tincture .nil pass0 (pa_cons (pv 3) (pa_cons (pe_fld (pv 0) rfl) (pa_cons (pv 1) (pa_cons (pv 2) pa_nil)))))))
        pss_nil)))
      (pss_one (ps_ret (pe_call G_field_tincture hr_field_tincture rfl T.k_field_tincture.gl kp_field_tincture B_field_tincture .nil pass0 (pa_cons (pe_fld (pv 0) rfl) (pa_cons (pv 1) (pa_cons (pv 2) pa_nil)))))), ?_⟩
    obtain ⟨u, l, us, ⟨b, dxb, rfl, nb, hb⟩, hu, ⟨nl, hl⟩, hall⟩ := ha
    refine ⟨_, rfl, b, d.cArms, dxb, _, _, rfl, hb, T.kArms.cl, T.kArms.no.2.1, look_at _ _ _ 1 rfl (by decide +kernel), l, us, rfl, SqL.of hl, ?_⟩
    have hlen := hall.length
    refine RT.for_Itv (K := K) (a := l) (xs := us) (fun i σ Hc => ∃ v3 : Option V, σ = [some (.ref b), some (.int p), some (.int r), v3] ∧ Same H Hc ∧ ∀ z ∈ a.layers.reverse.take i, z.has p r = false)
      ⟨none, rfl, Same.refl H, fun z hz => by simp at hz⟩ (fun i σ Hc ⟨_, _, s1, _⟩ => SqL.of (s1 _ _ hl)) ?_ ?_
    · rintro i y σ Hc hi hy ⟨v3, rfl, s1, hno⟩
      obtain ⟨x, hx, rx⟩ := hall.get hy
      have hx' : a.layers.reverse[i]? = some x := by
        rw [List.getElem?_reverse (by omega), ← hlen]
        exact hx
      have wx : WLayer a.field x := hw.2 x (List.mem_of_getElem? hx)
      have rx1 : RLayer d H0 Hc y x := RLayer.mv rx (Mv.here s1)
      refine ⟨_, rfl, _, rfl, _, rfl, y, x, a.field, H0, p, r, rfl, rx1, wx, fun H2 s2 => ⟨_, rfl, ?_⟩⟩
      have s3 : Same H H2 := s1.trans s2
      refine ite2 (fun c => ?_) (fun c => ?_)
      · have hb2 := s3 _ _ hb
        have e : a.at_ p r = x.fill.at_ a.field p r := by
          unfold Sh.Arms.at_
          rw [find_at hno hx' c]
        refine ⟨_, rfl, _, rfl, b, d.cArms, dxb, _, _, rfl, hb2, T.kArms.cl, T.kArms.no.1, look_at _ _ _ 0 rfl (by decide +kernel), _, rfl, _, rfl, y, u, x, a.field, H0, H0, p, r, rfl, RLayer.mv rx (Mv.here s3), wx, RField.mv hu (Mv.here s3), hw.1, ?_⟩
        exact castN (k H2 s3) e
      · refine ⟨_, rfl, s3, fun z hz => ?_⟩
        rw [List.take_succ_eq_append_getElem (List.getElem?_eq_some_iff.mp hx').1] at hz
        rcases List.mem_append.mp hz with q | q
        · exact hno z q
        · have : z = x := by
            have e := (List.getElem?_eq_some_iff.mp hx').2
            rw [List.mem_singleton] at q
            rw [q, e]
          subst this
          exact Bool.eq_false_iff.mpr c
    · rintro σ Hc ⟨v3, rfl, s1, hno⟩
      have hb2 := s1 _ _ hb
      have e : a.at_ p r = a.field.at_ p r := by
        unfold Sh.Arms.at_
        rw [find_no (fun z hz => hno z (by rw [hlen, ← List.length_reverse, List.take_length]; exact hz))]
      refine ⟨_, rfl, b, d.cArms, dxb, _, _, rfl, hb2, T.kArms.cl, T.kArms.no.1, look_at _ _ _ 0 rfl (by decide +kernel), _, rfl, _, rfl, u, a.field, H0, p, r, rfl, RField.mv hu (Mv.here s1), hw.1, ?_⟩
      exact castN (k Hc s1) e
end
end HC


namespace HC
open PySem PySem.Spec PyProof.Rows L2
/-! ### max(xs, default=z) of a list of ints -/
def rMaxD (K : PySem.W.Frag) : List V → List V → Hp → VK → Prop := fun vs zs H Q => ∃ (a : Addr) (ns : List Int) (z : V), vs = [V.ref a] ∧ zs = [z] ∧ SqL K H a (ns.map V.int) ∧ (ns = [] → Q z H) ∧ ∀ n r, ns = n :: r → Q (.int (PySem.W.maxOf n r)) H
theorem int_holds {h : Heap} {v : Value} {n : Int} (hv : PySem.W.Holds h v n) : ∃ t, v = .int n t := by
  obtain ⟨as, r⟩ := hv
  cases r with
  | int _ t => exact ⟨t, rfl⟩
theorem cr_maxD {X : Cx} {k : Nat} (hc : X.calm = true) (hr : Room k X.A) : CallRK X (.builtin "max") ["default"] (rMaxD X.K) := by
  intro pins sh st Hh xs zs us ws Qv Iv r1 r2 hw
  obtain ⟨a, ns, z, rfl, rfl, hs, q0, q1⟩ := hw
  obtain ⟨its, rv, hl, _⟩ := Iv.list hs
  obtain ⟨u, rfl, ru⟩ := vals1 r2
  rw [Vals.ref1 r1]
  have hu : X.A.units + 1 + PySem.W.Datum.depth Int < cLine := by
    have h1 := hr.units
    have h2 : PySem.W.Datum.depth Int ≤ 8 := by decide
    omega
  refine PySem.W.max_list_datum_default (xs := ns) (Iv.ok.hd hc) hl.isList (PySem.W.HoldAll.of_ints (by simpa using rv.ints)) hu (fun e h' tk hk => ?_) (fun n r i v h' tk e hi hv hk => ?_)
  · exact ⟨z, Hh, Iv.kept hk, ru, q0 e⟩
  · obtain ⟨t, rfl⟩ := int_holds hv
    exact ⟨.int _, Hh, Iv.kept hk, ⟨_, rfl⟩, q1 n r e⟩
/-! ### the coats in a coat -/
def inn : ShMarsh.Coat → List ShMarsh.Coat
  | .one _ => []
  | .quarters l => l
  | .impaled a b => [a, b]
  | .pretence a b => [a, b]
mutual
/-- lists of coats are short, all the way -/
def Small : ShMarsh.Coat → Prop
  | .one _ => True
  | .quarters l => l.length ≤ 1000 ∧ Smalls l
  | .impaled a b => Small a ∧ Small b
  | .pretence a b => Small a ∧ Small b
def Smalls : List ShMarsh.Coat → Prop
  | [] => True
  | x :: l => Small x ∧ Smalls l
end
theorem smalls_mem : ∀ {l : List ShMarsh.Coat} {x : ShMarsh.Coat}, Smalls l → x ∈ l → Small x
  | y :: l, x, h, m => by
    rcases List.mem_cons.mp m with e | e
    · rw [e]
      exact h.1
    · exact smalls_mem h.2 e
theorem Small.sub {c x : ShMarsh.Coat} (h : Small c) (m : x ∈ inn c) : Small x := by
  cases c with
  | one _ => cases m
  | quarters l => exact smalls_mem h.2 m
  | impaled a b =>
    obtain ⟨h1, h2⟩ : Small a ∧ Small b := h
    rcases List.mem_cons.mp m with e | e
    · rw [e]; exact h1
    · rcases List.mem_cons.mp e with e | e
      · rw [e]; exact h2
      · cases e
  | pretence a b =>
    obtain ⟨h1, h2⟩ : Small a ∧ Small b := h
    rcases List.mem_cons.mp m with e | e
    · rw [e]; exact h1
    · rcases List.mem_cons.mp e with e | e
      · rw [e]; exact h2
      · cases e
theorem small_len {c : ShMarsh.Coat} (h : Small c) : (inn c).length ≤ 1000 := by
  cases c with
  | one _ => exact Nat.zero_le _
  | quarters l => exact h.1
  | impaled a b => show 2 ≤ 1000; decide
  | pretence a b => show 2 ≤ 1000; decide
theorem Small.len {c x : ShMarsh.Coat} (h : Small c) (m : x ∈ inn c) : (inn x).length ≤ 1000 := small_len (h.sub m)
mutual
theorem small_of : ∀ {c : ShMarsh.Coat}, WCoat c → Small c
  | .one _, _ => trivial
  | .quarters l, h => by
    obtain ⟨h1, h2, h3⟩ : 2 ≤ l.length ∧ l.length ≤ 9 ∧ WCoats l := h
    exact ⟨by omega, smalls_of h3⟩
  | .impaled a b, h => by
    obtain ⟨h1, h2⟩ : WCoat a ∧ WCoat b := h
    exact ⟨small_of h1, small_of h2⟩
  | .pretence a b, h => by
    obtain ⟨h1, h2⟩ : WCoat a ∧ WCoat b := h
    exact ⟨small_of h1, small_of h2⟩
theorem smalls_of : ∀ {l : List ShMarsh.Coat}, WCoats l → Smalls l
  | [], _ => trivial
  | x :: l, h => by
    obtain ⟨h1, h2⟩ : WCoat x ∧ WCoats l := h
    exact ⟨small_of h1, smalls_of h2⟩
end
def isOne : ShMarsh.Coat → Bool
  | .one _ => true
  | _ => false
theorem parts_sum : ∀ l : List ShMarsh.Coat, ShMarsh.partsOf l = (l.map ShMarsh.Coat.parts).sum
  | [] => rfl
  | x :: l => by
    show x.parts + ShMarsh.partsOf l = _
    rw [parts_sum l, List.map_cons, List.sum_cons]
theorem parts_inn {c : ShMarsh.Coat} (h : isOne c = false) : c.parts = ((inn c).map ShMarsh.Coat.parts).sum := by
  cases c with
  | one m => cases h
  | quarters l => exact parts_sum l
  | impaled a b =>
    show a.parts + b.parts = a.parts + (b.parts + 0)
    omega
  | pretence a b =>
    show a.parts + b.parts = a.parts + (b.parts + 0)
    omega
def most : List Nat → Nat
  | [] => 0
  | x :: l => max x (most l)
theorem deepest_most : ∀ l : List ShMarsh.Coat, ShMarsh.deepest l = most (l.map ShMarsh.Coat.deep)
  | [] => rfl
  | x :: l => by
    show max x.deep (ShMarsh.deepest l) = max x.deep (most (l.map ShMarsh.Coat.deep))
    rw [deepest_most l]
theorem deep_inn (c : ShMarsh.Coat) : c.deep = 1 + most ((inn c).map ShMarsh.Coat.deep) := by
  cases c with
  | one m => rfl
  | quarters l =>
    show ShMarsh.deepest l + 1 = _
    rw [deepest_most, Nat.add_comm]
    rfl
  | impaled a b =>
    show max a.deep b.deep + 1 = 1 + max a.deep (max b.deep 0)
    omega
  | pretence a b =>
    show max a.deep b.deep + 1 = 1 + max a.deep (max b.deep 0)
    omega
theorem most_le : ∀ {l : List Nat} {x : Nat}, x ∈ l → x ≤ most l
  | y :: l, x, h => by
    rcases List.mem_cons.mp h with e | e
    · subst e
      exact Nat.le_max_left _ _
    · exact Nat.le_trans (most_le e) (Nat.le_max_right _ _)
theorem inn_deep {c x : ShMarsh.Coat} (h : x ∈ inn c) : x.deep + 1 ≤ c.deep := by
  have := most_le (List.mem_map.mpr ⟨x, h, rfl⟩ : x.deep ∈ (inn c).map ShMarsh.Coat.deep)
  rw [deep_inn c]
  omega
theorem lt_int (a b : Int) : PySem.W.DatumOrd.lt a b = decide (a < b) := rfl
theorem max_step (n x : Nat) (r : List Int) : PySem.W.maxOf (n : Int) ((x : Int) :: r) = PySem.W.maxOf ((max n x : Nat) : Int) r := by
  show PySem.W.maxOf (if PySem.W.DatumOrd.lt (n : Int) (x : Int) = true then (x : Int) else (n : Int)) r = _
  have e : (if PySem.W.DatumOrd.lt (n : Int) (x : Int) = true then (x : Int) else (n : Int)) = ((max n x : Nat) : Int) := by
    rw [lt_int]
    by_cases h : (n : Int) < (x : Int)
    · rw [decide_eq_true h, if_pos rfl]
      omega
    · rw [decide_eq_false h, if_neg (by decide)]
      omega
  rw [e]
theorem max_most : ∀ (r : List Nat) (n : Nat), PySem.W.maxOf (n : Int) (r.map fun (x : Nat) => (x : Int)) = ((max n (most r) : Nat) : Int)
  | [], n => by
    show (n : Int) = ((max n 0 : Nat) : Int)
    rw [Nat.max_zero]
  | x :: r, n => by
    rw [List.map_cons, max_step, max_most r]
    show ((max (max n x) (most r) : Nat) : Int) = ((max n (max x (most r)) : Nat) : Int)
    rw [Nat.max_assoc]
theorem sum_cast : ∀ l : List Nat, (l.map fun (x : Nat) => (x : Int)).sum = ((l.sum : Nat) : Int)
  | [] => rfl
  | x :: l => by
    rw [List.map_cons, List.sum_cons, List.sum_cons, sum_cast l]
    omega
theorem map_vN (l : List Nat) : l.map vN = (l.map fun (x : Nat) => (x : Int)).map V.int := by
  rw [List.map_map]
  rfl
/-- a list of numbers that a comprehension builds at D -/
structure Cn (H : Hp) (D : Addr) (ys : List Nat) (i : Nat) (H' : Hp) : Prop where
  sm : ∀ b o, b ≠ D → H b = some o → H' b = some o
  ac : H' D = some (.lst ((ys.take i).map vN))
theorem Cn.start {H : Hp} {D : Addr} {ys : List Nat} : Cn H D ys 0 (upd H D (.lst [])) := ⟨fun b o n h => by rw [upd_ne n]; exact h, upd_same⟩
theorem Cn.turn {H H' H4 : Hp} {D : Addr} {ys : List Nat} {i y : Nat} (c : Cn H D ys i H') (s : Same H' H4) (hy : ys[i]? = some y) : H4 D = some (.lst ((ys.take i).map vN)) ∧ Cn H D ys (i + 1) (upd H4 D (.lst ((ys.take i).map vN ++ [vN y]))) := by
  refine ⟨s _ _ c.ac, fun b o n h => ?_, ?_⟩
  · rw [upd_ne n]
    exact s _ _ (c.sm b o n h)
  · rw [upd_same, List.take_add_one, hy, List.map_append]
    rfl
theorem Cn.fin {H H' : Hp} {D : Addr} {ys : List Nat} (c : Cn H D ys ys.length H') (hD : H D = none) : Same H H' ∧ H' D = some (.lst (ys.map vN)) := by
  refine ⟨fun b o h => c.sm b o (ne_of_none h hD) h, ?_⟩
  have := c.ac
  rw [List.take_length] at this
  exact this
section
variable {P : Program} {w : World} {K : PySem.W.Frag} {mg : Str → Option Value} {base : Heap} {d : Ad}
theorem all_of {H0 H : Hp} : ∀ {l : List ShMarsh.Coat} {us : List V}, RCoats d H0 H l us → All2 (RC d H0 H) us l
  | [], us, h => by
    have h' : us = [] := h
    subst h'
    exact .nil
  | x :: l, us, h => by
    obtain ⟨u, r, rfl, h1, h2⟩ := h
    exact .cons h1 (all_of h2)
theorem All2.at_ {α : Type} {R : V → α → Prop} {vs : List V} {xs : List α} (t : All2 R vs xs) : ∀ {i : Nat} {v : V}, vs[i]? = some v → ∃ x, xs[i]? = some x ∧ R v x := by
  induction t with
  | nil => intro i v h; simp at h
  | cons h' _ ih =>
    intro i v h
    cases i with
    | zero =>
      simp at h
      subst h
      exact ⟨_, rfl, h'⟩
    | succ i =>
      obtain ⟨x, e, r⟩ := ih (i := i) (by simpa using h)
      exact ⟨x, by simpa using e, r⟩
/-- a new list of the coats in the coat -/
def spInn (d : Ad) : Sp := fun vs H Q _ => ∃ (v : V) (c : ShMarsh.Coat) (H0 : Hp), vs = [v] ∧ RC d H0 H v c ∧ ∀ (H' : Hp) (p : Addr) (us : List V), Same H H' → H p = none → H' p = some (.lst us) → All2 (RC d H0 H) us (inn c) → Q (.ref p) H'
theorem sc_coats_in : FnScope ["coat"] ["coat"] (defScope s_coats_in) := ⟨rfl, rfl, rfl, by decide +kernel, rfl, by decide +kernel, by decide +kernel⟩
theorem ok_coats_in (T : Txt K mg d) : OkD P w K mg base CX0 2 d.f_coats_in ["coat"] (spInn d) := by
  obtain ⟨fd, F, B⟩ := T.k_coats_in.ex
  refine ⟨⟨fd, F.ok sc_coats_in (fun vs H Q E h => ?_) (fun cdv A outer s H vs Q E hr h => ?_), B⟩, F.kp⟩
  · obtain ⟨v, c, H0, rfl, _⟩ := h
    rfl
  · obtain ⟨v, c, H0, rfl, hv, k⟩ := h
    refine ⟨_, pss_cons (ps_if (pt_val (pe_callB call_isi (by rfl) T.b_isinstance (by decide +kernel) (pa_cons (pv 0) (pa_cons (pe_glob (v := .ref d.cMarked) rfl T.kMarked.gl rfl) pa_nil))))
        (pss_one (ps_ret (pe_lst pa_nil)))
        pss_nil)
      (pss_cons (ps_if (pt_val (pe_callB call_isi (by rfl) T.b_isinstance (by decide +kernel) (pa_cons (pv 0) (pa_cons (pe_glob (v := .ref d.cQuarterly) rfl T.kQuarterly.gl rfl) pa_nil))))
        (pss_one (ps_ret (pe_callTy call_list_of (by rfl) T.b_list (by decide +kernel) (pa_cons (pe_fld (pv 0) rfl) pa_nil))))
        pss_nil)
      (pss_cons (ps_if (pt_val (pe_callB call_isi (by rfl) T.b_isinstance (by decide +kernel) (pa_cons (pv 0) (pa_cons (pe_glob (v := .ref d.cImpaled) rfl T.kImpaled.gl rfl) pa_nil))))
        (pss_one (ps_ret (pe_lst (pa_cons (pe_fld (pv 0) rfl) (pa_cons (pe_fld (pv 0) rfl) pa_nil)))))
        pss_nil)
      (pss_one (ps_ret (pe_lst (pa_cons (pe_fld (pv 0) rfl) (pa_cons (pe_fld (pv 0) rfl) pa_nil))))))), ?_⟩
    have new : ∀ (p : Addr) (us : List V), H p = none → All2 (RC d H0 H) us (inn c) → Q (.ref p) (upd H p (.lst us)) := fun p us np ha => k _ p us (fun b o e => by rw [upd_ne (ne_of_none e np)]; exact e) np upd_same ha
    cases c with
    | one m =>
      obtain ⟨a1, a2, a3, ⟨b, dxb, rfl, _, hb⟩, _⟩ := hv
      refine ⟨_, rfl, _, _, _, _, _, rfl, ClsV.own _, .base (.ins hb T.kMarked.cl T.kMarked.cla T.gs T.tk T.kMarked.mro), T.iMarked_Marked, _, rfl, ?_⟩
      refine iteT ?_
      exact ⟨Nat.zero_le _, fun p np => new p [] np .nil⟩
    | quarters l =>
      obtain ⟨q, us, ⟨b, dxb, rfl, _, hb⟩, ⟨_, hq⟩, hc⟩ := hv
      refine ⟨_, rfl, _, _, _, _, _, rfl, ClsV.own _, .base (.ins hb T.kQuarterly.cl T.kQuarterly.cla T.gs T.tk T.kQuarterly.mro), T.iQuarterly_Marked, _, rfl, ?_⟩
      refine iteF ?_
      refine ⟨_, rfl, _, _, _, _, _, rfl, ClsV.own _, .base (.ins hb T.kQuarterly.cl T.kQuarterly.cla T.gs T.tk T.kQuarterly.mro), T.iQuarterly_Quarterly, _, rfl, ?_⟩
      refine iteT ?_
      exact ⟨_, rfl, b, d.cQuarterly, dxb, _, _, rfl, hb, T.kQuarterly.cl, T.kQuarterly.no.1, look_at _ _ _ 0 rfl (by decide +kernel), q, us, rfl, .inl (SqL.of hq), fun p np => new p us np (all_of hc)⟩
    | impaled x y =>
      obtain ⟨ux, uy, ⟨b, dxb, rfl, _, hb⟩, hx, hy⟩ := hv
      refine ⟨_, rfl, _, _, _, _, _, rfl, ClsV.own _, .base (.ins hb T.kImpaled.cl T.kImpaled.cla T.gs T.tk T.kImpaled.mro), T.iImpaled_Marked, _, rfl, ?_⟩
      refine iteF ?_
      refine ⟨_, rfl, _, _, _, _, _, rfl, ClsV.own _, .base (.ins hb T.kImpaled.cl T.kImpaled.cla T.gs T.tk T.kImpaled.mro), T.iImpaled_Quarterly, _, rfl, ?_⟩
      refine iteF ?_
      refine ⟨_, rfl, _, _, _, _, _, rfl, ClsV.own _, .base (.ins hb T.kImpaled.cl T.kImpaled.cla T.gs T.tk T.kImpaled.mro), T.iImpaled_Impaled, _, rfl, ?_⟩
      refine iteT ?_
      exact ⟨_, rfl, b, d.cImpaled, dxb, _, _, rfl, hb, T.kImpaled.cl, T.kImpaled.no.1, look_at _ _ _ 0 rfl (by decide +kernel), _, rfl, b, d.cImpaled, dxb, _, _, rfl, hb, T.kImpaled.cl, T.kImpaled.no.2.1, look_at _ _ _ 1 rfl (by decide +kernel), (by show 2 ≤ sizeLine; decide), fun p np => new p [ux, uy] np (.cons hx (.cons hy .nil))⟩
    | pretence x y =>
      obtain ⟨ux, uy, ⟨b, dxb, rfl, _, hb⟩, hx, hy⟩ := hv
      refine ⟨_, rfl, _, _, _, _, _, rfl, ClsV.own _, .base (.ins hb T.kPretence.cl T.kPretence.cla T.gs T.tk T.kPretence.mro), T.iPretence_Marked, _, rfl, ?_⟩
      refine iteF ?_
      refine ⟨_, rfl, _, _, _, _, _, rfl, ClsV.own _, .base (.ins hb T.kPretence.cl T.kPretence.cla T.gs T.tk T.kPretence.mro), T.iPretence_Quarterly, _, rfl, ?_⟩
      refine iteF ?_
      refine ⟨_, rfl, _, _, _, _, _, rfl, ClsV.own _, .base (.ins hb T.kPretence.cl T.kPretence.cla T.gs T.tk T.kPretence.mro), T.iPretence_Impaled, _, rfl, ?_⟩
      refine iteF ?_
      exact ⟨_, rfl, b, d.cPretence, dxb, _, _, rfl, hb, T.kPretence.cl, T.kPretence.no.1, look_at _ _ _ 0 rfl (by decide +kernel), _, rfl, b, d.cPretence, dxb, _, _, rfl, hb, T.kPretence.cl, T.kPretence.no.2.1, look_at _ _ _ 1 rfl (by decide +kernel), (by show 2 ≤ sizeLine; decide), fun p np => new p [ux, uy] np (.cons hx (.cons hy .nil))⟩
end
end HC


namespace HC
open PySem PySem.Spec PyProof.Rows L2
section
variable {P : Program} {w : World} {K : PySem.W.Frag} {mg : Str → Option Value} {base : Heap} {d : Ad}
/-! ### how many parts -/
def spParts (d : Ad) (n : Nat) : Sp := fun vs H Q _ => ∃ (v : V) (c : ShMarsh.Coat) (H0 : Hp), vs = [v] ∧ RC d H0 H v c ∧ c.deep ≤ n ∧ (inn c).length ≤ 1000 ∧ Small c ∧ ∀ H', Same H H' → Q (vN c.parts) H'
def spDepth (d : Ad) (n : Nat) : Sp := fun vs H Q _ => ∃ (v : V) (c : ShMarsh.Coat) (H0 : Hp), vs = [v] ∧ RC d H0 H v c ∧ c.deep ≤ n ∧ (inn c).length ≤ 1000 ∧ Small c ∧ ∀ H', Same H H' → Q (vN c.deep) H'
theorem sc_parts_in : FnScope ["coat", "inner"] ["coat"] (defScope s_parts_in) := ⟨rfl, rfl, rfl, by decide +kernel, rfl, by decide +kernel, by decide +kernel⟩
theorem ok_parts_in (T : Txt K mg d) : ∀ n : Nat, OkD P w K mg base CX0 (3 + n) d.f_parts_in ["coat"] (spParts d n)
  | 0 => by
    obtain ⟨fd, F, B⟩ := T.k_parts_in.ex
    refine ⟨⟨fd, ?_, B⟩, F.kp⟩
    refine F.ok (k := 2) sc_parts_in (fun vs H Q E h => ?_) (fun cdv A outer s H vs Q E hr h => ?_)
    · obtain ⟨v, c, H0, rfl, _⟩ := h
      rfl
    · obtain ⟨v, c, H0, rfl, _, hn, _⟩ := h
      rw [deep_inn c] at hn
      omega
  | n + 1 => by
    obtain ⟨⟨fd_parts_in, G_parts_in, B_parts_in⟩, kp_parts_in⟩ := ok_parts_in T n
    obtain ⟨⟨fd_coats_in, G_coats_in, B_coats_in⟩, kp_coats_in⟩ := ok_coats_in (P := P) (w := w) (base := base) T
    obtain ⟨fd, F, B⟩ := T.k_parts_in.ex
    refine ⟨⟨fd, ?_, B⟩, F.kp⟩
    refine F.ok (k := 3 + n) sc_parts_in (fun vs H Q E h => ?_) (fun cdv A outer s H vs Q E hr h => ?_)
    · obtain ⟨v, c, H0, rfl, _⟩ := h
      rfl
    · obtain ⟨v, c, H0, rfl, hv, hn, hl, hs, k⟩ := h
      have hr_parts_in : Room (3 + n) _ := hr
      have hr_coats_in : Room 2 _ := hr.mono (by omega)
      refine ⟨_, pss_cons (ps_if (pt_val (pe_callB call_isi (by rfl) T.b_isinstance (by decide +kernel) (pa_cons (pv 0) (pa_cons (pe_glob (v := .ref d.cMarked) rfl T.kMarked.gl rfl) pa_nil))))
        (pss_one (ps_ret pe_int))
        pss_nil)
      (pss_one (ps_ret (pe_callB (cr_sum rfl) (by rfl) T.b_sum (by decide +kernel) (pa_cons (pe_lc (own := [("inner", 1)]) (g := gName 1) (tt := tYes) rfl sc_parts_in.nd (pi_list (pe_call G_coats_in hr_coats_in rfl T.k_coats_in.gl kp_coats_in B_coats_in .nil pass0 (pa_cons (pv 0) pa_nil))) (blkOk_by (N := ["coat", "inner"]) (sc := defScope s_parts_in) (by decide +kernel)) (fun _ _ _ _ _ => pg_name (i := 1) sc_parts_in.nd rfl (Or.inl rfl)) (fun _ _ _ _ _ => pts_nil) (fun _ _ _ _ _ => (pe_call G_parts_in hr_parts_in rfl T.k_parts_in.gl kp_parts_in B_parts_in .nil pass0 (pa_cons (pv 1) pa_nil)))) pa_nil)))), ?_⟩
      have more : isOne c = false → (iList K (tCall (spInn d) [] E0 (tCons (tVar 0) tNil))) [some v, none] H fun J H2 => ∀ D, H2 D = none → ∃ W : Nat → Nat → Hp → Prop, (∃ m, W 0 m (upd H2 D (.lst []))) ∧ ∀ i m H3, W i m H3 →
          (J.stop i H3 ∧ (∃ (a : Addr) (ns : List Int), [V.ref D] = [V.ref a] ∧ SqL K H3 a (ns.map V.int) ∧ Q (.int ns.sum) H3)) ∨ (J.go i H3 ∧ ∃ Nx : Hp → Prop, (∀ H', Nx H' → ∃ m', m' < m ∧ W (i + 1) m' H') ∧ ∀ x H', J.yld i H3 x H' → gName 1 x (wipe [some v, none] [1]) H' fun σ2 H2 => wipe σ2 [1] = wipe [some v, none] [1] ∧ tYes σ2 H2 fun b H3 =>
            if b = true then tCall (spParts d n) [] E0 (tCons (tVar 1) tNil) σ2 H3 fun y H4 => ∃ acc, H4 D = some (.lst acc) ∧ acc.length < sizeLine ∧ Nx (upd H4 D (.lst (acc ++ [y]))) else Nx H3) := by
        intro h1
        refine ⟨_, rfl, v, c, H0, rfl, hv, fun H2 p us s2 np hp hall => ⟨p, rfl, ⟨us, SqL.of hp⟩, fun D hD => ?_⟩⟩
        have hlen := hall.length
        refine lc_list (xs := us) (Cn H2 D ((inn c).map ShMarsh.Coat.parts)) Cn.start (fun i H' _ cn => SqL.of (cn.sm p _ (ne_of_none hp hD) hp)) (fun i x H' hx cn => ?_) (fun H' cn => ?_)
        · obtain ⟨x', hx', rx⟩ := hall.at_ hx
          have hi : i < us.length := by
            rcases Nat.lt_or_ge i us.length with z | z
            · exact z
            · rw [List.getElem?_eq_none z] at hx
              cases hx
          have mem : x' ∈ inn c := List.mem_of_getElem? hx'
          have hd' := inn_deep mem
          refine ⟨rfl, ?_⟩
          unfold tYes
          dsimp only
          rw [if_pos rfl]
          have mv : Mv H0 H H0 H' := ⟨fun _ z => z, fun b o _ e => cn.sm b o (ne_of_none (s2 b o e) hD) (s2 b o e)⟩
          refine ⟨_, rfl, x, x', H0, rfl, RC.mv rx mv, by omega, hs.len mem, hs.sub mem, fun H4 s4 => ?_⟩
          obtain ⟨t1, t2⟩ := cn.turn s4 (by rw [List.getElem?_map, hx']; rfl)
          exact ⟨_, t1, by rw [List.length_map, List.length_take]; exact Nat.lt_of_le_of_lt (Nat.min_le_left _ _) (Nat.lt_of_lt_of_le hi (by rw [hlen]; exact Nat.le_trans hl (by decide))), t2⟩
        · rw [show us.length = ((inn c).map ShMarsh.Coat.parts).length by rw [List.length_map]; exact hlen] at cn
          obtain ⟨s5, h5⟩ := cn.fin hD
          rw [map_vN] at h5
          refine ⟨D, _, rfl, SqL.of h5, ?_⟩
          rw [sum_cast, ← parts_inn h1]
          exact k _ (s2.trans s5)
      cases c with
      | one m =>
        obtain ⟨a1, a2, a3, ⟨b, dxb, rfl, _, hb⟩, _⟩ := hv
        refine ⟨_, rfl, _, _, _, _, _, rfl, ClsV.own _, .base (.ins hb T.kMarked.cl T.kMarked.cla T.gs T.tk T.kMarked.mro), T.iMarked_Marked, _, rfl, ?_⟩
        refine iteT ?_
        exact k _ (Same.refl H)
      | quarters l =>
        obtain ⟨q, us, ⟨b, dxb, rfl, _, hb⟩, _⟩ := hv
        refine ⟨_, rfl, _, _, _, _, _, rfl, ClsV.own _, .base (.ins hb T.kQuarterly.cl T.kQuarterly.cla T.gs T.tk T.kQuarterly.mro), T.iQuarterly_Marked, _, rfl, ?_⟩
        refine iteF ?_
        exact more rfl
      | impaled x y =>
        obtain ⟨ux, uy, ⟨b, dxb, rfl, _, hb⟩, _⟩ := hv
        refine ⟨_, rfl, _, _, _, _, _, rfl, ClsV.own _, .base (.ins hb T.kImpaled.cl T.kImpaled.cla T.gs T.tk T.kImpaled.mro), T.iImpaled_Marked, _, rfl, ?_⟩
        refine iteF ?_
        exact more rfl
      | pretence x y =>
        obtain ⟨ux, uy, ⟨b, dxb, rfl, _, hb⟩, _⟩ := hv
        refine ⟨_, rfl, _, _, _, _, _, rfl, ClsV.own _, .base (.ins hb T.kPretence.cl T.kPretence.cla T.gs T.tk T.kPretence.mro), T.iPretence_Marked, _, rfl, ?_⟩
        refine iteF ?_
        exact more rfl
end
end HC


namespace HC
/-! ### coats at points: one step down -/
def inner : ShMarsh.Coat → Nat → Nat → ShMarsh.Coat × Nat × Nat
  | .one m, p, r => (.one m, p, r)
  | .quarters l, p, r =>
    let c := ShMarsh.side l.length
    let k := (r * c / 576) * c + p * c / 480
    (l.getD (if k < l.length then k else 0) (.quarters []), p * c % 480, r * c % 576)
  | .impaled a b, p, r => if p < 240 then (a, 2 * p, r) else (b, 2 * (p - 240), r)
  | .pretence a b, p, r => if 160 ≤ p ∧ p < 320 ∧ 192 ≤ r ∧ r < 384 then (b, 3 * (p - 160), 3 * (r - 192)) else (a, p, r)
mutual
theorem part_any : ∀ (c : ShMarsh.Coat) (i j p r : Nat), (c.partAt i p r).2 = (c.partAt j p r).2
  | .one m, i, j, p, r => rfl
  | .quarters l, i, j, p, r => by
    unfold ShMarsh.Coat.partAt
    exact pick_any l _ i j _ _
  | .impaled a b, i, j, p, r => by
    unfold ShMarsh.Coat.partAt
    split
    · exact part_any a _ _ _ _
    · exact part_any b _ _ _ _
  | .pretence a b, i, j, p, r => by
    unfold ShMarsh.Coat.partAt
    split
    · exact part_any b _ _ _ _
    · exact part_any a _ _ _ _
theorem pick_any : ∀ (l : List ShMarsh.Coat) (k i j p r : Nat), (ShMarsh.pick l k i p r).2 = (ShMarsh.pick l k j p r).2
  | [], k, i, j, p, r => rfl
  | x :: l, k, i, j, p, r => by
    unfold ShMarsh.pick
    split
    · exact part_any x _ _ _ _
    · exact pick_any l _ _ _ _ _
end
theorem pick_at : ∀ (l : List ShMarsh.Coat) (k i p r : Nat) (d : ShMarsh.Coat), k < l.length → (ShMarsh.pick l k i p r).2 = ((l.getD k d).partAt 0 p r).2
  | [], k, _, _, _, _, h => by simp at h
  | x :: l, 0, i, p, r, d, _ => by
    unfold ShMarsh.pick
    rw [if_pos rfl]
    exact part_any x _ _ _ _
  | x :: l, k + 1, i, p, r, d, h => by
    unfold ShMarsh.pick
    rw [if_neg (by omega)]
    show (ShMarsh.pick l k _ p r).2 = _
    rw [pick_at l k _ p r d (by simpa using h)]
    rfl
theorem part_step {c : ShMarsh.Coat} {p r : Nat} (hw : WCoat c) : (c.partAt 0 p r).2 = ((inner c p r).1.partAt 0 (inner c p r).2.1 (inner c p r).2.2).2 := by
  cases c with
  | one m => rfl
  | quarters l =>
    have h2 : 2 ≤ l.length := hw.1
    have hk : (if r * ShMarsh.side l.length / 576 * ShMarsh.side l.length + p * ShMarsh.side l.length / 480 < l.length then r * ShMarsh.side l.length / 576 * ShMarsh.side l.length + p * ShMarsh.side l.length / 480 else 0) < l.length := by split <;> omega
    rw [show (ShMarsh.Coat.quarters l).partAt 0 p r = ShMarsh.pick l (if r * ShMarsh.side l.length / 576 * ShMarsh.side l.length + p * ShMarsh.side l.length / 480 < l.length then r * ShMarsh.side l.length / 576 * ShMarsh.side l.length + p * ShMarsh.side l.length / 480 else 0) 0 (p * ShMarsh.side l.length % 480) (r * ShMarsh.side l.length % 576) from by rw [ShMarsh.Coat.partAt]]
    exact pick_at l _ _ _ _ (.quarters []) hk
  | impaled a b =>
    rw [show inner (.impaled a b) p r = if p < 240 then (a, 2 * p, r) else (b, 2 * (p - 240), r) from rfl]
    rw [show (ShMarsh.Coat.impaled a b).partAt 0 p r = if p < 240 then a.partAt 0 (2 * p) r else b.partAt (0 + a.parts) (2 * (p - 240)) r from by rw [ShMarsh.Coat.partAt]]
    by_cases h : p < 240
    · rw [if_pos h, if_pos h]
    · rw [if_neg h, if_neg h]
      exact part_any b _ _ _ _
  | pretence a b =>
    rw [show inner (.pretence a b) p r = if 160 ≤ p ∧ p < 320 ∧ 192 ≤ r ∧ r < 384 then (b, 3 * (p - 160), 3 * (r - 192)) else (a, p, r) from rfl]
    rw [show (ShMarsh.Coat.pretence a b).partAt 0 p r = if 160 ≤ p ∧ p < 320 ∧ 192 ≤ r ∧ r < 384 then b.partAt (0 + a.parts) (3 * (p - 160)) (3 * (r - 192)) else a.partAt 0 p r from by rw [ShMarsh.Coat.partAt]]
    by_cases h : 160 ≤ p ∧ p < 320 ∧ 192 ≤ r ∧ r < 384
    · rw [if_pos h, if_pos h]
      exact part_any b _ _ _ _
    · rw [if_neg h, if_neg h]
theorem deep_mem : ∀ {l : List ShMarsh.Coat} {x : ShMarsh.Coat}, x ∈ l → x.deep ≤ ShMarsh.deepest l
  | [], _, h => nomatch h
  | y :: l, x, h => by
    show x.deep ≤ max y.deep (ShMarsh.deepest l)
    rcases List.mem_cons.mp h with e | e
    · subst e; exact Nat.le_max_left _ _
    · exact Nat.le_trans (deep_mem e) (Nat.le_max_right _ _)
theorem wcoats_mem : ∀ {l : List ShMarsh.Coat} {x : ShMarsh.Coat}, WCoats l → x ∈ l → WCoat x
  | [], _, _, h => nomatch h
  | y :: l, x, hw, h => by
    rcases List.mem_cons.mp h with e | e
    · subst e; exact hw.1
    · exact wcoats_mem hw.2 e
theorem getD_in {l : List ShMarsh.Coat} {k : Nat} {d : ShMarsh.Coat} (h : k < l.length) : l.getD k d ∈ l := by
  rw [List.getD_eq_getElem?_getD, List.getElem?_eq_getElem h]
  exact List.getElem_mem h
theorem side_bd (n : Nat) : 1 ≤ ShMarsh.side n ∧ ShMarsh.side n ≤ 3 := by
  unfold ShMarsh.side
  split <;> (try split) <;> omega
/-- one step down: well made, less deep, a point of the shield -/
theorem inner_ok {c : ShMarsh.Coat} {p r : Nat} (hn : ∀ m, c ≠ .one m) (hw : WCoat c) (hp : p < 480) (hr : r < 576) : WCoat (inner c p r).1 ∧ (inner c p r).1.deep < c.deep ∧ (inner c p r).2.1 < 480 ∧ (inner c p r).2.2 < 576 := by
  cases c with
  | one m => exact absurd rfl (hn m)
  | quarters l =>
    unfold inner
    dsimp only
    have h2 : 2 ≤ l.length := hw.1
    have hk : (if r * ShMarsh.side l.length / 576 * ShMarsh.side l.length + p * ShMarsh.side l.length / 480 < l.length then r * ShMarsh.side l.length / 576 * ShMarsh.side l.length + p * ShMarsh.side l.length / 480 else 0) < l.length := by split <;> omega
    refine ⟨wcoats_mem hw.2.2 (getD_in hk), ?_, Nat.mod_lt _ (by decide), Nat.mod_lt _ (by decide)⟩
    show _ < ShMarsh.deepest l + 1
    exact Nat.lt_succ_of_le (deep_mem (getD_in hk))
  | impaled a b =>
    rw [show inner (.impaled a b) p r = if p < 240 then (a, 2 * p, r) else (b, 2 * (p - 240), r) from rfl]
    split
    · refine ⟨hw.1, ?_, by show 2 * p < 480; omega, hr⟩
      show _ < max a.deep b.deep + 1
      exact Nat.lt_succ_of_le (Nat.le_max_left _ _)
    · refine ⟨hw.2, ?_, by show 2 * (p - 240) < 480; omega, hr⟩
      show _ < max a.deep b.deep + 1
      exact Nat.lt_succ_of_le (Nat.le_max_right _ _)
  | pretence a b =>
    rw [show inner (.pretence a b) p r = if 160 ≤ p ∧ p < 320 ∧ 192 ≤ r ∧ r < 384 then (b, 3 * (p - 160), 3 * (r - 192)) else (a, p, r) from rfl]
    split
    · rename_i h
      refine ⟨hw.2, ?_, by show 3 * (p - 160) < 480; omega, by show 3 * (r - 192) < 576; omega⟩
      show _ < max a.deep b.deep + 1
      exact Nat.lt_succ_of_le (Nat.le_max_right _ _)
    · refine ⟨hw.1, ?_, hp, hr⟩
      show _ < max a.deep b.deep + 1
      exact Nat.lt_succ_of_le (Nat.le_max_left _ _)
theorem bit_is (x k : Nat) : x.testBit k = decide (x / 2 ^ k % 2 = 1) := Nat.testBit_eq_decide_div_mod_eq
end HC
namespace HC
/-! ### which of the coats in a coat a point is of; how many parts are told ahead of it -/
def ix : ShMarsh.Coat → Nat → Nat → Nat
  | .one _, _, _ => 0
  | .quarters l, p, r =>
    let c := ShMarsh.side l.length
    let k := (r * c / 576) * c + p * c / 480
    if k < l.length then k else 0
  | .impaled _ _, p, _ => if p < 240 then 0 else 1
  | .pretence _ _, p, r => if 160 ≤ p ∧ p < 320 ∧ 192 ≤ r ∧ r < 384 then 1 else 0
def before (c : ShMarsh.Coat) (i : Nat) : Nat := (((inn c).take i).map ShMarsh.Coat.parts).sum
theorem pick_num : ∀ (l : List ShMarsh.Coat) (k i p r : Nat) (e : ShMarsh.Coat), k < l.length → ShMarsh.pick l k i p r = (l.getD k e).partAt (i + ((l.take k).map ShMarsh.Coat.parts).sum) p r
  | [], k, _, _, _, _, h => by simp at h
  | x :: l, 0, i, p, r, e, _ => by
    unfold ShMarsh.pick
    rw [if_pos rfl]
    rfl
  | x :: l, k + 1, i, p, r, e, h => by
    unfold ShMarsh.pick
    rw [if_neg (by omega)]
    show ShMarsh.pick l k _ p r = _
    rw [pick_num l k _ p r e (by simpa using h), List.take_succ_cons, List.map_cons, List.sum_cons, Nat.add_assoc]
    rfl
theorem inner_ix {c : ShMarsh.Coat} {p r : Nat} (hn : ∀ m, c ≠ .one m) : (inner c p r).1 = (inn c).getD (ix c p r) (.quarters []) := by
  cases c with
  | one m => exact absurd rfl (hn m)
  | quarters l => rfl
  | impaled a b =>
    show (if p < 240 then (a, 2 * p, r) else (b, 2 * (p - 240), r)).1 = [a, b].getD (if p < 240 then 0 else 1) _
    by_cases h : p < 240
    · rw [if_pos h, if_pos h] <;> rfl
    · rw [if_neg h, if_neg h] <;> rfl
  | pretence a b =>
    show (if 160 ≤ p ∧ p < 320 ∧ 192 ≤ r ∧ r < 384 then (b, 3 * (p - 160), 3 * (r - 192)) else (a, p, r)).1 = [a, b].getD (if 160 ≤ p ∧ p < 320 ∧ 192 ≤ r ∧ r < 384 then 1 else 0) _
    by_cases h : 160 ≤ p ∧ p < 320 ∧ 192 ≤ r ∧ r < 384
    · rw [if_pos h, if_pos h] <;> rfl
    · rw [if_neg h, if_neg h] <;> rfl
theorem ix_lt {c : ShMarsh.Coat} {p r : Nat} (hn : ∀ m, c ≠ .one m) (hw : WCoat c) : ix c p r < (inn c).length := by
  cases c with
  | one m => exact absurd rfl (hn m)
  | quarters l =>
    have h2 : 2 ≤ l.length := hw.1
    show (if _ then _ else 0) < l.length
    split <;> omega
  | impaled a b =>
    show (if _ then 0 else 1) < 2
    split <;> omega
  | pretence a b =>
    show (if _ then 1 else 0) < 2
    split <;> omega
/-- one step down, with the number of parts ahead -/
theorem num_step {c : ShMarsh.Coat} {n p r : Nat} (hn : ∀ m, c ≠ .one m) (hw : WCoat c) : c.partAt n p r = (inner c p r).1.partAt (n + before c (ix c p r)) (inner c p r).2.1 (inner c p r).2.2 := by
  cases c with
  | one m => exact absurd rfl (hn m)
  | quarters l =>
    have hk := ix_lt (p := p) (r := r) hn hw
    rw [ShMarsh.Coat.partAt]
    exact pick_num l _ _ _ _ (.quarters []) hk
  | impaled a b =>
    rw [show (ShMarsh.Coat.impaled a b).partAt n p r = if p < 240 then a.partAt n (2 * p) r else b.partAt (n + a.parts) (2 * (p - 240)) r from by rw [ShMarsh.Coat.partAt]]
    rw [show inner (.impaled a b) p r = if p < 240 then (a, 2 * p, r) else (b, 2 * (p - 240), r) from rfl, show ix (.impaled a b) p r = if p < 240 then 0 else 1 from rfl]
    by_cases h : p < 240
    · rw [if_pos h, if_pos h, if_pos h] <;> rfl
    · rw [if_neg h, if_neg h, if_neg h] <;> rfl
  | pretence a b =>
    rw [show (ShMarsh.Coat.pretence a b).partAt n p r = if 160 ≤ p ∧ p < 320 ∧ 192 ≤ r ∧ r < 384 then b.partAt (n + a.parts) (3 * (p - 160)) (3 * (r - 192)) else a.partAt n p r from by rw [ShMarsh.Coat.partAt]]
    rw [show inner (.pretence a b) p r = if 160 ≤ p ∧ p < 320 ∧ 192 ≤ r ∧ r < 384 then (b, 3 * (p - 160), 3 * (r - 192)) else (a, p, r) from rfl, show ix (.pretence a b) p r = if 160 ≤ p ∧ p < 320 ∧ 192 ≤ r ∧ r < 384 then 1 else 0 from rfl]
    by_cases h : 160 ≤ p ∧ p < 320 ∧ 192 ≤ r ∧ r < 384
    · rw [if_pos h, if_pos h, if_pos h] <;> rfl
    · rw [if_neg h, if_neg h, if_neg h] <;> rfl
end HC
namespace HC
open PySem PySem.Spec PyProof.Rows L2
section
variable {P : Program} {w : World} {K : PySem.W.Frag} {mg : Str → Option Value} {base : Heap} {d : Ad}
/-! ### a coat within the whole, the number of its first part, one of its points -/
def Spot (d : Ad) (u : V) (n : Nat) (p r : V) (H : Hp) (b : Addr) : Prop := ∃ dx, H b = some (.ins d.cSpot dx ((["coat", "number", "p", "r"] : List Str).zip [u, vN n, p, r]))
theorem cut_take {xs : List V} {i : Nat} (h : i ≤ xs.length) : cutV xs none (some (i : Int)) = xs.take i := by
  unfold cutV
  rw [HT.sIx_none, HT.sIx_nat, List.drop_zero, Nat.sub_zero, Nat.min_eq_left h]
theorem All2.take {α : Type} {R : V → α → Prop} {vs : List V} {xs : List α} (t : All2 R vs xs) : ∀ i, All2 R (vs.take i) (xs.take i) := by
  induction t with
  | nil => intro i; rw [List.take_nil, List.take_nil]; exact .nil
  | cons h _ ih =>
    intro i
    cases i with
    | zero => exact .nil
    | succ i => exact .cons h (ih i)
theorem All2.put {α : Type} {R : V → α → Prop} {vs : List V} {xs : List α} (t : All2 R vs xs) : ∀ {i : Nat}, i < xs.length → ∃ v, vs[i]? = some v ∧ ∀ e : α, R v (xs.getD i e) := by
  induction t with
  | nil => intro i h; simp at h
  | cons h' _ ih =>
    intro i h
    cases i with
    | zero => exact ⟨_, rfl, fun _ => h'⟩
    | succ i =>
      obtain ⟨v, e, r⟩ := ih (i := i) (by simpa using h)
      exact ⟨v, e, r⟩
def spInner (d : Ad) : Sp := fun vs H Q _ => ∃ (b : Addr) (u : V) (c : ShMarsh.Coat) (H0 : Hp) (n i : Nat) (p0 r0 p r : V), vs = [.ref b, vN i, p, r] ∧ Spot d u n p0 r0 H b ∧ RC d H0 H u c ∧ c.deep ≤ 4 ∧ Small c ∧ i < (inn c).length ∧
  ∀ (b' : Addr) (u' : V) (H' : Hp), Same H H' → Spot d u' (n + before c i) p r H' b' → RC d H0 H' u' ((inn c).getD i (.quarters [])) → Q (.ref b') H'
theorem sc_inner_spot : FnScope ["spot", "index", "p", "r", "coats", "ahead", "coat"] ["spot", "index", "p", "r"] (defScope s_inner_spot) := ⟨rfl, rfl, rfl, by decide +kernel, rfl, by decide +kernel, by decide +kernel⟩
theorem ok_inner_spot (T : Txt K mg d) : OkD P w K mg base CX0 9 d.f_inner_spot ["spot", "index", "p", "r"] (spInner d) := by
  obtain ⟨fd, F, B⟩ := T.k_inner_spot.ex
  obtain ⟨⟨fd_parts_in, G_parts_in, B_parts_in⟩, kp_parts_in⟩ := ok_parts_in (P := P) (w := w) (base := base) T 4
  obtain ⟨⟨fd_coats_in, G_coats_in, B_coats_in⟩, kp_coats_in⟩ := ok_coats_in (P := P) (w := w) (base := base) T
  obtain ⟨⟨fd_Spot, G_Spot, B_Spot⟩, kp_Spot⟩ := ok_Spot_init (P := P) (w := w) (base := base) T
  refine ⟨⟨fd, ?_, B⟩, F.kp⟩
  refine F.ok (k := 8) sc_inner_spot (fun vs H Q E h => ?_) (fun cdv A outer s H vs Q E hr h => ?_)
  · obtain ⟨b, u, c, H0, n, i, p0, r0, p, r, rfl, _⟩ := h
    rfl
  · obtain ⟨b, u, c, H0, n, i, p0, r0, p, r, rfl, ⟨dxb, hb⟩, hu, h4, hs, hi, k⟩ := h
    have hr_parts_in : Room 7 _ := hr.mono (by decide)
    have hr_coats_in : Room 2 _ := hr.mono (by decide)
    have hr_Spot : Room 2 _ := hr.mono (by decide)
    refine ⟨_, pss_cons (ps_set (i := 4) sc_inner_spot.nd rfl (Or.inl rfl) (pe_call G_coats_in hr_coats_in rfl T.k_coats_in.gl kp_coats_in B_coats_in .nil pass0 (pa_cons (pe_fld (pv 0) rfl) pa_nil)))
      (pss_cons (ps_set (i := 5) sc_inner_spot.nd rfl (Or.inl rfl) (pe_callB (cr_sum rfl) (by rfl) T.b_sum (by decide +kernel) (pa_cons (pe_lc (own := [("coat", 6)]) (g := gName 6) (tt := tYes) rfl sc_inner_spot.nd (pi_list (pe_slice sl_list (pv 4) po_none (po_some (pv 1)))) (blkOk_by (N := ["spot", "index", "p", "r", "coats", "ahead", "coat"]) (sc := defScope s_inner_spot) (by decide +kernel)) (fun _ _ _ _ _ => pg_name (i := 6) sc_inner_spot.nd rfl (Or.inl rfl)) (fun _ _ _ _ _ => pts_nil) (fun _ _ _ _ _ => (pe_call G_parts_in hr_parts_in rfl T.k_parts_in.gl kp_parts_in B_parts_in .nil pass0 (pa_cons (pv 6) pa_nil)))) pa_nil)))
      (pss_one (ps_ret (pe_make T.kSpot.mak G_Spot hr_Spot rfl T.kSpot.gl B_Spot .nil pass0 (pa_cons (pe_ix ix_list (pv 4) (pv 1) (fun _ _ => rfl)) (pa_cons (pe_op op_add (pe_fld (pv 0) rfl) (pv 5)) (pa_cons (pv 2) (pa_cons (pv 3) pa_nil)))))))), ?_⟩
    refine ⟨_, rfl, b, d.cSpot, dxb, _, _, rfl, hb, T.kSpot.cl, T.kSpot.no.1, look_at _ _ _ 0 rfl (by decide +kernel), u, c, H0, rfl, hu, fun H2 q us s2 nq hq hall => ?_⟩
    have hlen := hall.length
    have hb2 := s2 _ _ hb
    have hsl := small_len hs
    refine ⟨_, rfl, _, rfl, (i : Int), rfl, q, us, rfl, SqL.of hq, fun t nt => ⟨t, rfl, ⟨_, SqL.of upd_same⟩, fun D hD => ?_⟩⟩
    rw [cut_take (by omega)] at hD ⊢
    have hallt := hall.take i
    have s3 : Same H2 (upd H2 t (.lst (us.take i))) := fun b o e => by rw [upd_ne (ne_of_none e nt)]; exact e
    have ht : upd H2 t (.lst (us.take i)) t = some (.lst (us.take i)) := upd_same
    generalize upd H2 t (.lst (us.take i)) = H3 at hD s3 ht
    refine lc_list (xs := us.take i) (Cn H3 D (((inn c).take i).map ShMarsh.Coat.parts)) Cn.start (fun j H' _ cn => SqL.of (cn.sm t _ (ne_of_none ht hD) ht)) (fun j x H' hx cn => ?_) (fun H' cn => ?_)
    · obtain ⟨x', hx', rx⟩ := hallt.at_ hx
      have mem : x' ∈ inn c := List.mem_of_mem_take (List.mem_of_getElem? hx')
      have hd' := inn_deep mem
      have hj : j < (us.take i).length := by
        rcases Nat.lt_or_ge j (us.take i).length with z | z
        · exact z
        · rw [List.getElem?_eq_none z] at hx
          cases hx
      refine ⟨rfl, ?_⟩
      unfold tYes
      dsimp only
      rw [if_pos rfl]
      have mv : Mv H0 H H0 H' := ⟨fun _ z => z, fun b o _ e => cn.sm b o (ne_of_none (s3 _ _ (s2 b o e)) hD) (s3 _ _ (s2 b o e))⟩
      refine ⟨_, rfl, x, x', H0, rfl, RC.mv rx mv, by omega, hs.len mem, hs.sub mem, fun H4 s4 => ?_⟩
      obtain ⟨t1, t2⟩ := cn.turn s4 (by rw [List.getElem?_map, hx']; rfl)
      refine ⟨_, t1, ?_, t2⟩
      rw [List.length_map, List.length_take]
      rw [List.length_take] at hj
      exact Nat.lt_of_le_of_lt (Nat.min_le_left _ _) (Nat.lt_of_lt_of_le (show j < 1000 by omega) (by decide))
    · rw [show (us.take i).length = (((inn c).take i).map ShMarsh.Coat.parts).length by rw [List.length_map, List.length_take, List.length_take, hlen]] at cn
      obtain ⟨s5, h5⟩ := cn.fin hD
      rw [map_vN] at h5
      refine ⟨D, _, rfl, SqL.of h5, ?_⟩
      rw [sum_cast]
      have sA : Same H H' := (s2.trans s3).trans s5
      obtain ⟨v, hv, rv⟩ := hall.put hi
      have hq' := s5 _ _ (s3 _ _ hq)
      have hb' := sA _ _ hb
      refine ⟨_, rfl, _, rfl, q, us, _, v, rfl, rfl, SqL.of hq', atI_nat hv, _, rfl, b, d.cSpot, dxb, _, _, rfl, hb', T.kSpot.cl, T.kSpot.no.2.1, look_at _ _ _ 1 rfl (by decide +kernel), _, rfl, _, _, rfl, rfl, _, rfl, _, rfl, ?_⟩
      refine made rfl fun b' dx' H6 nb s6 hb6 => k b' v H6 (sA.trans s6) ⟨dx', ?_⟩ (RC.mv (rv _) (Mv.here (sA.trans s6)))
      have e : V.int ((n : Int) + (((((inn c).take i).map ShMarsh.Coat.parts).sum : Nat) : Int)) = vN (n + before c i) := congrArg V.int (by unfold before; omega)
      rw [← e]
      exact hb6
end
end HC


namespace HC
open PySem PySem.Spec PyProof.Rows L2
section
variable {P : Program} {w : World} {K : PySem.W.Frag} {mg : Str → Option Value} {base : Heap} {d : Ad}
/-! ### how many a side -/
abbrev sp_coats_a_side : Sp := spI1 (fun many => 2 ≤ many ∧ many ≤ 9) (fun many => .int (ShMarsh.side many.toNat))
theorem sc_coats_a_side : FnScope ["many", "side"] ["many"] (defScope s_coats_a_side) := ⟨rfl, rfl, rfl, by decide +kernel, rfl, by decide +kernel, by decide +kernel⟩
theorem ok_coats_a_side (T : Txt K mg d) : OkD P w K mg base CX0 1 d.f_coats_a_side ["many"] (sp_coats_a_side) := by
  obtain ⟨fd, F, B⟩ := T.k_coats_a_side.ex
  refine ⟨⟨fd, F.ok sc_coats_a_side (fun vs H Q E h => ?_) (fun cdv A outer s H vs Q E hr h => ?_), B⟩, F.kp⟩
  · obtain ⟨many, rfl, _⟩ := h
    rfl
  · obtain ⟨many, rfl, hC, k⟩ := h
    refine ⟨_, pss_cons (ps_set (i := 1) sc_coats_a_side.nd rfl (Or.inl rfl) pe_int)
      (pss_cons (ps_while PassesOwn.never (pt_cmpR op_lt (pe_op op_mul (pv 1) (pv 1)) (pv 0) (nomark _))
        (pss_one (ps_set (i := 1) sc_coats_a_side.nd rfl (Or.inl rfl) (pe_op op_add (pv 1) pe_int))))
      (pss_one (ps_ret (pv 1)))), ?_⟩
    refine ⟨fun m σ Hc => ∃ s : Int, σ = [some (.int many), some (.int s)] ∧ Hc = H ∧ 1 ≤ s ∧ s ≤ 3 ∧ (s = 1 ∨ s = 2 ∨ s = 3 ∧ 4 < many) ∧ m = (4 - s).toNat, ⟨3, 1, rfl, rfl, by decide, by decide, .inl rfl, by decide⟩, ?_⟩
    rintro m σ Hc ⟨s', rfl, rfl, h1, h2, h3, rfl⟩
    refine ⟨_, rfl, _, rfl, _, _, rfl, rfl, Or.inl ⟨by omega, by omega⟩, _, rfl, _, _, rfl, rfl, _, rfl, ?_⟩
    refine ite2 (fun c => ?_) (fun c => ?_)
    · have c' := of_decide_eq_true c
      have hs : s' = 1 ∨ s' = 2 := by
        rcases h3 with e | e | ⟨e, _⟩
        · exact .inl e
        · exact .inr e
        · subst e
          have : (3 : Int) * 3 < many := c'
          omega
      refine ⟨fun σ' H' => ∃ z : Int, σ' = [some (.int many), some (.int (s' + 1))] ∧ H' = Hc, fun σ' H' ⟨_, e1, e2⟩ => ⟨(4 - (s' + 1)).toNat, by omega, s' + 1, e1, e2, by omega, by omega, ?_, rfl⟩, ?_⟩
      · rcases hs with e | e
        · subst e; exact .inr (.inl rfl)
        · subst e
          have : (2 : Int) * 2 < many := c'
          exact .inr (.inr ⟨rfl, by omega⟩)
      · exact ⟨_, rfl, _, _, rfl, rfl, 0, rfl, rfl⟩
    · have c' : ¬ s' * s' < many := fun z => c (decide_eq_true z)
      refine ⟨_, rfl, castI k ?_⟩
      unfold ShMarsh.side
      rcases h3 with e | e | ⟨e, h4⟩
      · subst e
        have : ¬ (1 : Int) * 1 < many := c'
        omega
      · subst e
        have : ¬ (2 : Int) * 2 < many := c'
        rw [if_neg (by omega), if_pos (by omega)]
        rfl
      · subst e
        rw [if_neg (by omega), if_neg (by omega)]
        rfl
/-! ### one step down -/
def spWithin (d : Ad) (pre : ShMarsh.Coat → Prop) : Sp := fun vs H Q _ => ∃ (b : Addr) (u : V) (c : ShMarsh.Coat) (H0 : Hp) (n p r : Nat), vs = [.ref b] ∧ Spot d u n (vN p) (vN r) H b ∧ RC d H0 H u c ∧ pre c ∧ WCoat c ∧ c.deep ≤ 4 ∧ (∀ m, c ≠ .one m) ∧ p < 480 ∧ r < 576 ∧
  ∀ (b' : Addr) (u' : V) (H' : Hp), Same H H' → Spot d u' (n + before c (ix c p r)) (vN (inner c p r).2.1) (vN (inner c p r).2.2) H' b' → RC d H0 H' u' (inner c p r).1 → Q (.ref b') H'
theorem sc_quarterly_spot : FnScope ["spot", "many", "side", "index"] ["spot"] (defScope s_quarterly_spot) := ⟨rfl, rfl, rfl, by decide +kernel, rfl, by decide +kernel, by decide +kernel⟩
theorem ok_quarterly_spot (T : Txt K mg d) : OkD P w K mg base CX0 10 d.f_quarterly_spot ["spot"] (spWithin d (fun c => ∃ l, c = .quarters l)) := by
  obtain ⟨fd, F, B⟩ := T.k_quarterly_spot.ex
  obtain ⟨⟨fd_coats_a_side, G_coats_a_side, B_coats_a_side⟩, kp_coats_a_side⟩ := ok_coats_a_side (P := P) (w := w) (base := base) T
  obtain ⟨⟨fd_inner_spot, G_inner_spot, B_inner_spot⟩, kp_inner_spot⟩ := ok_inner_spot (P := P) (w := w) (base := base) T
  obtain ⟨c_WIDTH, m_WIDTH⟩ := T.nWIDTH
  obtain ⟨c_HEIGHT, m_HEIGHT⟩ := T.nHEIGHT
  refine ⟨⟨fd, F.ok sc_quarterly_spot (fun vs H Q E h => ?_) (fun cdv A outer s H vs Q E hr h => ?_), B⟩, F.kp⟩
  · obtain ⟨b, u, c, H0, n, p, r, rfl, _⟩ := h
    rfl
  · obtain ⟨b, u, c, H0, n, p, r, rfl, ⟨dxb, hb⟩, hu, ⟨l, rfl⟩, hw, h4, hn, hp, hr', k⟩ := h
    have hr_coats_a_side : Room 1 _ := hr.mono (by decide)
    have hr_inner_spot : Room 9 _ := hr.mono (by decide)
    refine ⟨_, pss_cons (ps_set (i := 1) sc_quarterly_spot.nd rfl (Or.inl rfl) (pe_callB call_len_seq (by rfl) T.b_len PySem.boot_len (pa_cons (pe_fld (pe_fld (pv 0) rfl) rfl) pa_nil)))
      (pss_cons (ps_set (i := 2) sc_quarterly_spot.nd rfl (Or.inl rfl) (pe_call G_coats_a_side hr_coats_a_side rfl T.k_coats_a_side.gl kp_coats_a_side B_coats_a_side .nil pass0 (pa_cons (pv 1) pa_nil)))
      (pss_cons (ps_set (i := 3) sc_quarterly_spot.nd rfl (Or.inl rfl) (pe_op op_add (pe_op op_mul (pe_op op_fdiv (pe_op op_mul (pe_fld (pv 0) rfl) (pv 2)) (pgi m_HEIGHT)) (pv 2)) (pe_op op_fdiv (pe_op op_mul (pe_fld (pv 0) rfl) (pv 2)) (pgi m_WIDTH))))
      (pss_one (ps_ret (pe_call G_inner_spot hr_inner_spot rfl T.k_inner_spot.gl kp_inner_spot B_inner_spot .nil pass0 (pa_cons (pv 0) (pa_cons (pe_ifExp (pt_cmpR op_lt (pv 3) (pv 1) (nomark _)) (pv 3) pe_int) (pa_cons (pe_op op_mod (pe_op op_mul (pe_fld (pv 0) rfl) (pv 2)) (pgi m_WIDTH)) (pa_cons (pe_op op_mod (pe_op op_mul (pe_fld (pv 0) rfl) (pv 2)) (pgi m_HEIGHT)) pa_nil))))))))), ?_⟩
    have hu' := hu
    have hs := small_of hw
    obtain ⟨q, us, ⟨x, dxx, rfl, _, hx⟩, ⟨_, hq⟩, hc⟩ := hu
    have hall := all_of hc
    have hlen := hall.length
    obtain ⟨w1, w2, w3⟩ : 2 ≤ l.length ∧ l.length ≤ 9 ∧ WCoats l := hw
    obtain ⟨s1, s2⟩ := side_bd l.length
    -- many, side
    refine ⟨_, rfl, b, d.cSpot, dxb, _, _, rfl, hb, T.kSpot.cl, T.kSpot.no.1, look_at _ _ _ 0 rfl (by decide +kernel), x, d.cQuarterly, dxx, _, _, rfl, hx, T.kQuarterly.cl, T.kQuarterly.no.1, look_at _ _ _ 0 rfl (by decide +kernel), q, us, rfl, .inl (SqL.of hq), ?_⟩
    refine ⟨_, rfl, _, rfl, (by omega), ?_⟩
    obtain ⟨sd, hsd⟩ : ∃ sd, ShMarsh.side l.length = sd := ⟨_, rfl⟩
    have hs' : ShMarsh.side ((us.length : Int)).toNat = sd := by
      rw [show ((us.length : Int)).toNat = l.length by omega]
      exact hsd
    rw [hsd] at s1 s2
    dsimp only [gName]
    rw [hs']
    -- index
    refine ⟨_, rfl, b, d.cSpot, dxb, _, _, rfl, hb, T.kSpot.cl, T.kSpot.no.2.2.2.1, look_at _ _ _ 3 rfl (by decide +kernel), _, rfl, _, _, rfl, rfl, Or.inr ⟨by omega, by omega⟩, _, _, rfl, rfl, ⟨by decide, by decide⟩, _, rfl, _, _, rfl, rfl, Or.inr ⟨by omega, by omega⟩, _, rfl, b, d.cSpot, dxb, _, _, rfl, hb, T.kSpot.cl, T.kSpot.no.2.2.1, look_at _ _ _ 2 rfl (by decide +kernel), _, rfl, _, _, rfl, rfl, Or.inr ⟨by omega, by omega⟩, _, _, rfl, rfl, ⟨by decide, by decide⟩, _, _, rfl, rfl, ?_⟩
    have hk : ((r : Int) * (sd : Int) / 576 * (sd : Int) + (p : Int) * (sd : Int) / 480) = ((r * sd / 576 * sd + p * sd / 480 : Nat) : Int) := by
      rw [Int.natCast_add, Int.natCast_mul, Int.natCast_ediv, Int.natCast_ediv, Int.natCast_mul, Int.natCast_mul]
      rfl
    have mp : V.int ((p : Int) * (sd : Int) % 480) = vN (p * sd % 480) := by
      show V.int _ = V.int _
      rw [Int.natCast_emod, Int.natCast_mul]
      rfl
    have mr : V.int ((r : Int) * (sd : Int) % 576) = vN (r * sd % 576) := by
      show V.int _ = V.int _
      rw [Int.natCast_emod, Int.natCast_mul]
      rfl
    have ein : inner (.quarters l) p r = (l.getD (ix (.quarters l) p r) (.quarters []), p * sd % 480, r * sd % 576) := by
      rw [← hsd]
      rfl
    have eix : ix (.quarters l) p r = if r * sd / 576 * sd + p * sd / 480 < l.length then r * sd / 576 * sd + p * sd / 480 else 0 := by
      rw [← hsd]
      rfl
    have hix := ix_lt (p := p) (r := r) hn ⟨w1, w2, w3⟩
    rw [ein] at k
    dsimp only [gName]
    rw [hk]
    have fin : spInner d [.ref b, vN (ix (.quarters l) p r), .int ((p : Int) * (sd : Int) % 480), .int ((r : Int) * (sd : Int) % 576)] H Q E0 := by
      refine ⟨b, _, .quarters l, H0, n, _, _, _, _, _, rfl, ⟨dxb, hb⟩, hu', h4, hs, hix, fun b' u' H' sm sp rc => k b' u' H' sm ?_ rc⟩
      rw [← mp, ← mr]
      exact sp
    refine ⟨_, rfl, _, rfl, _, rfl, _, _, rfl, rfl, _, rfl, ?_⟩
    refine ite2 (fun c => ?_) (fun c => ?_)
    · have c' : r * sd / 576 * sd + p * sd / 480 < l.length := by
        have := of_decide_eq_true c
        omega
      rw [eix, if_pos c'] at fin
      exact ⟨_, rfl, _, rfl, b, d.cSpot, dxb, _, _, rfl, hb, T.kSpot.cl, T.kSpot.no.2.2.1, look_at _ _ _ 2 rfl (by decide +kernel), _, rfl, _, _, rfl, rfl, Or.inr ⟨by omega, by omega⟩, _, _, rfl, rfl, (by show (0 : Int) < 480; decide), _, rfl, b, d.cSpot, dxb, _, _, rfl, hb, T.kSpot.cl, T.kSpot.no.2.2.2.1, look_at _ _ _ 3 rfl (by decide +kernel), _, rfl, _, _, rfl, rfl, Or.inr ⟨by omega, by omega⟩, _, _, rfl, rfl, (by show (0 : Int) < 576; decide), fin⟩
    · have c' : ¬ r * sd / 576 * sd + p * sd / 480 < l.length := by
        intro z
        exact c (decide_eq_true (by omega))
      rw [eix, if_neg c'] at fin
      exact ⟨_, rfl, b, d.cSpot, dxb, _, _, rfl, hb, T.kSpot.cl, T.kSpot.no.2.2.1, look_at _ _ _ 2 rfl (by decide +kernel), _, rfl, _, _, rfl, rfl, Or.inr ⟨by omega, by omega⟩, _, _, rfl, rfl, (by show (0 : Int) < 480; decide), _, rfl, b, d.cSpot, dxb, _, _, rfl, hb, T.kSpot.cl, T.kSpot.no.2.2.2.1, look_at _ _ _ 3 rfl (by decide +kernel), _, rfl, _, _, rfl, rfl, Or.inr ⟨by omega, by omega⟩, _, _, rfl, rfl, (by show (0 : Int) < 576; decide), fin⟩
theorem sc_impaled_spot : FnScope ["spot"] ["spot"] (defScope s_impaled_spot) := ⟨rfl, rfl, rfl, by decide +kernel, rfl, by decide +kernel, by decide +kernel⟩
theorem ok_impaled_spot (T : Txt K mg d) : OkD P w K mg base CX0 10 d.f_impaled_spot ["spot"] (spWithin d (fun c => ∃ x y, c = .impaled x y)) := by
  obtain ⟨fd, F, B⟩ := T.k_impaled_spot.ex
  obtain ⟨⟨fd_inner_spot, G_inner_spot, B_inner_spot⟩, kp_inner_spot⟩ := ok_inner_spot (P := P) (w := w) (base := base) T
  refine ⟨⟨fd, F.ok sc_impaled_spot (fun vs H Q E h => ?_) (fun cdv A outer s H vs Q E hr h => ?_), B⟩, F.kp⟩
  · obtain ⟨b, u, c, H0, n, p, r, rfl, _⟩ := h
    rfl
  · obtain ⟨b, u, c, H0, n, p, r, rfl, ⟨dxb, hb⟩, hu, ⟨x, y, rfl⟩, hw, h4, hn, hp, hr', k⟩ := h
    have hr_inner_spot : Room 9 _ := hr.mono (by decide)
    refine ⟨_, pss_cons (ps_if (pt_cmpR op_lt (pe_fld (pv 0) rfl) pe_int (nomark _))
        (pss_one (ps_ret (pe_call G_inner_spot hr_inner_spot rfl T.k_inner_spot.gl kp_inner_spot B_inner_spot .nil pass0 (pa_cons (pv 0) (pa_cons pe_int (pa_cons (pe_op op_mul pe_int (pe_fld (pv 0) rfl)) (pa_cons (pe_fld (pv 0) rfl) pa_nil)))))))
        pss_nil)
      (pss_one (ps_ret (pe_call G_inner_spot hr_inner_spot rfl T.k_inner_spot.gl kp_inner_spot B_inner_spot .nil pass0 (pa_cons (pv 0) (pa_cons pe_int (pa_cons (pe_op op_mul pe_int (pe_op op_sub (pe_fld (pv 0) rfl) pe_int)) (pa_cons (pe_fld (pv 0) rfl) pa_nil))))))), ?_⟩
    have hs := small_of hw
    refine ⟨_, rfl, b, d.cSpot, dxb, _, _, rfl, hb, T.kSpot.cl, T.kSpot.no.2.2.1, look_at _ _ _ 2 rfl (by decide +kernel), _, _, rfl, rfl, _, rfl, ?_⟩
    refine ite2 (fun c => ?_) (fun c => ?_)
    · have c' : p < 240 := by
        have := of_decide_eq_true c
        omega
      rw [show inner (.impaled x y) p r = (x, 2 * p, r) from if_pos c', show ix (.impaled x y) p r = 0 from if_pos c'] at k
      exact ⟨_, rfl, _, rfl, b, d.cSpot, dxb, _, _, rfl, hb, T.kSpot.cl, T.kSpot.no.2.2.1, look_at _ _ _ 2 rfl (by decide +kernel), _, _, rfl, rfl, Or.inl ⟨by decide, by decide⟩, _, rfl, b, d.cSpot, dxb, _, _, rfl, hb, T.kSpot.cl, T.kSpot.no.2.2.2.1, look_at _ _ _ 3 rfl (by decide +kernel), b, u, .impaled x y, H0, n, 0, _, _, _, _, rfl, ⟨dxb, hb⟩, hu, h4, hs, (by show 0 < 2; decide), fun b' u' H' sm sp rc => k b' u' H' sm sp rc⟩
    · have c' : ¬ p < 240 := fun z => c (decide_eq_true (by omega))
      rw [show inner (.impaled x y) p r = (y, 2 * (p - 240), r) from if_neg c', show ix (.impaled x y) p r = 1 from if_neg c'] at k
      have e : V.int (2 * ((p : Int) - 240)) = vN (2 * (p - 240)) := congrArg V.int (by omega)
      refine ⟨_, rfl, _, rfl, b, d.cSpot, dxb, _, _, rfl, hb, T.kSpot.cl, T.kSpot.no.2.2.1, look_at _ _ _ 2 rfl (by decide +kernel), _, _, rfl, rfl, _, _, rfl, rfl, Or.inl ⟨by decide, by decide⟩, _, rfl, b, d.cSpot, dxb, _, _, rfl, hb, T.kSpot.cl, T.kSpot.no.2.2.2.1, look_at _ _ _ 3 rfl (by decide +kernel), b, u, .impaled x y, H0, n, 1, _, _, _, _, rfl, ⟨dxb, hb⟩, hu, h4, hs, (by show 1 < 2; decide), fun b' u' H' sm sp rc => k b' u' H' sm ?_ rc⟩
      rw [← e]
      exact sp
theorem sc_pretence_spot : FnScope ["spot"] ["spot"] (defScope s_pretence_spot) := ⟨rfl, rfl, rfl, by decide +kernel, rfl, by decide +kernel, by decide +kernel⟩
theorem ok_pretence_spot (T : Txt K mg d) : OkD P w K mg base CX0 10 d.f_pretence_spot ["spot"] (spWithin d (fun c => ∃ x y, c = .pretence x y)) := by
  obtain ⟨fd, F, B⟩ := T.k_pretence_spot.ex
  obtain ⟨⟨fd_inner_spot, G_inner_spot, B_inner_spot⟩, kp_inner_spot⟩ := ok_inner_spot (P := P) (w := w) (base := base) T
  refine ⟨⟨fd, F.ok sc_pretence_spot (fun vs H Q E h => ?_) (fun cdv A outer s H vs Q E hr h => ?_), B⟩, F.kp⟩
  · obtain ⟨b, u, c, H0, n, p, r, rfl, _⟩ := h
    rfl
  · obtain ⟨b, u, c, H0, n, p, r, rfl, ⟨dxb, hb⟩, hu, ⟨x, y, rfl⟩, hw, h4, hn, hp, hr', k⟩ := h
    have hr_inner_spot : Room 9 _ := hr.mono (by decide)
    refine ⟨_, pss_cons (ps_if (PW.pt (pw_and (pt_chain op_le op_lt pe_int (pe_fld (pv 0) rfl) pe_int) (pw_and1 (pt_chain op_le op_lt pe_int (pe_fld (pv 0) rfl) pe_int))))
        (pss_one (ps_ret (pe_call G_inner_spot hr_inner_spot rfl T.k_inner_spot.gl kp_inner_spot B_inner_spot .nil pass0 (pa_cons (pv 0) (pa_cons pe_int (pa_cons (pe_op op_mul pe_int (pe_op op_sub (pe_fld (pv 0) rfl) pe_int)) (pa_cons (pe_op op_mul pe_int (pe_op op_sub (pe_fld (pv 0) rfl) pe_int)) pa_nil)))))))
        pss_nil)
      (pss_one (ps_ret (pe_call G_inner_spot hr_inner_spot rfl T.k_inner_spot.gl kp_inner_spot B_inner_spot .nil pass0 (pa_cons (pv 0) (pa_cons pe_int (pa_cons (pe_fld (pv 0) rfl) (pa_cons (pe_fld (pv 0) rfl) pa_nil))))))), ?_⟩
    have hs := small_of hw
    have e1 : 160 ≤ p → V.int (3 * ((p : Int) - 160)) = vN (3 * (p - 160)) := fun _ => congrArg V.int (by omega)
    have e2 : 192 ≤ r → V.int (3 * ((r : Int) - 192)) = vN (3 * (r - 192)) := fun _ => congrArg V.int (by omega)
    have out : ¬ (160 ≤ p ∧ p < 320 ∧ 192 ≤ r ∧ r < 384) → spInner d [.ref b, vN 0, vN p, vN r] H Q E0 := fun c' => by
      rw [show inner (.pretence x y) p r = (x, p, r) from if_neg c', show ix (.pretence x y) p r = 0 from if_neg c'] at k
      exact ⟨b, u, .pretence x y, H0, n, 0, _, _, _, _, rfl, ⟨dxb, hb⟩, hu, h4, hs, (by show 0 < 2; decide), fun b' u' H' sm sp rc => k b' u' H' sm sp rc⟩
    refine ⟨_, rfl, b, d.cSpot, dxb, _, _, rfl, hb, T.kSpot.cl, T.kSpot.no.2.2.1, look_at _ _ _ 2 rfl (by decide +kernel), _, _, rfl, rfl, _, rfl, ?_⟩
    refine ite2 (fun c1 => ?_) (fun c1 => ?_)
    · have c1' := of_decide_eq_true c1
      refine ⟨_, _, rfl, rfl, _, rfl, ?_⟩
      refine ite2 (fun c2 => ?_) (fun c2 => ?_)
      · have c2' := of_decide_eq_true c2
        refine ⟨_, rfl, b, d.cSpot, dxb, _, _, rfl, hb, T.kSpot.cl, T.kSpot.no.2.2.2.1, look_at _ _ _ 3 rfl (by decide +kernel), _, _, rfl, rfl, _, rfl, ?_⟩
        refine ite2 (fun c3 => ?_) (fun c3 => ?_)
        · have c3' := of_decide_eq_true c3
          refine ⟨_, _, rfl, rfl, _, rfl, ?_⟩
          refine ite2 (fun c4 => ?_) (fun c4 => ?_)
          · have c4' := of_decide_eq_true c4
            have cc : 160 ≤ p ∧ p < 320 ∧ 192 ≤ r ∧ r < 384 := by omega
            rw [show inner (.pretence x y) p r = (y, 3 * (p - 160), 3 * (r - 192)) from if_pos cc, show ix (.pretence x y) p r = 1 from if_pos cc] at k
            refine ⟨_, rfl, _, rfl, b, d.cSpot, dxb, _, _, rfl, hb, T.kSpot.cl, T.kSpot.no.2.2.1, look_at _ _ _ 2 rfl (by decide +kernel), _, _, rfl, rfl, _, _, rfl, rfl, Or.inl ⟨by decide, by decide⟩, _, rfl, b, d.cSpot, dxb, _, _, rfl, hb, T.kSpot.cl, T.kSpot.no.2.2.2.1, look_at _ _ _ 3 rfl (by decide +kernel), _, _, rfl, rfl, _, _, rfl, rfl, Or.inl ⟨by decide, by decide⟩, b, u, .pretence x y, H0, n, 1, _, _, _, _, rfl, ⟨dxb, hb⟩, hu, h4, hs, (by show 1 < 2; decide), fun b' u' H' sm sp rc => k b' u' H' sm ?_ rc⟩
            rw [← e1 cc.1, ← e2 cc.2.2.1]
            exact sp
          · exact ⟨_, rfl, _, rfl, b, d.cSpot, dxb, _, _, rfl, hb, T.kSpot.cl, T.kSpot.no.2.2.1, look_at _ _ _ 2 rfl (by decide +kernel), _, rfl, b, d.cSpot, dxb, _, _, rfl, hb, T.kSpot.cl, T.kSpot.no.2.2.2.1, look_at _ _ _ 3 rfl (by decide +kernel), out fun z => c4 (decide_eq_true (by omega))⟩
        · refine ⟨_, rfl, ?_⟩
          refine iteF ?_
          exact ⟨_, rfl, _, rfl, b, d.cSpot, dxb, _, _, rfl, hb, T.kSpot.cl, T.kSpot.no.2.2.1, look_at _ _ _ 2 rfl (by decide +kernel), _, rfl, b, d.cSpot, dxb, _, _, rfl, hb, T.kSpot.cl, T.kSpot.no.2.2.2.1, look_at _ _ _ 3 rfl (by decide +kernel), out fun z => c3 (decide_eq_true (by omega))⟩
      · refine iteF ?_
        exact ⟨_, rfl, _, rfl, b, d.cSpot, dxb, _, _, rfl, hb, T.kSpot.cl, T.kSpot.no.2.2.1, look_at _ _ _ 2 rfl (by decide +kernel), _, rfl, b, d.cSpot, dxb, _, _, rfl, hb, T.kSpot.cl, T.kSpot.no.2.2.2.1, look_at _ _ _ 3 rfl (by decide +kernel), out fun z => c2 (decide_eq_true (by omega))⟩
    · refine ⟨_, rfl, ?_⟩
      refine iteF ?_
      refine iteF ?_
      exact ⟨_, rfl, _, rfl, b, d.cSpot, dxb, _, _, rfl, hb, T.kSpot.cl, T.kSpot.no.2.2.1, look_at _ _ _ 2 rfl (by decide +kernel), _, rfl, b, d.cSpot, dxb, _, _, rfl, hb, T.kSpot.cl, T.kSpot.no.2.2.2.1, look_at _ _ _ 3 rfl (by decide +kernel), out fun z => c1 (decide_eq_true (by omega))⟩
theorem sc_spot_within : FnScope ["spot"] ["spot"] (defScope s_spot_within) := ⟨rfl, rfl, rfl, by decide +kernel, rfl, by decide +kernel, by decide +kernel⟩
theorem ok_spot_within (T : Txt K mg d) : OkD P w K mg base CX0 11 d.f_spot_within ["spot"] (spWithin d (fun _ => True)) := by
  obtain ⟨fd, F, B⟩ := T.k_spot_within.ex
  obtain ⟨⟨fd_pretence_spot, G_pretence_spot, B_pretence_spot⟩, kp_pretence_spot⟩ := ok_pretence_spot (P := P) (w := w) (base := base) T
  obtain ⟨⟨fd_quarterly_spot, G_quarterly_spot, B_quarterly_spot⟩, kp_quarterly_spot⟩ := ok_quarterly_spot (P := P) (w := w) (base := base) T
  obtain ⟨⟨fd_impaled_spot, G_impaled_spot, B_impaled_spot⟩, kp_impaled_spot⟩ := ok_impaled_spot (P := P) (w := w) (base := base) T
  refine ⟨⟨fd, F.ok sc_spot_within (fun vs H Q E h => ?_) (fun cdv A outer s H vs Q E hr h => ?_), B⟩, F.kp⟩
  · obtain ⟨b, u, c, H0, n, p, r, rfl, _⟩ := h
    rfl
  · obtain ⟨b, u, c, H0, n, p, r, rfl, ⟨dxb, hb⟩, hu, _, hw, h4, hn, hp, hr', k⟩ := h
    have hr_pretence_spot : Room 10 _ := hr.mono (by decide)
    have hr_quarterly_spot : Room 10 _ := hr.mono (by decide)
    have hr_impaled_spot : Room 10 _ := hr.mono (by decide)
    refine ⟨_, pss_cons (ps_if (pt_val (pe_callB call_isi (by rfl) T.b_isinstance (by decide +kernel) (pa_cons (pe_fld (pv 0) rfl) (pa_cons (pe_glob (v := .ref d.cQuarterly) rfl T.kQuarterly.gl rfl) pa_nil))))
        (pss_one (ps_ret (pe_call G_quarterly_spot hr_quarterly_spot rfl T.k_quarterly_spot.gl kp_quarterly_spot B_quarterly_spot .nil pass0 (pa_cons (pv 0) pa_nil))))
        pss_nil)
      (pss_cons (ps_if (pt_val (pe_callB call_isi (by rfl) T.b_isinstance (by decide +kernel) (pa_cons (pe_fld (pv 0) rfl) (pa_cons (pe_glob (v := .ref d.cImpaled) rfl T.kImpaled.gl rfl) pa_nil))))
        (pss_one (ps_ret (pe_call G_impaled_spot hr_impaled_spot rfl T.k_impaled_spot.gl kp_impaled_spot B_impaled_spot .nil pass0 (pa_cons (pv 0) pa_nil))))
        pss_nil)
      (pss_one (ps_ret (pe_call G_pretence_spot hr_pretence_spot rfl T.k_pretence_spot.gl kp_pretence_spot B_pretence_spot .nil pass0 (pa_cons (pv 0) pa_nil))))), ?_⟩
    have hu' := hu
    cases c with
    | one m => exact absurd rfl (hn m)
    | quarters l =>
      obtain ⟨q, us, ⟨x, dxx, rfl, _, hx⟩, ⟨_, hq⟩, hc⟩ := hu
      refine ⟨_, rfl, b, d.cSpot, dxb, _, _, rfl, hb, T.kSpot.cl, T.kSpot.no.1, look_at _ _ _ 0 rfl (by decide +kernel), _, _, _, _, _, rfl, ClsV.own _, .base (.ins hx T.kQuarterly.cl T.kQuarterly.cla T.gs T.tk T.kQuarterly.mro), T.iQuarterly_Quarterly, _, rfl, ?_⟩
      refine iteT ?_
      exact ⟨_, rfl, b, _, _, H0, n, p, r, rfl, ⟨dxb, hb⟩, hu', ⟨l, rfl⟩, hw, h4, hn, hp, hr', k⟩
    | impaled y z =>
      obtain ⟨ux, uy, ⟨x, dxx, rfl, _, hx⟩, _, _⟩ := hu
      refine ⟨_, rfl, b, d.cSpot, dxb, _, _, rfl, hb, T.kSpot.cl, T.kSpot.no.1, look_at _ _ _ 0 rfl (by decide +kernel), _, _, _, _, _, rfl, ClsV.own _, .base (.ins hx T.kImpaled.cl T.kImpaled.cla T.gs T.tk T.kImpaled.mro), T.iImpaled_Quarterly, _, rfl, ?_⟩
      refine iteF ?_
      refine ⟨_, rfl, b, d.cSpot, dxb, _, _, rfl, hb, T.kSpot.cl, T.kSpot.no.1, look_at _ _ _ 0 rfl (by decide +kernel), _, _, _, _, _, rfl, ClsV.own _, .base (.ins hx T.kImpaled.cl T.kImpaled.cla T.gs T.tk T.kImpaled.mro), T.iImpaled_Impaled, _, rfl, ?_⟩
      refine iteT ?_
      exact ⟨_, rfl, b, _, _, H0, n, p, r, rfl, ⟨dxb, hb⟩, hu', ⟨y, z, rfl⟩, hw, h4, hn, hp, hr', k⟩
    | pretence y z =>
      obtain ⟨ux, uy, ⟨x, dxx, rfl, _, hx⟩, _, _⟩ := hu
      refine ⟨_, rfl, b, d.cSpot, dxb, _, _, rfl, hb, T.kSpot.cl, T.kSpot.no.1, look_at _ _ _ 0 rfl (by decide +kernel), _, _, _, _, _, rfl, ClsV.own _, .base (.ins hx T.kPretence.cl T.kPretence.cla T.gs T.tk T.kPretence.mro), T.iPretence_Quarterly, _, rfl, ?_⟩
      refine iteF ?_
      refine ⟨_, rfl, b, d.cSpot, dxb, _, _, rfl, hb, T.kSpot.cl, T.kSpot.no.1, look_at _ _ _ 0 rfl (by decide +kernel), _, _, _, _, _, rfl, ClsV.own _, .base (.ins hx T.kPretence.cl T.kPretence.cla T.gs T.tk T.kPretence.mro), T.iPretence_Impaled, _, rfl, ?_⟩
      refine iteF ?_
      exact ⟨_, rfl, b, _, _, H0, n, p, r, rfl, ⟨dxb, hb⟩, hu', ⟨y, z, rfl⟩, hw, h4, hn, hp, hr', k⟩
/-! ### the marked arms that a point is of -/
def spPart (d : Ad) : Sp := fun vs H Q _ => ∃ (v : V) (c : ShMarsh.Coat) (H0 : Hp) (p r : Nat), vs = [v, vN p, vN r] ∧ RC d H0 H v c ∧ WCoat c ∧ c.deep ≤ 4 ∧ p < 480 ∧ r < 576 ∧
  ∀ (b : Addr) (u : V) (H' : Hp), Same H H' → Spot d u (c.partAt 0 p r).1 (vN (c.partAt 0 p r).2.2.1) (vN (c.partAt 0 p r).2.2.2) H' b → RMarked d H0 H' u (c.partAt 0 p r).2.1 → WMarked (c.partAt 0 p r).2.1 → (c.partAt 0 p r).2.2.1 < 480 → (c.partAt 0 p r).2.2.2 < 576 → Q (.ref b) H'
theorem sc_part_spot : FnScope ["coat", "p", "r", "spot"] ["coat", "p", "r"] (defScope s_part_spot) := ⟨rfl, rfl, rfl, by decide +kernel, rfl, by decide +kernel, by decide +kernel⟩
theorem ok_part_spot (T : Txt K mg d) : OkD P w K mg base CX0 13 d.f_part_spot ["coat", "p", "r"] (spPart d) := by
  obtain ⟨fd, F, B⟩ := T.k_part_spot.ex
  obtain ⟨⟨fd_Spot, G_Spot, B_Spot⟩, kp_Spot⟩ := ok_Spot_init (P := P) (w := w) (base := base) T
  obtain ⟨⟨fd_spot_within, G_spot_within, B_spot_within⟩, kp_spot_within⟩ := ok_spot_within (P := P) (w := w) (base := base) T
  refine ⟨⟨fd, F.ok sc_part_spot (fun vs H Q E h => ?_) (fun cdv A outer s H vs Q E hr h => ?_), B⟩, F.kp⟩
  · obtain ⟨v, c, H0, p, r, rfl, _⟩ := h
    rfl
  · obtain ⟨v, c, H0, p, r, rfl, hv, hw, h4, hp, hr', k⟩ := h
    have hr_Spot : Room 2 _ := hr.mono (by decide)
    have hr_spot_within : Room 11 _ := hr.mono (by decide)
    refine ⟨_, pss_cons (ps_set (i := 3) sc_part_spot.nd rfl (Or.inl rfl) (pe_make T.kSpot.mak G_Spot hr_Spot rfl T.kSpot.gl B_Spot .nil pass0 (pa_cons (pv 0) (pa_cons pe_int (pa_cons (pv 1) (pa_cons (pv 2) pa_nil))))))
      (pss_cons (ps_while PassesOwn.never (pt_not (pt_val (pe_callB call_isi (by rfl) T.b_isinstance (by decide +kernel) (pa_cons (pe_fld (pv 3) rfl) (pa_cons (pe_glob (v := .ref d.cMarked) rfl T.kMarked.gl rfl) pa_nil)))))
        (pss_one (ps_set (i := 3) sc_part_spot.nd rfl (Or.inl rfl) (pe_call G_spot_within hr_spot_within rfl T.k_spot_within.gl kp_spot_within B_spot_within .nil pass0 (pa_cons (pv 3) pa_nil)))))
      (pss_one (ps_ret (pv 3)))), ?_⟩
    refine ⟨_, rfl, _, rfl, _, rfl, ?_⟩
    refine made rfl fun b0 dx0 H1 n0 sm1 hb0 => ?_
    refine ⟨fun m σ Hc => ∃ (b : Addr) (u : V) (c' : ShMarsh.Coat) (n' p' r' : Nat), σ = [some v, some (vN p), some (vN r), some (.ref b)] ∧ Same H Hc ∧ Spot d u n' (vN p') (vN r') Hc b ∧ RC d H0 Hc u c' ∧ WCoat c' ∧ c'.deep ≤ 4 ∧ p' < 480 ∧ r' < 576 ∧ c.partAt 0 p r = c'.partAt n' p' r' ∧ m = c'.deep,
      ⟨c.deep, b0, v, c, 0, p, r, rfl, sm1, ⟨dx0, hb0⟩, RC.mv hv (Mv.here sm1), hw, h4, hp, hr', rfl, rfl⟩, ?_⟩
    rintro m σ Hc ⟨b, u, c', n', p', r', rfl, sm, ⟨dxb, hb⟩, hu, hw', h4', hp', hr2, he, rfl⟩
    refine ⟨_, rfl, b, d.cSpot, dxb, _, _, rfl, hb, T.kSpot.cl, T.kSpot.no.1, look_at _ _ _ 0 rfl (by decide +kernel), ?_⟩
    have hu' := hu
    have go : (∀ m, c' ≠ .one m) → ∃ Nx : List (Option V) → Hp → Prop, (∀ σ' H', Nx σ' H' → ∃ m', m' < c'.deep ∧ ∃ (b : Addr) (u : V) (c'' : ShMarsh.Coat) (n' p' r' : Nat), σ' = [some v, some (vN p), some (vN r), some (.ref b)] ∧ Same H H' ∧ Spot d u n' (vN p') (vN r') H' b ∧ RC d H0 H' u c'' ∧ WCoat c'' ∧ c''.deep ≤ 4 ∧ p' < 480 ∧ r' < 576 ∧ c.partAt 0 p r = c''.partAt n' p' r' ∧ m' = c''.deep) ∧
        spWithin d (fun _ => True) [.ref b] Hc (fun y H' => Nx [some v, some (vN p), some (vN r), some y] H') E0 := fun hn => by
      obtain ⟨i1, i2, i3, i4⟩ := inner_ok hn hw' hp' hr2
      refine ⟨fun σ' H' => ∃ (b2 : Addr) (u2 : V), σ' = [some v, some (vN p), some (vN r), some (.ref b2)] ∧ Same Hc H' ∧ Spot d u2 (n' + before c' (ix c' p' r')) (vN (inner c' p' r').2.1) (vN (inner c' p' r').2.2) H' b2 ∧ RC d H0 H' u2 (inner c' p' r').1,
        fun σ' H' ⟨b2, u2, e1, sm2, sp2, r2⟩ => ⟨_, i2, b2, u2, _, _, _, _, e1, sm.trans sm2, sp2, r2, i1, by omega, i3, i4, he.trans (num_step hn hw'), rfl⟩, ?_⟩
      exact ⟨b, u, c', H0, n', p', r', rfl, ⟨dxb, hb⟩, hu', trivial, hw', h4', hn, hp', hr2, fun b2 u2 H2 sm2 sp2 r2 => ⟨b2, u2, rfl, sm2, sp2, r2⟩⟩
    cases c' with
    | one m' =>
      obtain ⟨a1, a2, a3, ⟨x, dxx, rfl, _, hx⟩, _⟩ := hu
      refine ⟨_, _, _, _, _, rfl, ClsV.own _, .base (.ins hx T.kMarked.cl T.kMarked.cla T.gs T.tk T.kMarked.mro), T.iMarked_Marked, _, rfl, ?_⟩
      refine iteF ?_
      rw [he] at k
      exact ⟨_, rfl, k b _ Hc sm ⟨dxb, hb⟩ hu' hw' hp' hr2⟩
    | quarters l =>
      obtain ⟨Nx, n1, n2⟩ := go (fun m z => by cases z)
      obtain ⟨q, us, ⟨x, dxx, rfl, _, hx⟩, _⟩ := hu
      refine ⟨_, _, _, _, _, rfl, ClsV.own _, .base (.ins hx T.kQuarterly.cl T.kQuarterly.cla T.gs T.tk T.kQuarterly.mro), T.iQuarterly_Marked, _, rfl, ?_⟩
      refine iteT ?_
      exact ⟨Nx, n1, _, rfl, n2⟩
    | impaled y z =>
      obtain ⟨Nx, n1, n2⟩ := go (fun m z => by cases z)
      obtain ⟨ux, uy, ⟨x, dxx, rfl, _, hx⟩, _⟩ := hu
      refine ⟨_, _, _, _, _, rfl, ClsV.own _, .base (.ins hx T.kImpaled.cl T.kImpaled.cla T.gs T.tk T.kImpaled.mro), T.iImpaled_Marked, _, rfl, ?_⟩
      refine iteT ?_
      exact ⟨Nx, n1, _, rfl, n2⟩
    | pretence y z =>
      obtain ⟨Nx, n1, n2⟩ := go (fun m z => by cases z)
      obtain ⟨ux, uy, ⟨x, dxx, rfl, _, hx⟩, _⟩ := hu
      refine ⟨_, _, _, _, _, rfl, ClsV.own _, .base (.ins hx T.kPretence.cl T.kPretence.cla T.gs T.tk T.kPretence.mro), T.iPretence_Marked, _, rfl, ?_⟩
      refine iteT ?_
      exact ⟨Nx, n1, _, rfl, n2⟩
end
end HC


namespace HC
open PySem PySem.Spec PyProof.Rows L2 LamX NdefX
/-! ### answered_at: a def made in a def -/
abbrev s_tell_point : Stmt := (defBody s_answered_at).getD 0 (.Pass ⟨0, 0, 0, 0⟩)
abbrev qTP : Str := (("answered_at" : Str) ++ ".<locals>.") ++ "tell_point"
abbrev tpF (cells : List (Str × Addr)) (c : Addr) : NF := NF.of s_tell_point "tell_point" qTP (cloFrom cells (C8.fnScope s_tell_point).names []) c
section
variable {P : Program} {w : World} {K : PySem.W.Frag} {mg : Str → Option Value} {base : Heap} {d : Ad}
/-- what is wanted of the point's spot -/
def Told (d : Ad) (spL : Sp) (c : ShMarsh.Coat) (p r : Nat) (Q : VK) : Prop := if 480 ≤ p ∨ 576 ≤ r then ∀ (H' : Hp) (q : Addr), H' q = some (.lst [.int (-2)]) → Q (.ref q) H' else
  ∀ (b : Addr) (u : V) (H0 H' : Hp), Spot d u (c.partAt 0 p r).1 (vN (c.partAt 0 p r).2.2.1) (vN (c.partAt 0 p r).2.2.2) H' b → RMarked d H0 H' u (c.partAt 0 p r).2.1 → WMarked (c.partAt 0 p r).2.1 → (c.partAt 0 p r).2.2.1 < 480 → (c.partAt 0 p r).2.2.2 < 576 → spL [.ref b] H' Q E0
def spTP (P : Program) (w : World) (K : PySem.W.Frag) (mg : Str → Option Value) (base : Heap) (d : Ad) (ws : List (Option V)) : Sp := fun vs H Q _ => ∃ (v : V) (c : ShMarsh.Coat) (H0 : Hp) (p r : Nat) (f : Addr) (F : NF) (b : Expr) (spL : Sp), ws = [some (vN p), some (vN r), some (.ref f)] ∧ vs = [v] ∧
  RC d H0 H v c ∧ WCoat c ∧ c.deep ≤ 4 ∧ LOk P w K mg base 30 f F b spL ∧ H f = some (LamO f F b) ∧ H F.c = some (CodeO F.c F.qual) ∧ Told d spL c p r Q
theorem ok_tp (T : Txt K mg d) (cells : List (Str × Addr)) (f c : Addr) : NOk P w K mg base CX0 39 f (tpF cells c) ["coat"] ["p", "r", "tell"] (spTP P w K mg base d) := by
  obtain ⟨⟨fd_ps, G_ps, B_ps⟩, kp_ps⟩ := ok_part_spot (P := P) (w := w) (base := base) T
  obtain ⟨c_W, m_W⟩ := T.nWIDTH
  obtain ⟨c_H, m_H⟩ := T.nHEIGHT
  have S : NScope ["coat", "p", "r", "tell"] ["coat"] ["p", "r", "tell"] (C8.fnScope s_tell_point) := nscope_by (by decide +kernel)
  refine nok_of (k := 38) S (fun _ _ _ us hl => match us, hl with | [_], _ => rfl) ?_ ?_
  · rintro ws vs H Q E ⟨v, c, H0, p, r, f, F, b, spL, _, rfl, _⟩
    rfl
  · rintro A outer s H vs ws Q E hr _ _ _ ⟨v, c, H0, p, r, f, F, b, spL, rfl, rfl, hv, hw, h4, L, hf, hc, k⟩
    have hr_ps : Room 13 _ := hr.mono (by decide)
    have hr_L : Room 30 _ := hr.mono (by decide)
    refine ⟨_, pss_cons (ps_if (PW.pt (pw_or (pt_cmpR op_ge (pv 1) (pgi m_W) (nomark _)) (pw_or1 (pt_cmpR op_ge (pv 2) (pgi m_H) (nomark _)))))
          (pss_one (ps_ret (pe_lst (pa_cons (pe_un un_neg pe_int) pa_nil)))) pss_nil)
        (pss_one (ps_ret (pe_tellL (kt := 30) (i := 3) hr_L rfl (Or.inr (Or.inr rfl)) (pa_cons (pe_call G_ps hr_ps rfl T.k_part_spot.gl kp_ps B_ps .nil pass0 (pa_cons (pv 0) (pa_cons (pv 1) (pa_cons (pv 2) pa_nil)))) pa_nil)))), ?_⟩
    unfold Told at k
    have out : (480 ≤ p ∨ 576 ≤ r) → ∀ (H' : Hp) (q : Addr), H' q = some (.lst [.int (-2)]) → Q (.ref q) H' := fun z => by
      rw [if_pos z] at k
      exact k
    refine ⟨_, rfl, _, _, rfl, rfl, _, rfl, ?_⟩
    refine ite2 (fun c1 => ?_) (fun c1 => ?_)
    · refine iteT ?_
      have c1' := of_decide_eq_true c1
      exact ⟨_, rfl, (by show 1 ≤ sizeLine; decide), fun q hq => out (.inl (by omega)) _ q upd_same⟩
    · refine ⟨_, rfl, _, _, rfl, rfl, _, rfl, ?_⟩
      refine ite2 (fun c2 => ?_) (fun c2 => ?_)
      · have c2' := of_decide_eq_true c2
        exact ⟨_, rfl, (by show 1 ≤ sizeLine; decide), fun q hq => out (.inr (by omega)) _ q upd_same⟩
      · have hp : p < 480 := by
          have : ¬ (480 : Int) ≤ (p : Int) := fun z => c1 (decide_eq_true z)
          omega
        have hr' : r < 576 := by
          have : ¬ (576 : Int) ≤ (r : Int) := fun z => c2 (decide_eq_true z)
          omega
        rw [if_neg (show ¬ (480 ≤ p ∨ 576 ≤ r) by omega)] at k
        refine ⟨f, F, b, spL, rfl, L, .inr ⟨F, b, hf⟩, _, rfl, _, rfl, _, rfl, v, c, H0, p, r, rfl, hv, hw, h4, hp, hr', fun b' u H' sm sp rm wm q1 q2 => ?_⟩
        exact ⟨sm _ _ hf, sm _ _ hc, k b' u H0 H' sp rm wm q1 q2⟩
def spAnsAt (P : Program) (w : World) (K : PySem.W.Frag) (mg : Str → Option Value) (base : Heap) (d : Ad) : Sp := fun vs H Q _ => ∃ (p r : Nat) (a : Addr) (bs : List UInt8) (f : Addr) (F : NF) (b : Expr) (spL : Sp), vs = [vN p, vN r, .ref a, .ref f] ∧ H d.t_answered_at = some (.tbl #[]) ∧ SqL K H a (vals bs) ∧
  LOk P w K mg base 30 f F b spL ∧ H f = some (LamO f F b) ∧ H F.c = some (CodeO F.c F.qual) ∧
  match ShMarsh.readCoat bs with
  | .error e => ∀ (H' : Hp) (q : Addr), H' q = some (.lst [.int (-1), vN e]) → Q (.ref q) H'
  | .ok c => Told d spL c p r Q
theorem sc_answered_at : FnScope ["p", "r", "c", "tell", "tell_point"] ["p", "r", "c", "tell"] (defScope s_answered_at) := ⟨rfl, rfl, rfl, by decide +kernel, rfl, by decide +kernel, by decide +kernel⟩
theorem ok_answered_at (T : Txt K mg d) (TB : TabB base mg d.c_answered_at d.t_answered_at) : OkD P w K mg base CX0 42 d.f_answered_at ["p", "r", "c", "tell"] (spAnsAt P w K mg base d) := by
  obtain ⟨fd, F, B⟩ := T.k_answered_at.ex
  obtain ⟨fd_a, G_a, B_a, kp_a⟩ := ok_answered (P := P) (w := w) (base := base) T
  refine ⟨⟨fd, mak_ok F T.m_answered_at sc_answered_at (fun vs H Q E h => ?_) (fun A outer s H vs Q E hr h => ?_), B⟩, F.kp⟩
  · obtain ⟨p, r, a, bs, f, F, b, spL, rfl, _⟩ := h
    rfl
  · obtain ⟨p, r, a, bs, f, F, b, spL, rfl, hT, hS, L, hf, hc, k⟩ := h
    have hr_a : Room 40 _ := hr.mono (by decide)
    refine ⟨_, pss_cons (ps_ndefS (st := s_tell_point) (T := [(d.t_answered_at, fun _ _ => qTP)]) (nm := fun _ _ => qTP) (i := 4) rfl TB rfl List.mem_cons_self rfl (fun z hz _ => by rw [List.mem_singleton.mp hz]) (ndef_free (sc := defScope s_answered_at) (fr := []) (by decide +kernel)) rfl rfl rfl sc_answered_at.nd rfl (Or.inl rfl) (Or.inr rfl))
      (pss_one (ps_ret (pe_givN (mk := tpF (envOfC "answered_at" (defScope s_answered_at) s.heap.objs.size d.f_answered_at (.ref d.c_answered_at)).cells) (cl := cloFrom (envOfC "answered_at" (defScope s_answered_at) s.heap.objs.size d.f_answered_at (.ref d.c_answered_at)).cells (C8.fnScope s_tell_point).names []) (fps := ["coat"]) (fr := ["p", "r", "tell"]) (js := [0, 1, 3]) G_a (fun _ => rfl) (fun ok => Caps.made (scope := C8.fnScope s_tell_point) ok (ndef_free (sc := defScope s_answered_at) (fr := []) (by decide +kernel)) (ndef_fr (sc := defScope s_answered_at) (by decide +kernel)) rfl) hr_a rfl T.k_answered.gl kp_a B_a (pa_cons (pv 2) (pa_cons (pv 4) pa_nil))))), ?_⟩
    refine ⟨fun z hz => ?_, fun g c' H1 ext _ ng h1 h2 => ?_⟩
    · rw [List.mem_singleton.mp hz]
      exact TabN.nil hT
    · refine ⟨_, rfl, _, rfl, g, c', _, ok_tp T _ g c', a, bs, rfl, extN_seq ext hS, .inl ⟨_, h1⟩, ?_⟩
      have hf1 := ext _ _ hf lamO_ne
      have hc1 := ext _ _ hc codeO_ne
      cases e : ShMarsh.readCoat bs with
      | error e' =>
        rw [e] at k
        exact k
      | ok c =>
        rw [e] at k
        exact fun v H' s1 t1 => ⟨s1 _ _ h1, s1 _ _ h2, v, c, H1, p, r, f, F, b, spL, rfl, rfl, t1, read_ok e, read_deep e, L, s1 _ _ hf1, s1 _ _ hc1, k⟩
/-- from the lambda's object to what answered_at wants -/
theorem ans_given {f : Addr} {F : NF} {b : Expr} {spL : Sp} {p r : Nat} {a : Addr} {bs : List UInt8} {H : Hp} {Q : VK} {E : XK} (h1 : H f = some (LamO f F b)) (h2 : H F.c = some (CodeO F.c F.qual)) (hT : H d.t_answered_at = some (.tbl #[])) (hS : SqL K H a (vals bs)) (L : LOk P w K mg base 30 f F b spL)
    (k : match ShMarsh.readCoat bs with
      | .error e => ∀ (H' : Hp) (q : Addr), H' q = some (.lst [.int (-1), vN e]) → Q (.ref q) H'
      | .ok c => Told d spL c p r Q) : spAnsAt P w K mg base d [vN p, vN r, .ref a, .ref f] H Q E := ⟨p, r, a, bs, f, F, b, spL, rfl, hT, hS, L, h1, h2, k⟩
/-- a call of two numbers and a list of bytes -/
def spThree (g : Int → Int → List Int → List Int) (K : PySem.W.Frag) (cs : List (Addr × Addr)) : Sp := fun vs H Q _ => ∃ (p r : Nat) (a : Addr) (ns : List Int), vs = [vN p, vN r, .ref a] ∧ (∀ p ∈ cs, H p.2 = some (.tbl #[])) ∧ SqL K H a (ns.map V.int) ∧ Byt ns ∧
  ∀ (H' : Hp) (q : Addr), H' q = some (.lst ((g (p : Int) (r : Int) ns).map V.int)) → Q (.ref q) H'
end
end HC


namespace HC
open PySem PySem.Spec PyProof.Rows L2
section
variable {P : Program} {w : World} {K : PySem.W.Frag} {mg : Str → Option Value} {base : Heap} {d : Ad}
/-! ### the band -/
def spBand (d : Ad) : Sp := fun vs H Q _ => ∃ (v : V) (ms : List (Nat × Nat)) (H0 : Hp) (p r : Nat), vs = [v, vN p, vN r] ∧ RMarks d H0 H v ms ∧ Q (vN (ShMarsh.bandAt ms p r)) H
theorem sc_band_tincture : FnScope ["marks", "p", "r", "slot", "bits"] ["marks", "p", "r"] (defScope s_band_tincture) := ⟨rfl, rfl, rfl, by decide +kernel, rfl, by decide +kernel, by decide +kernel⟩
theorem ok_band_tincture (T : Txt K mg d) : OkD P w K mg base CX0 2 d.f_band_tincture ["marks", "p", "r"] (spBand d) := by
  obtain ⟨fd, F, B⟩ := T.k_band_tincture.ex
  obtain ⟨c_MURREY, m_MURREY⟩ := T.nMURREY
  obtain ⟨c_ARGENT, m_ARGENT⟩ := T.nARGENT
  refine ⟨⟨fd, F.ok sc_band_tincture (fun vs H Q E h => ?_) (fun cdv A outer s H vs Q E hr h => ?_), B⟩, F.kp⟩
  · obtain ⟨v, ms, H0, p, r, rfl, _⟩ := h
    rfl
  · obtain ⟨v, ms, H0, p, r, rfl, ⟨l, us, rfl, ⟨_, hl⟩, hall⟩, k⟩ := h
    refine ⟨_, pss_cons (ps_set (i := 3) sc_band_tincture.nd rfl (Or.inl rfl) (pe_op op_fdiv (pv 1) pe_int))
      (pss_cons (ps_if (pt_cmpR op_ge (pv 3) (pe_callB call_len_seq (by rfl) T.b_len PySem.boot_len (pa_cons (pv 0) pa_nil)) (nomark _))
        (pss_one (ps_ret (pgi m_MURREY)))
        pss_nil)
      (pss_cons (ps_set (i := 4) sc_band_tincture.nd rfl (Or.inl rfl) (pe_op op_add (pe_op op_mul pe_int (pe_fld (pe_ix ix_list (pv 0) (pv 3) (fun _ _ => rfl)) rfl)) (pe_fld (pe_ix ix_list (pv 0) (pv 3) (fun _ _ => rfl)) rfl)))
      (pss_one (ps_ret (pe_ifExp (pt_cmpR op_eq (pe_op op_mod (pe_op op_shr (pv 4) (pe_op op_fdiv (pv 2) pe_int)) pe_int) pe_int (nomark _)) (pgi m_ARGENT) (pgi m_MURREY)))))), ?_⟩
    have hlen := hall.length
    have ep : (p : Int) / 8 = ((p / 8 : Nat) : Int) := by omega
    have er : ((r : Int) / 6).toNat = r / 6 := by omega
    refine ⟨_, rfl, _, _, rfl, rfl, ⟨by decide, by decide⟩, ?_⟩
    dsimp only [gName]
    rw [ep]
    refine ⟨_, rfl, _, rfl, l, us, rfl, .inl (SqL.of hl), _, _, rfl, rfl, _, rfl, ?_⟩
    refine ite2 (fun c => ?_) (fun c => ?_)
    · have c' : ms.length ≤ p / 8 := by
        have := of_decide_eq_true c
        omega
      refine castN k ?_
      unfold ShMarsh.bandAt
      rw [List.getElem?_eq_none c']
      rfl
    · have c' : p / 8 < ms.length := by
        have : ¬ ((us.length : Int) ≤ ((p / 8 : Nat) : Int)) := fun z => c (decide_eq_true z)
        omega
      obtain ⟨y, hy, ry⟩ := hall.put c'
      obtain ⟨b, dxb, rfl, _, hb⟩ := ry (0, 0)
      have hx : ms[p / 8]? = some (ms.getD (p / 8) (0, 0)) := by
        rw [List.getD_eq_getElem?_getD, List.getElem?_eq_getElem c']
        rfl
      generalize ms.getD (p / 8) (0, 0) = x at hx hb
      refine ⟨_, rfl, _, rfl, l, us, _, _, rfl, rfl, SqL.of hl, atI_nat hy, b, d.cMark, dxb, _, _, rfl, hb, T.kMark.cl, T.kMark.no.1, look_at _ _ _ 0 rfl (by decide +kernel), _, _, rfl, rfl, Or.inl ⟨by decide, by decide⟩,
        _, rfl, _, rfl, l, us, _, _, rfl, rfl, SqL.of hl, atI_nat hy, b, d.cMark, dxb, _, _, rfl, hb, T.kMark.cl, T.kMark.no.2.1, look_at _ _ _ 1 rfl (by decide +kernel), _, _, rfl, rfl, ?_⟩
      refine ⟨_, rfl, _, rfl, _, _, rfl, rfl, ⟨by decide, by decide⟩, _, _, rfl, rfl, (by show (0 : Int) ≤ (r : Int) / 6; omega), _, _, rfl, rfl, (by show (0 : Int) < 2; decide), rfl, _, rfl, ?_⟩
      have eb : decide (V.int ((256 * (x.1 : Int) + (x.2 : Int)) / 2 ^ ((r : Int) / 6).toNat % 2) = V.int 1) = (256 * x.1 + x.2).testBit (r / 6) := by
        rw [bit_is, dec_int, er, Bool.eq_iff_iff]
        have e2 : (256 * (x.1 : Int) + (x.2 : Int)) / 2 ^ (r / 6) % 2 = (((256 * x.1 + x.2) / 2 ^ (r / 6) % 2 : Nat) : Int) := by
          rw [Int.natCast_emod, Int.natCast_ediv, Int.natCast_add, Int.natCast_mul, Int.natCast_pow]
          rfl
        rw [e2]
        simp
        omega
      have ek : ShMarsh.bandAt ms p r = if (256 * x.1 + x.2).testBit (r / 6) = true then 1 else 9 := by
        unfold ShMarsh.bandAt
        rw [hx]
        rfl
      rw [ek] at k
      refine ite2 (fun c2 => ?_) (fun c2 => ?_)
      · exact castN k (if_pos (eb.symm.trans c2))
      · exact castN k (if_neg (fun z => c2 (eb.trans z)))
/-! ### marked arms -/
def spMarkedAt (d : Ad) : Sp := fun vs H Q _ => ∃ (v : V) (m : ShMarsh.Marked) (H0 : Hp) (p r : Nat), vs = [v, vN p, vN r] ∧ RMarked d H0 H v m ∧ WMarked m ∧ ∀ H', Same H H' → Q (vN (m.at_ p r)) H'
theorem sc_marked_tincture : FnScope ["marked", "p", "r"] ["marked", "p", "r"] (defScope s_marked_tincture) := ⟨rfl, rfl, rfl, by decide +kernel, rfl, by decide +kernel, by decide +kernel⟩
theorem ok_marked_tincture (T : Txt K mg d) : OkD P w K mg base CX0 16 d.f_marked_tincture ["marked", "p", "r"] (spMarkedAt d) := by
  obtain ⟨fd, F, B⟩ := T.k_marked_tincture.ex
  obtain ⟨⟨fd_arms_tincture, G_arms_tincture, B_arms_tincture⟩, kp_arms_tincture⟩ := ok_arms_tincture (P := P) (w := w) (base := base) T
  obtain ⟨⟨fd_band_tincture, G_band_tincture, B_band_tincture⟩, kp_band_tincture⟩ := ok_band_tincture (P := P) (w := w) (base := base) T
  obtain ⟨c_BAND_HEIGHT, m_BAND_HEIGHT⟩ := T.nBAND_HEIGHT
  refine ⟨⟨fd, F.ok sc_marked_tincture (fun vs H Q E h => ?_) (fun cdv A outer s H vs Q E hr h => ?_), B⟩, F.kp⟩
  · obtain ⟨v, m, H0, p, r, rfl, _⟩ := h
    rfl
  · obtain ⟨v, m, H0, p, r, rfl, hm, hw, k⟩ := h
    have hr_arms_tincture : Room 14 _ := hr.mono (by decide)
    have hr_band_tincture : Room 2 _ := hr.mono (by decide)
    refine ⟨_, pss_cons (ps_if (PW.pt (pw_and (pt_cmpR op_gt (pe_callB call_len_seq (by rfl) T.b_len PySem.boot_len (pa_cons (pe_fld (pv 0) rfl) pa_nil)) pe_int (nomark _)) (pw_and1 (pt_cmpR op_lt (pv 2) (pgi m_BAND_HEIGHT) (nomark _)))))
        (pss_one (ps_ret (pe_call G_band_tincture hr_band_tincture rfl T.k_band_tincture.gl kp_band_tincture B_band_tincture .nil pass0 (pa_cons (pe_fld (pv 0) rfl) (pa_cons (pv 1) (pa_cons (pv 2) pa_nil))))))
        pss_nil)
      (pss_cons (ps_if (PW.pt (pw_and (pt_cmp (pc_notN (pe_fld (pv 0) rfl))) (pw_and (pt_cmpR op_lt (pv 1) pe_int (nomark _)) (pw_and1 (pt_chain op_le op_lt (pgi m_BAND_HEIGHT) (pv 2) pe_int)))))
        (pss_one (ps_ret (pe_call G_arms_tincture hr_arms_tincture rfl T.k_arms_tincture.gl kp_arms_tincture B_arms_tincture .nil pass0 (pa_cons (pe_fld (pv 0) rfl) (pa_cons (pe_op op_mul pe_int (pv 1)) (pa_cons (pe_op op_mul pe_int (pe_op op_sub (pv 2) (pgi m_BAND_HEIGHT))) pa_nil))))))
        pss_nil)
      (pss_one (ps_ret (pe_call G_arms_tincture hr_arms_tincture rfl T.k_arms_tincture.gl kp_arms_tincture B_arms_tincture .nil pass0 (pa_cons (pe_fld (pv 0) rfl) (pa_cons (pv 1) (pa_cons (pv 2) pa_nil))))))), ?_⟩
    obtain ⟨ua, uc, uk, ⟨b, dxb, rfl, _, hb⟩, ha, hc, hk⟩ := hm
    have hk' := hk
    obtain ⟨l, us, rfl, ⟨_, hl⟩, hall⟩ := hk
    have hlen := hall.length
    have hwc : WOpt m.canton := hw.2.1
    have arms : ∀ (e : m.at_ p r = ShMarsh.armsAt m.arms p r), ∀ H', Same H H' → Q (vN (Sh.Arms.at_ m.arms (p : Int) (r : Int))) H' := fun e H' s => castN (k H' s) e
    refine ⟨_, rfl, b, d.cMarked, dxb, _, _, rfl, hb, T.kMarked.cl, T.kMarked.no.2.2.1, look_at _ _ _ 2 rfl (by decide +kernel), l, us, rfl, .inl (SqL.of hl), _, _, rfl, rfl, _, rfl, ?_⟩
    refine ite2 (fun c1 => ?_) (fun c1 => ?_)
    · have c1' := of_decide_eq_true c1
      have he : m.marks.isEmpty = false := by
        cases hmk : m.marks with
        | nil => rw [hmk] at hlen; simp at hlen; rw [hlen] at c1'; simp at c1'
        | cons _ _ => rfl
      refine ⟨_, rfl, _, _, rfl, rfl, _, rfl, ?_⟩
      refine ite2 (fun c2 => ?_) (fun c2 => ?_)
      · have c2' := of_decide_eq_true c2
        have e : m.at_ p r = ShMarsh.bandAt m.marks p r := by
          unfold ShMarsh.Marked.at_
          rw [if_pos ⟨he, by omega⟩]
        exact ⟨_, rfl, b, d.cMarked, dxb, _, _, rfl, hb, T.kMarked.cl, T.kMarked.no.2.2.1, look_at _ _ _ 2 rfl (by decide +kernel), _, rfl, _, rfl, _, m.marks, H0, p, r, rfl, hk', castN (k H (Same.refl H)) e⟩
      · have hno : ¬ (m.marks.isEmpty = false ∧ r < 96) := fun z => c2 (decide_eq_true (by omega))
        refine ⟨_, rfl, b, d.cMarked, dxb, _, _, rfl, hb, T.kMarked.cl, T.kMarked.no.2.1, look_at _ _ _ 1 rfl (by decide +kernel), _, rfl, ?_⟩
        cases hcan : m.canton with
        | none =>
          rw [hcan] at hc
          cases (show uc = .non from hc)
          refine iteF ?_
          refine iteF ?_
          refine ⟨_, rfl, b, d.cMarked, dxb, _, _, rfl, hb, T.kMarked.cl, T.kMarked.no.1, look_at _ _ _ 0 rfl (by decide +kernel), _, rfl, _, rfl, ua, m.arms, H0, (p : Int), (r : Int), rfl, ha, hw.1, arms ?_⟩
          unfold ShMarsh.Marked.at_
          rw [if_neg hno, hcan]
        | some a =>
          rw [hcan] at hc hwc
          have hn : ¬ uc = .non := fun e => by
            subst e
            obtain ⟨_, _, _, ⟨_, _, z, _⟩, _⟩ := hc
            cases z
          have off : ¬ (p < 160 ∧ 96 ≤ r ∧ r < 288) → m.at_ p r = ShMarsh.armsAt m.arms p r := fun z => by
            unfold ShMarsh.Marked.at_
            rw [if_neg hno, hcan]
            dsimp only
            rw [if_neg z]
          rw [decide_eq_false hn]
          refine iteT ?_
          refine ⟨_, rfl, _, _, rfl, rfl, _, rfl, ?_⟩
          refine ite2 (fun d1 => ?_) (fun d1 => ?_)
          · have d1' := of_decide_eq_true d1
            refine ⟨_, rfl, _, _, rfl, rfl, _, rfl, ?_⟩
            refine ite2 (fun d2 => ?_) (fun d2 => ?_)
            · have d2' := of_decide_eq_true d2
              refine ⟨_, _, rfl, rfl, _, rfl, ?_⟩
              refine ite2 (fun d3 => ?_) (fun d3 => ?_)
              · have d3' := of_decide_eq_true d3
                have e : m.at_ p r = Sh.Arms.at_ a (3 * (p : Int)) (3 * ((r : Int) - 96)) := by
                  unfold ShMarsh.Marked.at_
                  rw [if_neg hno, hcan]
                  dsimp only
                  rw [if_pos (by omega)]
                  unfold ShMarsh.armsAt
                  rw [show ((3 * p : Nat) : Int) = 3 * (p : Int) by omega, show ((3 * (r - 96) : Nat) : Int) = 3 * ((r : Int) - 96) by omega]
                exact ⟨_, rfl, b, d.cMarked, dxb, _, _, rfl, hb, T.kMarked.cl, T.kMarked.no.2.1, look_at _ _ _ 1 rfl (by decide +kernel), _, rfl, _, _, rfl, rfl, Or.inl ⟨by decide, by decide⟩, _, rfl, _, _, rfl, rfl, _, _, rfl, rfl, Or.inl ⟨by decide, by decide⟩, uc, a, H0, _, _, rfl, hc, hwc, fun H' s => castN (k H' s) e⟩
              · exact ⟨_, rfl, b, d.cMarked, dxb, _, _, rfl, hb, T.kMarked.cl, T.kMarked.no.1, look_at _ _ _ 0 rfl (by decide +kernel), _, rfl, _, rfl, ua, m.arms, H0, (p : Int), (r : Int), rfl, ha, hw.1, arms (off fun z => d3 (decide_eq_true (by omega)))⟩
            · refine ⟨_, rfl, ?_⟩
              refine iteF ?_
              exact ⟨_, rfl, b, d.cMarked, dxb, _, _, rfl, hb, T.kMarked.cl, T.kMarked.no.1, look_at _ _ _ 0 rfl (by decide +kernel), _, rfl, _, rfl, ua, m.arms, H0, (p : Int), (r : Int), rfl, ha, hw.1, arms (off fun z => d2 (decide_eq_true (by omega)))⟩
          · refine iteF ?_
            exact ⟨_, rfl, b, d.cMarked, dxb, _, _, rfl, hb, T.kMarked.cl, T.kMarked.no.1, look_at _ _ _ 0 rfl (by decide +kernel), _, rfl, _, rfl, ua, m.arms, H0, (p : Int), (r : Int), rfl, ha, hw.1, arms (off fun z => d1 (decide_eq_true (by omega)))⟩
    · refine iteF ?_
      have hno : ¬ (m.marks.isEmpty = false ∧ r < 96) := by
        intro z
        apply c1
        refine decide_eq_true ?_
        cases hmk : m.marks with
        | nil => rw [hmk] at z; exact absurd z.1 (by decide)
        | cons _ _ => rw [hmk] at hlen; rw [List.length_cons] at hlen; omega
      refine ⟨_, rfl, b, d.cMarked, dxb, _, _, rfl, hb, T.kMarked.cl, T.kMarked.no.2.1, look_at _ _ _ 1 rfl (by decide +kernel), _, rfl, ?_⟩
      cases hcan : m.canton with
      | none =>
        rw [hcan] at hc
        cases (show uc = .non from hc)
        refine iteF ?_
        refine iteF ?_
        refine ⟨_, rfl, b, d.cMarked, dxb, _, _, rfl, hb, T.kMarked.cl, T.kMarked.no.1, look_at _ _ _ 0 rfl (by decide +kernel), _, rfl, _, rfl, ua, m.arms, H0, (p : Int), (r : Int), rfl, ha, hw.1, arms ?_⟩
        unfold ShMarsh.Marked.at_
        rw [if_neg hno, hcan]
      | some a =>
        rw [hcan] at hc hwc
        have hn : ¬ uc = .non := fun e => by
          subst e
          obtain ⟨_, _, _, ⟨_, _, z, _⟩, _⟩ := hc
          cases z
        have off : ¬ (p < 160 ∧ 96 ≤ r ∧ r < 288) → m.at_ p r = ShMarsh.armsAt m.arms p r := fun z => by
          unfold ShMarsh.Marked.at_
          rw [if_neg hno, hcan]
          dsimp only
          rw [if_neg z]
        rw [decide_eq_false hn]
        refine iteT ?_
        refine ⟨_, rfl, _, _, rfl, rfl, _, rfl, ?_⟩
        refine ite2 (fun d1 => ?_) (fun d1 => ?_)
        · have d1' := of_decide_eq_true d1
          refine ⟨_, rfl, _, _, rfl, rfl, _, rfl, ?_⟩
          refine ite2 (fun d2 => ?_) (fun d2 => ?_)
          · have d2' := of_decide_eq_true d2
            refine ⟨_, _, rfl, rfl, _, rfl, ?_⟩
            refine ite2 (fun d3 => ?_) (fun d3 => ?_)
            · have d3' := of_decide_eq_true d3
              have e : m.at_ p r = Sh.Arms.at_ a (3 * (p : Int)) (3 * ((r : Int) - 96)) := by
                unfold ShMarsh.Marked.at_
                rw [if_neg hno, hcan]
                dsimp only
                rw [if_pos (by omega)]
                unfold ShMarsh.armsAt
                rw [show ((3 * p : Nat) : Int) = 3 * (p : Int) by omega, show ((3 * (r - 96) : Nat) : Int) = 3 * ((r : Int) - 96) by omega]
              exact ⟨_, rfl, b, d.cMarked, dxb, _, _, rfl, hb, T.kMarked.cl, T.kMarked.no.2.1, look_at _ _ _ 1 rfl (by decide +kernel), _, rfl, _, _, rfl, rfl, Or.inl ⟨by decide, by decide⟩, _, rfl, _, _, rfl, rfl, _, _, rfl, rfl, Or.inl ⟨by decide, by decide⟩, uc, a, H0, _, _, rfl, hc, hwc, fun H' s => castN (k H' s) e⟩
            · exact ⟨_, rfl, b, d.cMarked, dxb, _, _, rfl, hb, T.kMarked.cl, T.kMarked.no.1, look_at _ _ _ 0 rfl (by decide +kernel), _, rfl, _, rfl, ua, m.arms, H0, (p : Int), (r : Int), rfl, ha, hw.1, arms (off fun z => d3 (decide_eq_true (by omega)))⟩
          · refine ⟨_, rfl, ?_⟩
            refine iteF ?_
            exact ⟨_, rfl, b, d.cMarked, dxb, _, _, rfl, hb, T.kMarked.cl, T.kMarked.no.1, look_at _ _ _ 0 rfl (by decide +kernel), _, rfl, _, rfl, ua, m.arms, H0, (p : Int), (r : Int), rfl, ha, hw.1, arms (off fun z => d2 (decide_eq_true (by omega)))⟩
        · refine iteF ?_
          exact ⟨_, rfl, b, d.cMarked, dxb, _, _, rfl, hb, T.kMarked.cl, T.kMarked.no.1, look_at _ _ _ 0 rfl (by decide +kernel), _, rfl, _, rfl, ua, m.arms, H0, (p : Int), (r : Int), rfl, ha, hw.1, arms (off fun z => d1 (decide_eq_true (by omega)))⟩
end
end HC



namespace HC
open PySem PySem.Spec PyProof.Rows L2 LamX NdefX
theorem at_is {ns : List Int} {p r : Nat} (h : Byt ns) : PyWqaqbh.at_ (p : Int) (r : Int) ns = match ShMarsh.readCoat (bytesOf ns) with
    | .error e => [-1, (e : Int)]
    | .ok c => if 480 ≤ p ∨ 576 ≤ r then [-2] else [((c.at_ p r : Nat) : Int)] := by
  have hc : CoatNeutral.callOf [[2, (p : Int), (r : Int)], ns] = some (.at_ (bytesOf ns) p r) := by
    show (match CoatNeutral.text? ns, CoatNeutral.nat? (p : Int), CoatNeutral.nat? (r : Int) with
      | some x, some y, some z => some (ShCoats.Call.at_ x y z)
      | _, _, _ => none) = _
    rw [text_some h]
    have e1 : CoatNeutral.nat? (p : Int) = some p := by
      unfold CoatNeutral.nat?
      rw [if_pos (Int.natCast_nonneg _)]
      rfl
    have e2 : CoatNeutral.nat? (r : Int) = some r := by
      unfold CoatNeutral.nat?
      rw [if_pos (Int.natCast_nonneg _)]
      rfl
    rw [e1, e2]
  show CoatNeutral.f [[2, (p : Int), (r : Int)], ns] = _
  rw [f_of hc]
  unfold ShCoats.answer ShCoats.ofCoat
  dsimp only
  cases ShMarsh.readCoat (bytesOf ns) with
  | error e => rfl
  | ok c =>
    dsimp only
    by_cases hb : 480 ≤ p ∨ 576 ≤ r
    · rw [if_pos hb, if_pos (show Sh.WIDE ≤ p ∨ Sh.HIGH ≤ r from hb)]
      rfl
    · rw [if_neg hb, if_neg (show ¬ (Sh.WIDE ≤ p ∨ Sh.HIGH ≤ r) from hb)]
      rfl
section
variable {P : Program} {w : World} {K : PySem.W.Frag} {mg : Str → Option Value} {base : Heap} {d : Ad}
/-! ### at -/
abbrev spTop := spThree PyWqaqbh.at_
abbrev mainTabs (d : Ad) : List (Addr × Addr) := [(d.c_answered_at, d.t_answered_at), (d.c_at, d.t_at)]
def spTold (d : Ad) : Sp := fun vs H Q _ => ∃ (b : Addr) (u : V) (m : ShMarsh.Marked) (H0 : Hp) (n p r : Nat), vs = [.ref b] ∧ Spot d u n (vN p) (vN r) H b ∧ RMarked d H0 H u m ∧ WMarked m ∧ ∀ (H' : Hp) (q : Addr), H' q = some (.lst [vN (m.at_ p r)]) → Q (.ref q) H'
theorem sc_at : FnScope ["p", "r", "c"] ["p", "r", "c"] (defScope s_at) := ⟨rfl, rfl, rfl, by decide +kernel, rfl, by decide +kernel, by decide +kernel⟩
theorem ok_top (T : Txt K mg d) (TB : ∀ p ∈ mainTabs d, TabB base mg p.1 p.2) {fd : FuncData} (F : Fun K "at" "at" s_at d.f_at fd) : FnOk P w K mg base CX0 46 d.f_at fd ["p", "r", "c"] (spTop K (mainTabs d)) := by
  have TB0 := TB (d.c_answered_at, d.t_answered_at) List.mem_cons_self
  have TB1 := TB (d.c_at, d.t_at) (List.mem_cons_of_mem _ List.mem_cons_self)
  obtain ⟨⟨fd_m, G_m, B_m⟩, kp_m⟩ := ok_marked_tincture (P := P) (w := w) (base := base) T
  obtain ⟨⟨fd_a, G_a, B_a⟩, kp_a⟩ := ok_answered_at (P := P) (w := w) T TB0
  refine mak_ok F T.m_at sc_at (fun vs H Q E h => ?_) (fun A outer s H vs Q E hr h => ?_)
  · obtain ⟨p, r, a, ns, rfl, _⟩ := h
    rfl
  · obtain ⟨p, r, a, ns, rfl, hT, hS, hb, k⟩ := h
    have hT0 := hT (d.c_answered_at, d.t_answered_at) List.mem_cons_self
    have hT1 := hT (d.c_at, d.t_at) (List.mem_cons_of_mem _ List.mem_cons_self)
    have hr_a : Room 42 _ := hr.mono (by decide)
    refine ⟨_, pss_one (ps_ret (pe_call G_a hr_a rfl T.k_answered_at.gl kp_a B_a .nil pass0 (pa_cons (pv 0) (pa_cons (pv 1) (pa_cons (pv 2) (pa_cons (pe_lam TB1 rfl rfl (ndef_free (sc := defScope s_at) (fr := []) (by decide +kernel))) pa_nil)))))), ?_⟩
    rw [← vals_of hb] at hS
    rw [at_is hb] at k
    refine ⟨_, rfl, _, rfl, _, rfl, TabN.nil hT1, fun f c' H1 ext nf h1 h2 => ?_⟩
    refine ans_given (E := E0) (spL := spTold d) h1 h2 (ext.2 _ _ T.tn_answered_at_at hT0) (extN_seq ext.1 hS) (LOk.mono (k := 18) (lok_of (N := ["spot"]) (ps := ["spot"]) (nscope_by (by kernel_rfl)) rfl (fun _ _ _ us hl => match us, hl with | [_], _ => rfl) ?_ ?_) (by decide)) ?_
    · rintro vs H Q E ⟨b, u, m, H0, n, p, r, rfl, _⟩
      rfl
    · rintro A outer s H vs Q hr ⟨b, u, m, H0, n, p, r, rfl, ⟨dxb, hb⟩, hm, hw, q⟩
      have hr_m : Room 16 _ := hr.mono (by decide)
      refine ⟨_, pe_lst (pa_cons (pe_call G_m hr_m rfl T.k_marked_tincture.gl kp_m B_m .nil pass0 (pa_cons (pe_fld (pv 0) rfl) (pa_cons (pe_fld (pv 0) rfl) (pa_cons (pe_fld (pv 0) rfl) pa_nil)))) pa_nil), ?_⟩
      exact ⟨_, rfl, b, d.cSpot, dxb, _, _, rfl, hb, T.kSpot.cl, T.kSpot.no.1, look_at _ _ _ 0 rfl (by decide +kernel), _, rfl, b, d.cSpot, dxb, _, _, rfl, hb, T.kSpot.cl, T.kSpot.no.2.2.1, look_at _ _ _ 2 rfl (by decide +kernel), _, rfl, b, d.cSpot, dxb, _, _, rfl, hb, T.kSpot.cl, T.kSpot.no.2.2.2.1, look_at _ _ _ 3 rfl (by decide +kernel), u, m, H0, p, r, rfl, hm, hw, fun H' sm => ⟨(by show 1 ≤ sizeLine; decide), fun q' hq => q _ q' upd_same⟩⟩
    · cases e : ShMarsh.readCoat (bytesOf ns) with
      | error e' =>
        rw [e] at k
        exact fun H' q hq => k H' q hq
      | ok c =>
        rw [e] at k
        dsimp only at k ⊢
        unfold Told
        by_cases z : 480 ≤ p ∨ 576 ≤ r
        · rw [if_pos z] at k ⊢
          exact fun H' q hq => k H' q hq
        · rw [if_neg z] at k ⊢
          exact fun b u H0 H' sp rm wm _ _ => ⟨b, u, _, H0, _, _, _, rfl, sp, rm, wm, fun H2 q hq => k H2 q hq⟩
end
end HC


namespace HC
open PySem PySem.Spec PyProof.Rows L2
/-! ### the head by facts: a Hook of one's own over He's words (nothing of the heap is written out) -/
def excB (K : PySem.W.Frag) (C : Addr) : Bool := match K.lookup C with
  | some ⟨.type t, _, .cls cd, sl⟩ => decide (t = "type") && (decide (cd.mro = .ref C :: PySem.ESX.exTail) && (cd.hasDict && (!cd.hasDel && (match sl.toList with
    | [_, _, _, _, some (.builtin n), _] => decide (n = "Exception.__new__")
    | _ => false))))
  | _ => false
theorem excB_ok {K : PySem.W.Frag} {C : Addr} (hq : excB K C = true) : ∃ nm q N bs sn sub ab col dd k0 k1 k2 k3 k5, K.lookup C = some (excClassObj nm q C N bs PySem.ESX.exTail true sn sub ab col dd k0 k1 k2 k3 k5 "Exception.__new__") := by
  unfold excB at hq
  split at hq
  · rename_i t dd cd sl ho
    simp only [Bool.and_eq_true, decide_eq_true_eq, Bool.not_eq_true'] at hq
    obtain ⟨e1, e2, e3, e4, e5⟩ := hq
    split at e5
    · rename_i k0 k1 k2 k3 n k5 hs
      have e6 : n = "Exception.__new__" := of_decide_eq_true e5
      obtain ⟨nm, bs, mro, ns, qn, hd, sn, sub, ab, col, del⟩ := cd
      dsimp only at e2 e3 e4
      subst e1 e2 e3 e4 e6
      have hsl : sl = #[k0, k1, k2, k3, some (.builtin "Exception.__new__"), k5] := by
        obtain ⟨l⟩ := sl
        simp only at hs
        rw [hs]
      subst hsl
      exact ⟨nm, qn, ns, bs, sn, sub, ab, col, dd, k0, k1, k2, k3, k5, ho⟩
    · cases e5
  · cases hq
/-- the tuple at a is of these -/
def tupAtB (K : PySem.W.Frag) (a : Addr) (vs : List V) : Bool := match K.lookup a with
  | some ⟨.type c, _, .seq its _, _⟩ => decide (c = "tuple") && (decide (its.size ≤ sizeLine) && He.relAll vs its.toList)
  | _ => false
theorem tupAtB_ok {K : PySem.W.Frag} {a : Addr} {vs : List V} (hq : tupAtB K a vs = true) : TupK K a vs := by
  unfold tupAtB at hq
  split at hq
  · rename_i c dd its n sl ho
    simp only [Bool.and_eq_true, decide_eq_true_eq] at hq
    obtain ⟨e1, e2, e3⟩ := hq
    subst e1
    exact tup_mk ho e2 (He.relAll_ok e3)
  · cases hq
/-- the i-th item of the tuple that the module's name x stands for -/
def itemOf (K : PySem.W.Frag) (x : Str) (i : Nat) : Addr := match K.lookup (He.ga K x) with
  | some ⟨_, _, .seq its _, _⟩ => (match its.toList[i]? with
    | some (.ref b) => b
    | _ => 0)
  | _ => 0
abbrev AlH : Type := Bool × List He.FnV × List He.FnW
def obsH (fa : List He.Fa) (ex : PySem.W.Frag → List Bool) (fn : List He.FnD) (fw : List He.DefD) (K : PySem.W.Frag) : AlH := ((fa.all fun f => f.ok K) && ((ex K).all id && ((fn.all fun d => (He.Fa.code d.at_ d.qual).ok K) && fw.all fun d => d.ok K)), fn.map (fun d => He.fnObs K d.at_), fw.map fun d => He.fnW K d.at_)
def valH (fn : List He.FnD) (fw : List He.DefD) : AlH := (true, fn.map He.FnD.val, fw.map He.DefD.val)
/-- no table of code objects -/
def noTab : Obj → Bool
  | ⟨.none, _, .fields _, _⟩ => false
  | _ => true
/-- the objects from a on, so many, without the tables -/
def frR (g : Addr → Option Obj) : Nat → Nat → PySem.W.Frag
  | _, 0 => []
  | a, m + 1 => match g a with
    | some o => (match noTab o with
      | true => (a, o) :: frR g (a + 1) m
      | false => frR g (a + 1) m)
    | none => frR g (a + 1) m
def frA (g : Addr → Option Obj) (a m : Nat) : PySem.W.Frag := match g mainGlobals with
  | some o => (match noTab o with
    | true => (mainGlobals, o) :: frR g a m
    | false => frR g a m)
  | none => frR g a m
theorem frR_at {g : Addr → Option Obj} {b : Addr} {o : Obj} : ∀ (m a : Nat), (frR g a m).lookup b = some o → g b = some o ∧ noTab o = true
  | 0, _, e => nomatch (show (none : Option Obj) = some o from e)
  | m + 1, a, e => by
    unfold frR at e
    cases ga : g a with
    | none =>
      rw [ga] at e
      exact frR_at m _ e
    | some u =>
      rw [ga] at e
      cases hn : noTab u with
      | false =>
        simp only [hn] at e
        exact frR_at m _ e
      | true =>
        simp only [hn, List.lookup] at e
        cases q : (b == a) with
        | true =>
          rw [q] at e
          cases e
          rw [beq_iff_eq.mp q]
          exact ⟨ga, hn⟩
        | false =>
          rw [q] at e
          exact frR_at m _ e
theorem frA_at {g : Addr → Option Obj} {b : Addr} {o : Obj} {a m : Nat} (e : (frA g a m).lookup b = some o) : g b = some o ∧ noTab o = true := by
  unfold frA at e
  cases ga : g mainGlobals with
  | none =>
    rw [ga] at e
    exact frR_at m _ e
  | some u =>
    rw [ga] at e
    cases hn : noTab u with
    | false =>
      simp only [hn] at e
      exact frR_at m _ e
    | true =>
      simp only [hn, List.lookup] at e
      cases q : (b == mainGlobals) with
      | true =>
        rw [q] at e
        cases e
        rw [beq_iff_eq.mp q]
        exact ⟨ga, hn⟩
      | false =>
        rw [q] at e
        exact frR_at m _ e
/-- the code object of the def x, its table -/
def codeOf (K : PySem.W.Frag) (x : Str) : Addr := match K.lookup (He.ga K x) with
  | some ⟨_, _, .func fd, _⟩ => (match fd.code with
    | .ref c => c
    | _ => 0)
  | _ => 0
def tabOf (K : PySem.W.Frag) (x : Str) : Addr := match K.lookup (codeOf K x) with
  | some ⟨_, _, .fields vs, _⟩ => (match (vs[11]? : Option Value) with
    | some (.ref t) => t
    | _ => 0)
  | _ => 0
def isTab0 : Option Obj → Bool
  | some ⟨.none, none, .fields vs, sl⟩ => vs.isEmpty && sl.isEmpty
  | _ => false
theorem isTab0_ok {o : Option Obj} (h : isTab0 o = true) : o = some tab0 := by
  unfold isTab0 at h
  split at h
  · rename_i vs sl
    rw [Bool.and_eq_true, Array.isEmpty_iff, Array.isEmpty_iff] at h
    rw [h.1, h.2]
  · cases h
/-- a def that makes functions: its code object is known, its table is empty -/
def makB (K : PySem.W.Frag) (x : Str) : Bool := (match K.lookup (He.ga K x) with
  | some ⟨_, _, .func fd, _⟩ => (match fd.code with
    | .ref _ => true
    | _ => false)
  | _ => false) && PySem.W.codeHdIn K (codeOf K x) (tabOf K x)
def tabsB (g : Addr → Option Obj) (K : PySem.W.Frag) (tb : List Str) : Bool := tb.all fun x => isTab0 (g (tabOf K x))
/-- a part of the facts: one run of the top shows one part -/
structure Fx where
  fa : List He.Fa
  ex : PySem.W.Frag → List Bool
  fn : List He.FnD
  tb : List Str
  fw : List He.DefD
def Fx.ob (x : Fx) (a m : Nat) (g : Addr → Option Obj) : Bool × AlH := (tabsB g (frA g a m) x.tb, obsH x.fa x.ex x.fn x.fw (frA g a m))
def Fx.val (x : Fx) : Bool × AlH := (true, valH x.fn x.fw)
/-- what is known of the heap: its part without the tables, and that these are empty -/
structure SaysT (ps : List Fx) (K : PySem.W.Frag) (h : Heap) : Prop where
  kin : K.In h
  ob : ∀ x ∈ ps, obsH x.fa x.ex x.fn x.fw K = valH x.fn x.fw
  tab : ∀ x ∈ ps, ∀ y ∈ x.tb, h.get? (tabOf K y) = some tab0 ∧ K.lookup (tabOf K y) = none
theorem ob_each {ps : List Fx} {a m : Nat} {g : Addr → Option Obj} (e : (ps.map fun x => x.ob a m g) = ps.map Fx.val) : ∀ x ∈ ps, x.ob a m g = x.val := by
  induction ps with
  | nil => intro x hx; cases hx
  | cons y r ih =>
    rw [List.map_cons, List.map_cons] at e
    injection e with e1 e2
    intro x hx
    rcases List.mem_cons.mp hx with z | z
    · rw [z]
      exact e1
    · exact ih e2 x z
def hookT (a m : Nat) (ps : List Fx) : PySem.W.Hook where
  α := List (Bool × AlH)
  obs := fun s => ps.map fun x => x.ob a m s.heap.get?
  val := fun _ => ps.map Fx.val
  says := fun _ h => ∃ K : PySem.W.Frag, SaysT ps K h
  of := fun _ s e => ⟨frA s.heap.get? a m, fun _ _ z => (frA_at z).1, fun x hx => congrArg (fun y => y.2) (ob_each e x hx), fun x hx y hy => by
    have e1 : tabsB s.heap.get? (frA s.heap.get? a m) x.tb = true := congrArg (fun y => y.1) (ob_each e x hx)
    have e2 := isTab0_ok (List.all_eq_true.mp e1 y hy)
    refine ⟨e2, ?_⟩
    cases q : (frA s.heap.get? a m).lookup (tabOf (frA s.heap.get? a m) y) with
    | none => rfl
    | some o =>
      obtain ⟨z1, z2⟩ := frA_at q
      rw [e2] at z1
      cases z1
      cases z2⟩
  keeps := fun _ _ _ ⟨K, c⟩ kp => ⟨K, PySem.W.Frag.In.keeps c.kin kp, c.ob, fun x hx y hy => ⟨kp _ _ (c.tab x hx y hy).1, (c.tab x hx y hy).2⟩⟩
def obT (a m : Nat) (ps : List Fx) (g : Addr → Option Obj) : List (Bool × AlH) := ps.map fun x => x.ob a m g
theorem obT_eq {a m : Nat} {ps : List Fx} {g : Addr → Option Obj} {s : Shared} (hh : ∀ b, g b = s.heap.get? b) : obT a m ps g = (hookT a m ps).obs s := by
  obtain rfl : g = s.heap.get? := funext hh
  rfl
theorem two_maps {S A B : Type} {o : Option S} {f : S → A} {g : S → B} {u : A} {v : B} (h1 : o.map f = some u) (h2 : o.map g = some v) : o.map (fun s => (f s, g s)) = some (u, v) := by
  cases o with
  | none => cases h1
  | some z =>
    have e1 : f z = u := Option.some.inj h1
    have e2 : g z = v := Option.some.inj h2
    show some (f z, g z) = _
    rw [e1, e2]
/-- the runs, one for each part, put together -/
theorem runs_join {S A B : Type} {o : Option S} {f : S → A} {g : S → B} {u : A} {v : B} {ps : List Fx} {a m : Nat} {t : S → Addr → Option Obj} (h0 : o.map (fun s => (f s, g s)) = some (u, v)) (h : ∀ x ∈ ps, o.map (fun s => x.ob a m (t s)) = some x.val) :
    o.map (fun s => (f s, g s, obT a m ps (t s))) = some (u, v, ps.map Fx.val) := by
  cases o with
  | none => cases h0
  | some z =>
    have e0 : (f z, g z) = (u, v) := Option.some.inj h0
    have e1 : obT a m ps (t z) = ps.map Fx.val := List.map_congr_left fun x hx => Option.some.inj (h x hx)
    have e2 : f z = u := congrArg Prod.fst e0
    have e3 : g z = v := congrArg Prod.snd e0
    show some (f z, g z, obT a m ps (t z)) = _
    rw [e1, e2, e3]
section
variable {fa : List He.Fa} {ex : PySem.W.Frag → List Bool} {fn : List He.FnD} {fw : List He.DefD} {K : PySem.W.Frag} (c : obsH fa ex fn fw K = valH fn fw)
include c
theorem h_all : (fa.all fun f => f.ok K) = true ∧ (ex K).all id = true ∧ (fn.all fun d => (He.Fa.code d.at_ d.qual).ok K) = true ∧ (fw.all fun d => d.ok K) = true := by
  have e : ((fa.all fun f => f.ok K) && ((ex K).all id && ((fn.all fun d => (He.Fa.code d.at_ d.qual).ok K) && fw.all fun d => d.ok K))) = true := congrArg (fun z : AlH => z.1) c
  rw [Bool.and_eq_true, Bool.and_eq_true, Bool.and_eq_true] at e
  exact e
theorem h_fact (i : Nat) {f : He.Fa} (hi : fa[i]? = some f) : f.ok K = true := List.all_eq_true.mp (h_all c).1 f (List.mem_of_getElem? hi)
theorem h_ex (i : Nat) {b : Bool} (hi : (ex K)[i]? = some b) : b = true := List.all_eq_true.mp (h_all c).2.1 b (List.mem_of_getElem? hi)
theorem h_def (i : Nat) {d : He.FnD} (hi : fn[i]? = some d) :
    ∃ oc od osl kV doc pm an cdv ct, K.lookup (He.fAd K d.at_) = some ⟨oc, od, .func (PySem.W.fnOf d.name d.qual d.params d.body d.scope .none kV doc pm an cdv ct), osl⟩ ∧ PySem.W.codeIn K cdv d.qual = true := by
  have e : fn.map (fun d => He.fnObs K d.at_) = fn.map He.FnD.val := congrArg (fun z : AlH => z.2.1) c
  have e2 : (fn.map fun d => He.fnObs K d.at_)[i]? = (fn.map He.FnD.val)[i]? := by rw [e]
  rw [List.getElem?_map, List.getElem?_map, hi] at e2
  exact He.fn_ok (Option.some.inj e2) (List.all_eq_true.mp (h_all c).2.2.1 d (List.mem_of_getElem? hi))
theorem h_dfl (i : Nat) {d : He.DefD} (hi : fw[i]? = some d) : ∃ fd, FunD K d.name d.qual d.params d.body d.scope (d.dvs K) (d.kws K) (He.fAd K d.at_) fd := by
  have e : fw.map (fun d => He.fnW K d.at_) = fw.map He.DefD.val := congrArg (fun z : AlH => z.2.2) c
  have e2 : (fw.map fun d => He.fnW K d.at_)[i]? = (fw.map He.DefD.val)[i]? := by rw [e]
  rw [List.getElem?_map, List.getElem?_map, hi] at e2
  exact He.DefD.funD (Option.some.inj e2) (List.all_eq_true.mp (h_all c).2.2.2 d (List.mem_of_getElem? hi))
end
/-- what is known of a def's object -/
abbrev FnAtK (K : PySem.W.Frag) (f : Addr) (x qual : Str) (st : Stmt) : Prop :=
  ∃ oc od osl kV doc pm an cdv ct, K.lookup f = some ⟨oc, od, .func (PySem.W.fnOf x qual (defArgs st) (defBody st) (defScope st) .none kV doc pm an cdv ct), osl⟩ ∧ PySem.W.codeIn K cdv qual = true
abbrev BindK (x qual : Str) (st : Stmt) (ps : List Str) : Prop :=
  ∀ (kV doc pm : Value) (an : Option Addr) (cdv ct : Value) (us : List Value), us.length = ps.length → bindArgs (PySem.W.fnOf x qual (defArgs st) (defBody st) (defScope st) .none kV doc pm an cdv ct) ⟨us, []⟩ = pure (ps.zip us)
section
variable {K : PySem.W.Frag} {h : Heap} {mg : Str → Option Value}
theorem cls_h {x qual : Str} {ns : List Str} {st : Stmt} {ps : List Str} (X : K.In h) (G : h.Ns mainGlobals mg) (g : (He.Fa.glo x).ok K = true) (cl : (He.Fa.cls x).ok K = true) (mk : (He.Fa.mkr x).ok K = true) (me : (He.Fa.meth x "__init__").ok K = true)
    (no : NoAll K (He.ga K x) ns) (cla : He.eqO (PySem.W.findIn K (.ref (He.ga K x)) "__class__") (some (some (.builtin "object.__class__"))) = true) (mro : decide (PySem.W.mroIn K (He.ga K x) (.type "object") = some true) = true)
    (fn : FnAtK K (He.ma K (He.ga K x) "__init__") "__init__" qual st) (b : BindK "__init__" qual st ps) : ClsT K mg x qual (He.ga K x) (He.ma K (He.ga K x) "__init__") ns st ps := by
  obtain ⟨oc, od, osl, kV, doc, pm, an, cdv, ct, lk, cd⟩ := fn
  have kp := (He.meth_ok me).kp
  exact ⟨He.cls_ok cl, no, He.mkr_ok mk, He.glo_ok X G g, ⟨_, fun_mk (st := st) lk cd kp, (fun_mk (st := st) lk cd kp).binds b⟩, He.eqO_ok cla, of_decide_eq_true mro⟩
theorem met_h {x m qual : Str} {st : Stmt} {ps : List Str} (me : (He.Fa.meth x m).ok K = true) (fn : FnAtK K (He.ma K (He.ga K x) m) m qual st) (b : BindK m qual st ps) : MetT K (He.ga K x) m qual st (He.ma K (He.ga K x) m) ps := by
  obtain ⟨oc, od, osl, kV, doc, pm, an, cdv, ct, lk, cd⟩ := fn
  have kp := (He.meth_ok me).kp
  exact ⟨⟨_, fun_mk (st := st) lk cd kp, (fun_mk (st := st) lk cd kp).binds b⟩, He.meth_ok me⟩
theorem def_h {x : Str} {st : Stmt} {ps : List Str} (X : K.In h) (G : h.Ns mainGlobals mg) (g : (He.Fa.glo x).ok K = true) (kp : (He.Fa.keep x).ok K = true) (fn : FnAtK K (He.ga K x) x x st) (b : BindK x x st ps) : DefT K mg x st (He.ga K x) ps := by
  obtain ⟨oc, od, osl, kV, doc, pm, an, cdv, ct, lk, cd⟩ := fn
  exact ⟨⟨_, fun_mk (st := st) lk cd kp, (fun_mk (st := st) lk cd kp).binds b⟩, He.glo_ok X G g⟩
theorem defa_h {g x : Str} {st : Stmt} {ps : List Str} (X : K.In h) (G : h.Ns mainGlobals mg) (gl : (He.Fa.glo g).ok K = true) (kp : (He.Fa.keep g).ok K = true) (fn : FnAtK K (He.ga K g) x x st) (b : BindK x x st ps) : DefA K mg g x st (He.ga K g) ps := by
  obtain ⟨oc, od, osl, kV, doc, pm, an, cdv, ct, lk, cd⟩ := fn
  exact ⟨⟨_, fun_mk (st := st) lk cd kp, (fun_mk (st := st) lk cd kp).binds b⟩, He.glo_ok X G gl⟩
theorem dfl_h {x : Str} {st : Stmt} {ps : List Str} {dvs : List V} {n : Nat} (X : K.In h) (G : h.Ns mainGlobals mg) (gl : (He.Fa.glo x).ok K = true) (fn : ∃ fd, FunD K x x (defArgs st) (defBody st) (defScope st) dvs [] (He.ga K x) fd)
    (b0 : ∀ (T : Addr) (kV doc pm : Value) (an : Option Addr) (cdv ct : Value) (us its : List Value), us.length = ps.length → its.length = dvs.length →
      ∃ k, bindArgs (PySem.W.fnOf x x (defArgs st) (defBody st) (defScope st) (.ref T) kV doc pm an cdv ct) ⟨us, []⟩ = seqItems? (.ref T) >>= k ∧ k (some its.toArray) = pure (ps.zip (us ++ its.drop dvs.length)))
    (b1 : ∀ (T : Addr) (kV doc pm : Value) (an : Option Addr) (cdv ct : Value) (us its : List Value), us.length = n → its.length = dvs.length →
      ∃ k, bindArgs (PySem.W.fnOf x x (defArgs st) (defBody st) (defScope st) (.ref T) kV doc pm an cdv ct) ⟨us, []⟩ = seqItems? (.ref T) >>= k ∧ k (some its.toArray) = pure (ps.zip (us ++ its.drop 0)))
    (hd : dvs ≠ [] := by intro z; cases z) (hn : n + (dvs.length - 0) = ps.length := by rfl) : DflT K mg x st (He.ga K x) ps dvs := by
  obtain ⟨fd, F⟩ := fn
  obtain ⟨d0, r0, B0⟩ := F.binds1 ps.length dvs.length hd (by rw [Nat.sub_self]; rfl) b0
  rw [List.drop_length] at r0
  cases r0
  obtain ⟨d1, r1, B1⟩ := F.binds1 n 0 hd hn b1
  exact ⟨⟨fd, F, B0, d1, r1, B1⟩, He.glo_ok X G gl⟩
theorem low_h {p1 p2 q1 q2 q3 q4 : Pos} (X : K.In h) (G : h.Ns mainGlobals mg) (g : (He.Fa.glo "Misplaced").ok K = true) (kp : (He.Fa.keep "Misplaced").ok K = true) (ec : excB K (He.ga K "Misplaced") = true) (em : (He.Fa.exm "Misplaced" "Misplaced" true).ok K = true) (np : (He.Fa.noat "Misplaced" "place").ok K = true)
    (sa : He.eqO (PySem.W.findIn K (.ref (He.ga K "Misplaced")) "__setattr__") (some (some (.builtin "object.__setattr__"))) = true) (gt : He.eqO (PySem.W.findIn K (.ref (He.ga K "Misplaced")) "__getattribute__") (some (some (.builtin "BaseException.__getattribute__"))) = true)
    (gg : He.eqO (PySem.W.findIn K (.ref (He.ga K "Misplaced")) "__getattr__") (some none) = true) (me : (He.Fa.meth "Misplaced" "__init__").ok K = true) (sb : decide (PySem.W.subIn K (.ref (He.ga K "Misplaced")) (.type "BaseException") = some true) = true)
    (ty : decide (PySem.W.typeIn K (.ref (He.ga K "Misplaced")) = some (.type "type")) = true) (hd : PySem.W.hasDictIn K (He.ga K "Misplaced") = true)
    (fn : ∃ oc od osl kV doc pm an cdv ct, K.lookup (He.ma K (He.ga K "Misplaced") "__init__") = some ⟨oc, od, .func (PySem.W.fnOf "__init__" "Misplaced.__init__" (PySem.LowX.iA p1 p2) (PySem.LowX.iB q1 q2 q3 q4) PySem.LowX.iS .none kV doc pm an cdv ct), osl⟩ ∧ PySem.W.codeIn K cdv "Misplaced.__init__" = true)
    (kn : (match K.lookup (He.ma K (He.ga K "Misplaced") "__init__") with
      | some ⟨_, _, .func fd, _⟩ => decide (fd.kwdefaults = .none)
      | _ => false) = true) : PySem.LowX.LowTxt K mg (He.ga K "Misplaced") (He.ma K (He.ga K "Misplaced") "__init__") := by
  obtain ⟨oc, od, osl, kV, doc, pm, an, cdv, ct, lk, cd⟩ := fn
  have mm := He.meth_ok me
  rw [lk] at kn
  have ek : kV = .none := of_decide_eq_true kn
  subst ek
  exact ⟨He.glo_ok X G g, excB_ok ec, He.eqO_ok sa, He.eqO_ok gt, He.eqO_ok gg, He.noat_ok np, mm.at_, beq_iff_eq.mp mm.fn, He.keep_ok kp, of_decide_eq_true sb, of_decide_eq_true ty, hd, He.exm_ok em, oc, od, doc, pm, an, cdv, ct, osl, p1, p2, q1, q2, q3, q4, lk, cd⟩
end
theorem mak_h {K : PySem.W.Frag} {x : Str} {st : Stmt} (fn : FnAtK K (He.ga K x) x x st) (mb : makB K x = true) : MakT K x st (He.ga K x) (codeOf K x) (tabOf K x) := by
  obtain ⟨oc, od, osl, kV, doc, pm, an, cdv, ct, lk, cd⟩ := fn
  unfold makB at mb
  rw [Bool.and_eq_true] at mb
  obtain ⟨m1, m2⟩ := mb
  have hc : cdv = .ref (codeOf K x) := by
    rw [lk] at m1
    unfold codeOf
    rw [lk]
    dsimp only at m1 ⊢
    cases cdv with
    | ref c => rfl
    | _ => cases m1
  subst hc
  exact ⟨⟨oc, od, kV, doc, pm, an, ct, osl, lk, cd⟩, m2⟩
end HC
namespace HC
open PySem PySem.Spec PyProof.Rows L2
def hfa0_0 : List He.Fa := [.glo "Plain",
  .cls "Plain",
  .mkr "Plain",
  .meth "Plain" "__init__",
  .noat "Plain" "tincture",
  .glo "Parted",
  .cls "Parted",
  .mkr "Parted",
  .meth "Parted" "__init__",
  .noat "Parted" "way",
  .noat "Parted" "line",
  .noat "Parted" "first",
  .noat "Parted" "second",
  .glo "Varied",
  .cls "Varied",
  .mkr "Varied",
  .meth "Varied" "__init__",
  .noat "Varied" "way",
  .noat "Varied" "pieces",
  .noat "Varied" "line",
  .noat "Varied" "first",
  .noat "Varied" "second",
  .glo "Ordinary",
  .cls "Ordinary",
  .mkr "Ordinary",
  .meth "Ordinary" "__init__",
  .noat "Ordinary" "figure",
  .noat "Ordinary" "line",
  .noat "Ordinary" "fill",
  .glo "Group"]
def hfa0_1 : List He.Fa := [.cls "Group",
  .mkr "Group",
  .meth "Group" "__init__",
  .noat "Group" "charge",
  .noat "Group" "many",
  .noat "Group" "manner",
  .noat "Group" "size",
  .noat "Group" "fill",
  .glo "Arms",
  .cls "Arms",
  .mkr "Arms",
  .meth "Arms" "__init__",
  .noat "Arms" "field",
  .noat "Arms" "layers",
  .glo "Mark",
  .cls "Mark",
  .mkr "Mark",
  .meth "Mark" "__init__",
  .noat "Mark" "g",
  .noat "Mark" "k",
  .glo "Marked",
  .cls "Marked",
  .mkr "Marked",
  .meth "Marked" "__init__",
  .noat "Marked" "arms",
  .noat "Marked" "canton",
  .noat "Marked" "marks",
  .glo "Quarterly",
  .cls "Quarterly",
  .mkr "Quarterly"]
def hfa0_2 : List He.Fa := [.meth "Quarterly" "__init__",
  .noat "Quarterly" "coats",
  .glo "Impaled",
  .cls "Impaled",
  .mkr "Impaled",
  .meth "Impaled" "__init__",
  .noat "Impaled" "dexter",
  .noat "Impaled" "sinister",
  .glo "Pretence",
  .cls "Pretence",
  .mkr "Pretence",
  .meth "Pretence" "__init__",
  .noat "Pretence" "below",
  .noat "Pretence" "upon",
  .glo "Reader",
  .cls "Reader",
  .mkr "Reader",
  .meth "Reader" "__init__",
  .noat "Reader" "numbers",
  .noat "Reader" "place",
  .meth "Reader" "take",
  .meth "Reader" "take_tincture_beside",
  .meth "Reader" "at_end",
  .glo "Spot",
  .cls "Spot",
  .mkr "Spot",
  .meth "Spot" "__init__",
  .noat "Spot" "coat",
  .noat "Spot" "number",
  .noat "Spot" "p"]
def hfa0_3 : List He.Fa := [.noat "Spot" "r",
  .glo "Misplaced",
  .keep "Misplaced",
  .exm "Misplaced" "Misplaced" true,
  .noat "Misplaced" "place",
  .meth "Misplaced" "__init__",
  .glo "take_field",
  .keep "take_field",
  .glo "take_parted",
  .keep "take_parted",
  .glo "take_varied",
  .keep "take_varied",
  .glo "take_fill",
  .keep "take_fill",
  .glo "take_layer",
  .keep "take_layer",
  .glo "take_arms",
  .keep "take_arms",
  .glo "take_marks",
  .keep "take_marks",
  .glo "take_marked",
  .keep "take_marked",
  .glo "take_coat",
  .keep "take_coat",
  .glo "take_quarterly",
  .keep "take_quarterly",
  .glo "decode",
  .keep "decode",
  .glo "coats_in",
  .keep "coats_in"]
def hfa0_4 : List He.Fa := [.glo "parts_in",
  .keep "parts_in",
  .glo "from_scallop_middle",
  .keep "from_scallop_middle",
  .glo "in_first_half",
  .keep "in_first_half",
  .glo "straight",
  .keep "straight",
  .glo "wavy",
  .keep "wavy",
  .glo "embattled",
  .keep "embattled",
  .glo "indented",
  .keep "indented",
  .glo "engrailed",
  .keep "engrailed",
  .glo "invected",
  .keep "invected",
  .glo "offset",
  .keep "offset",
  .glo "mirrored",
  .keep "mirrored",
  .glo "from_middle",
  .keep "from_middle",
  .glo "over_bend",
  .keep "over_bend",
  .glo "along_bend",
  .keep "along_bend",
  .glo "per_pale",
  .keep "per_pale"]
def hfa0_5 : List He.Fa := [.glo "per_fess",
  .keep "per_fess",
  .glo "per_bend",
  .keep "per_bend",
  .glo "per_bend_sinister",
  .keep "per_bend_sinister",
  .glo "per_chevron",
  .keep "per_chevron",
  .glo "per_saltire",
  .keep "per_saltire",
  .glo "per_cross",
  .keep "per_cross",
  .glo "gyronny",
  .keep "gyronny",
  .glo "barry",
  .keep "barry",
  .glo "paly",
  .keep "paly",
  .glo "bendy",
  .keep "bendy",
  .glo "bendy_sinister",
  .keep "bendy_sinister",
  .glo "chevronny",
  .keep "chevronny",
  .glo "chequy",
  .keep "chequy",
  .glo "lozengy",
  .keep "lozengy",
  .glo "has_first",
  .keep "has_first"]
def hfa0_6 : List He.Fa := [.glo "field_tincture",
  .keep "field_tincture"]
def hfa0_ : List He.Fa := hfa0_0 ++ (hfa0_1 ++ (hfa0_2 ++ (hfa0_3 ++ (hfa0_4 ++ (hfa0_5 ++ (hfa0_6))))))
def hex0_0 (K : PySem.W.Frag) : List Bool := [He.eqO (PySem.W.findIn K (.ref (He.ga K "Plain")) "__class__") (some (some (.builtin "object.__class__"))),
  decide (PySem.W.mroIn K (He.ga K "Plain") (.type "object") = some true),
  He.eqO (PySem.W.findIn K (.ref (He.ga K "Parted")) "__class__") (some (some (.builtin "object.__class__"))),
  decide (PySem.W.mroIn K (He.ga K "Parted") (.type "object") = some true),
  He.eqO (PySem.W.findIn K (.ref (He.ga K "Varied")) "__class__") (some (some (.builtin "object.__class__"))),
  decide (PySem.W.mroIn K (He.ga K "Varied") (.type "object") = some true),
  He.eqO (PySem.W.findIn K (.ref (He.ga K "Ordinary")) "__class__") (some (some (.builtin "object.__class__"))),
  decide (PySem.W.mroIn K (He.ga K "Ordinary") (.type "object") = some true),
  He.eqO (PySem.W.findIn K (.ref (He.ga K "Group")) "__class__") (some (some (.builtin "object.__class__"))),
  decide (PySem.W.mroIn K (He.ga K "Group") (.type "object") = some true),
  He.eqO (PySem.W.findIn K (.ref (He.ga K "Arms")) "__class__") (some (some (.builtin "object.__class__"))),
  decide (PySem.W.mroIn K (He.ga K "Arms") (.type "object") = some true),
  He.eqO (PySem.W.findIn K (.ref (He.ga K "Mark")) "__class__") (some (some (.builtin "object.__class__"))),
  decide (PySem.W.mroIn K (He.ga K "Mark") (.type "object") = some true),
  He.eqO (PySem.W.findIn K (.ref (He.ga K "Marked")) "__class__") (some (some (.builtin "object.__class__"))),
  decide (PySem.W.mroIn K (He.ga K "Marked") (.type "object") = some true),
  He.eqO (PySem.W.findIn K (.ref (He.ga K "Quarterly")) "__class__") (some (some (.builtin "object.__class__"))),
  decide (PySem.W.mroIn K (He.ga K "Quarterly") (.type "object") = some true),
  He.eqO (PySem.W.findIn K (.ref (He.ga K "Impaled")) "__class__") (some (some (.builtin "object.__class__"))),
  decide (PySem.W.mroIn K (He.ga K "Impaled") (.type "object") = some true),
  He.eqO (PySem.W.findIn K (.ref (He.ga K "Pretence")) "__class__") (some (some (.builtin "object.__class__"))),
  decide (PySem.W.mroIn K (He.ga K "Pretence") (.type "object") = some true),
  He.eqO (PySem.W.findIn K (.ref (He.ga K "Reader")) "__class__") (some (some (.builtin "object.__class__"))),
  decide (PySem.W.mroIn K (He.ga K "Reader") (.type "object") = some true),
  He.eqO (PySem.W.findIn K (.ref (He.ga K "Spot")) "__class__") (some (some (.builtin "object.__class__"))),
  decide (PySem.W.mroIn K (He.ga K "Spot") (.type "object") = some true),
  excB K (He.ga K "Misplaced"),
  He.eqO (PySem.W.findIn K (.ref (He.ga K "Misplaced")) "__setattr__") (some (some (.builtin "object.__setattr__"))),
  He.eqO (PySem.W.findIn K (.ref (He.ga K "Misplaced")) "__getattribute__") (some (some (.builtin "BaseException.__getattribute__"))),
  He.eqO (PySem.W.findIn K (.ref (He.ga K "Misplaced")) "__getattr__") (some none)]
def hex0_1 (K : PySem.W.Frag) : List Bool := [decide (PySem.W.subIn K (.ref (He.ga K "Misplaced")) (.type "BaseException") = some true),
  decide (PySem.W.typeIn K (.ref (He.ga K "Misplaced")) = some (.type "type")),
  PySem.W.hasDictIn K (He.ga K "Misplaced"),
  (match K.lookup (He.ma K (He.ga K "Misplaced") "__init__") with
      | some ⟨_, _, .func fd, _⟩ => decide (fd.kwdefaults = .none)
      | _ => false),
  makB K "answered_at",
  makB K "at",
  decide (tabOf K "answered_at" ≠ tabOf K "at"),
  tupAtB K (He.ga K "LINES") [.ref (He.ga K "straight"), .ref (He.ga K "wavy"), .ref (He.ga K "embattled"), .ref (He.ga K "indented"), .ref (He.ga K "engrailed"), .ref (He.ga K "invected")],
  tupAtB K (He.ga K "PARTINGS") [.ref (He.ga K "per_pale"), .ref (He.ga K "per_fess"), .ref (He.ga K "per_bend"), .ref (He.ga K "per_bend_sinister"), .ref (He.ga K "per_chevron"), .ref (He.ga K "per_saltire"), .ref (He.ga K "per_cross"), .ref (He.ga K "gyronny")],
  tupAtB K (He.ga K "VARIATIONS") [.ref (He.ga K "barry"), .ref (He.ga K "paly"), .ref (He.ga K "bendy"), .ref (He.ga K "bendy_sinister"), .ref (He.ga K "chevronny"), .ref (He.ga K "chequy"), .ref (He.ga K "lozengy")],
  tupAtB K (He.ga K "CHARGES") [.ref (He.ga K "roundel"), .ref (He.ga K "annulet"), .ref (He.ga K "lozenge"), .ref (He.ga K "mascle"), .ref (He.ga K "fusil"), .ref (He.ga K "billet"), .ref (He.ga K "mullet"), .ref (He.ga K "crescent"), .ref (He.ga K "increscent"), .ref (He.ga K "crosslet"), .ref (He.ga K "saltorel"), .ref (He.ga K "escutcheon"), .ref (He.ga K "tower"), .ref (He.ga K "sword"), .ref (He.ga K "wheel"), .ref (He.ga K "arrow")],
  tupAtB K (He.ga K "MIDDLES") [.ref (He.ga K "row_middles"), .ref (He.ga K "fess_middles"), .ref (He.ga K "pale_middles"), .ref (He.ga K "bend_middles"), .ref (He.ga K "bend_sinister_middles"), .ref (He.ga K "chief_middles"), .ref (He.ga K "base_middles")],
  tupAtB K (He.ga K "HALVES") [.ref (He.ga K "row_half"), .ref (He.ga K "fess_half"), .ref (He.ga K "pale_half"), .ref (He.ga K "bend_half"), .ref (He.ga K "bend_half"), .ref (He.ga K "chief_half"), .ref (He.ga K "base_half")],
  tupAtB K (He.ga K "ORDINARIES") [.ref (He.ga K "chief"), .ref (He.ga K "base"), .ref (He.ga K "pale"), .ref (He.ga K "fess"), .ref (He.ga K "bend"), .ref (He.ga K "bend_sinister"), .ref (He.ga K "chevron"), .ref (He.ga K "cross"), .ref (He.ga K "saltire"), .ref (He.ga K "pile"), .ref (He.ga K "bordure"), .ref (He.ga K "canton"), .ref (He.ga K "quarter")],
  tupAtB K (He.ga K "ROWS") [.ref (itemOf K "ROWS" 0), .ref (itemOf K "ROWS" 1), .ref (itemOf K "ROWS" 2), .ref (itemOf K "ROWS" 3), .ref (itemOf K "ROWS" 4), .ref (itemOf K "ROWS" 5), .ref (itemOf K "ROWS" 6), .ref (itemOf K "ROWS" 7), .ref (itemOf K "ROWS" 8), .ref (itemOf K "ROWS" 9)],
  tupAtB K (itemOf K "ROWS" 0) [.int 1],
  tupAtB K (itemOf K "ROWS" 1) [.int 2],
  tupAtB K (itemOf K "ROWS" 2) [.int 2, .int 1],
  tupAtB K (itemOf K "ROWS" 3) [.int 2, .int 2],
  tupAtB K (itemOf K "ROWS" 4) [.int 2, .int 1, .int 2],
  tupAtB K (itemOf K "ROWS" 5) [.int 3, .int 2, .int 1],
  tupAtB K (itemOf K "ROWS" 6) [.int 3, .int 3, .int 1],
  tupAtB K (itemOf K "ROWS" 7) [.int 3, .int 2, .int 3],
  tupAtB K (itemOf K "ROWS" 8) [.int 3, .int 3, .int 3],
  tupAtB K (itemOf K "ROWS" 9) [.int 4, .int 3, .int 2, .int 1],
  He.eqO (PySem.W.specialIn K (.builtin "object.__class__") "__get__") (some (some (.builtin "getset_descriptor.__get__"))),
  decide (PySem.W.takesIn K (.builtin "object.__class__") = some true),
  decide (PySem.W.kitOne K (.ref (He.ga K "Marked")) (.ref (He.ga K "Impaled")) = some false),
  decide (PySem.W.kitOne K (.ref (He.ga K "Quarterly")) (.ref (He.ga K "Impaled")) = some false),
  decide (PySem.W.kitOne K (.ref (He.ga K "Impaled")) (.ref (He.ga K "Impaled")) = some true)]
def hex0_2 (K : PySem.W.Frag) : List Bool := [decide (PySem.W.kitOne K (.ref (He.ga K "Pretence")) (.ref (He.ga K "Impaled")) = some false),
  decide (PySem.W.kitOne K (.ref (He.ga K "Marked")) (.ref (He.ga K "Marked")) = some true),
  decide (PySem.W.kitOne K (.ref (He.ga K "Quarterly")) (.ref (He.ga K "Marked")) = some false),
  decide (PySem.W.kitOne K (.ref (He.ga K "Impaled")) (.ref (He.ga K "Marked")) = some false),
  decide (PySem.W.kitOne K (.ref (He.ga K "Pretence")) (.ref (He.ga K "Marked")) = some false),
  decide (PySem.W.kitOne K (.ref (He.ga K "Ordinary")) (.ref (He.ga K "Ordinary")) = some true),
  decide (PySem.W.kitOne K (.ref (He.ga K "Group")) (.ref (He.ga K "Ordinary")) = some false),
  decide (PySem.W.kitOne K (.ref (He.ga K "Parted")) (.ref (He.ga K "Parted")) = some true),
  decide (PySem.W.kitOne K (.ref (He.ga K "Varied")) (.ref (He.ga K "Parted")) = some false),
  decide (PySem.W.kitOne K (.ref (He.ga K "Plain")) (.ref (He.ga K "Plain")) = some true),
  decide (PySem.W.kitOne K (.ref (He.ga K "Parted")) (.ref (He.ga K "Plain")) = some false),
  decide (PySem.W.kitOne K (.ref (He.ga K "Varied")) (.ref (He.ga K "Plain")) = some false),
  decide (PySem.W.kitOne K (.ref (He.ga K "Marked")) (.ref (He.ga K "Quarterly")) = some false),
  decide (PySem.W.kitOne K (.ref (He.ga K "Quarterly")) (.ref (He.ga K "Quarterly")) = some true),
  decide (PySem.W.kitOne K (.ref (He.ga K "Impaled")) (.ref (He.ga K "Quarterly")) = some false),
  decide (PySem.W.kitOne K (.ref (He.ga K "Pretence")) (.ref (He.ga K "Quarterly")) = some false)]
def hex0_ (K : PySem.W.Frag) : List Bool := hex0_0 K ++ (hex0_1 K ++ (hex0_2 K))
def hp0 : Fx := ⟨hfa0_, hex0_, [], [], []⟩
def hfa1_0 : List He.Fa := [.glo "counterchanged_tincture",
  .keep "counterchanged_tincture",
  .glo "squared",
  .keep "squared",
  .glo "roundel",
  .keep "roundel",
  .glo "annulet",
  .keep "annulet",
  .glo "lozenge",
  .keep "lozenge",
  .glo "mascle",
  .keep "mascle",
  .glo "fusil",
  .keep "fusil",
  .glo "billet",
  .keep "billet",
  .glo "mullet",
  .keep "mullet",
  .glo "crescent",
  .keep "crescent",
  .glo "increscent",
  .keep "increscent",
  .glo "crosslet",
  .keep "crosslet",
  .glo "saltorel",
  .keep "saltorel",
  .glo "escutcheon",
  .keep "escutcheon",
  .glo "tower",
  .keep "tower"]
def hfa1_1 : List He.Fa := [.glo "sword",
  .keep "sword",
  .glo "wheel",
  .keep "wheel",
  .glo "arrow",
  .keep "arrow",
  .glo "charge_has",
  .keep "charge_has",
  .glo "share_middle",
  .keep "share_middle",
  .glo "across",
  .keep "across",
  .glo "down",
  .keep "down",
  .glo "row_middles",
  .keep "row_middles",
  .glo "fess_middles",
  .keep "fess_middles",
  .glo "pale_middles",
  .keep "pale_middles",
  .glo "bend_middles",
  .keep "bend_middles",
  .glo "bend_sinister_middles",
  .keep "bend_sinister_middles",
  .glo "chief_middles",
  .keep "chief_middles",
  .glo "base_middles",
  .keep "base_middles",
  .glo "row_half",
  .keep "row_half"]
def hfa1_2 : List He.Fa := [.glo "fess_half",
  .keep "fess_half",
  .glo "pale_half",
  .keep "pale_half",
  .glo "bend_half",
  .keep "bend_half",
  .glo "chief_half",
  .keep "chief_half",
  .glo "base_half",
  .keep "base_half",
  .glo "half_side",
  .keep "half_side",
  .glo "group_has",
  .keep "group_has",
  .glo "chief",
  .keep "chief",
  .glo "base",
  .keep "base",
  .glo "upright",
  .keep "upright",
  .glo "level",
  .keep "level",
  .glo "slanting",
  .keep "slanting",
  .glo "pale",
  .keep "pale",
  .glo "fess",
  .keep "fess",
  .glo "bend",
  .keep "bend"]
def hfa1_3 : List He.Fa := [.glo "bend_sinister",
  .keep "bend_sinister",
  .glo "chevron",
  .keep "chevron",
  .glo "cross",
  .keep "cross",
  .glo "saltire",
  .keep "saltire",
  .glo "pile",
  .keep "pile",
  .glo "bordure",
  .keep "bordure",
  .glo "in_corner",
  .keep "in_corner",
  .glo "canton",
  .keep "canton",
  .glo "quarter",
  .keep "quarter",
  .glo "ordinary_has",
  .keep "ordinary_has",
  .glo "layer_has",
  .keep "layer_has",
  .glo "layer_tincture",
  .keep "layer_tincture",
  .glo "arms_tincture",
  .keep "arms_tincture",
  .glo "inner_spot",
  .keep "inner_spot",
  .glo "coats_a_side",
  .keep "coats_a_side"]
def hfa1_4 : List He.Fa := [.glo "quarterly_spot",
  .keep "quarterly_spot",
  .glo "impaled_spot",
  .keep "impaled_spot",
  .glo "pretence_spot",
  .keep "pretence_spot",
  .glo "spot_within",
  .keep "spot_within",
  .glo "part_spot",
  .keep "part_spot",
  .glo "band_tincture",
  .keep "band_tincture",
  .glo "marked_tincture",
  .keep "marked_tincture",
  .glo "answered",
  .keep "answered",
  .glo "answered_at",
  .keep "answered_at",
  .glo "at",
  .keep "at",
  .int "FEWEST_PIECES" 2,
  .int "MOST_PIECES" 24,
  .int "FIRST_STRAIGHT_WAY" 5,
  .int "MOST_LAYERS" 8,
  .int "MOST_MARKS" 60,
  .int "MOST_G" 127,
  .int "LEAST_K" 1,
  .int "MOST_K" 255,
  .int "FEWEST_QUARTERS" 2,
  .int "MOST_QUARTERS" 9]
def hfa1_5 : List He.Fa := [.int "MOST_DEEP" 4,
  .int "LAST_TINCTURE" 8,
  .int "LAST_LINE" 5,
  .int "LAST_PARTED_WAY" 7,
  .int "LAST_VARIED_WAY" 6,
  .int "LAST_ORDINARY" 12,
  .int "LAST_CHARGE" 15,
  .int "LAST_MANNER" 6,
  .int "WIDTH" 480,
  .int "HEIGHT" 576,
  .int "REACH" 48,
  .int "ARGENT" 1,
  .int "MURREY" 9,
  .int "BAND_HEIGHT" 96,
  .glo "LINES",
  .glo "PARTINGS",
  .glo "VARIATIONS",
  .glo "CHARGES",
  .glo "MIDDLES",
  .glo "HALVES",
  .glo "ORDINARIES",
  .glo "ROWS",
  .free "len",
  .free "range",
  .free "isinstance",
  .free "abs",
  .free "min",
  .free "max",
  .free "enumerate",
  .free "reversed"]
def hfa1_6 : List He.Fa := [.free "sum",
  .free "list"]
def hfa1_ : List He.Fa := hfa1_0 ++ (hfa1_1 ++ (hfa1_2 ++ (hfa1_3 ++ (hfa1_4 ++ (hfa1_5 ++ (hfa1_6))))))
def hp1 : Fx := ⟨hfa1_, fun _ => [], [], [], []⟩
def hfn2_0 : List He.FnD := [⟨("Plain", some "__init__"), "__init__", "Plain.__init__", defArgs s_Plain_init, defBody s_Plain_init, defScope s_Plain_init⟩,
  ⟨("Parted", some "__init__"), "__init__", "Parted.__init__", defArgs s_Parted_init, defBody s_Parted_init, defScope s_Parted_init⟩,
  ⟨("Varied", some "__init__"), "__init__", "Varied.__init__", defArgs s_Varied_init, defBody s_Varied_init, defScope s_Varied_init⟩,
  ⟨("Ordinary", some "__init__"), "__init__", "Ordinary.__init__", defArgs s_Ordinary_init, defBody s_Ordinary_init, defScope s_Ordinary_init⟩,
  ⟨("Group", some "__init__"), "__init__", "Group.__init__", defArgs s_Group_init, defBody s_Group_init, defScope s_Group_init⟩,
  ⟨("Arms", some "__init__"), "__init__", "Arms.__init__", defArgs s_Arms_init, defBody s_Arms_init, defScope s_Arms_init⟩,
  ⟨("Mark", some "__init__"), "__init__", "Mark.__init__", defArgs s_Mark_init, defBody s_Mark_init, defScope s_Mark_init⟩,
  ⟨("Marked", some "__init__"), "__init__", "Marked.__init__", defArgs s_Marked_init, defBody s_Marked_init, defScope s_Marked_init⟩,
  ⟨("Quarterly", some "__init__"), "__init__", "Quarterly.__init__", defArgs s_Quarterly_init, defBody s_Quarterly_init, defScope s_Quarterly_init⟩,
  ⟨("Impaled", some "__init__"), "__init__", "Impaled.__init__", defArgs s_Impaled_init, defBody s_Impaled_init, defScope s_Impaled_init⟩,
  ⟨("Pretence", some "__init__"), "__init__", "Pretence.__init__", defArgs s_Pretence_init, defBody s_Pretence_init, defScope s_Pretence_init⟩,
  ⟨("Reader", some "__init__"), "__init__", "Reader.__init__", defArgs s_Reader_init, defBody s_Reader_init, defScope s_Reader_init⟩,
  ⟨("Reader", some "take"), "take", "Reader.take", defArgs s_Reader_take, defBody s_Reader_take, defScope s_Reader_take⟩,
  ⟨("Reader", some "take_tincture_beside"), "take_tincture_beside", "Reader.take_tincture_beside", defArgs s_Reader_take_tincture_beside, defBody s_Reader_take_tincture_beside, defScope s_Reader_take_tincture_beside⟩,
  ⟨("Reader", some "at_end"), "at_end", "Reader.at_end", defArgs s_Reader_at_end, defBody s_Reader_at_end, defScope s_Reader_at_end⟩,
  ⟨("Spot", some "__init__"), "__init__", "Spot.__init__", defArgs s_Spot_init, defBody s_Spot_init, defScope s_Spot_init⟩,
  ⟨("Misplaced", some "__init__"), "__init__", "Misplaced.__init__", defArgs s_Misplaced_init, defBody s_Misplaced_init, defScope s_Misplaced_init⟩,
  ⟨("take_field", none), "take_field", "take_field", defArgs s_take_field, defBody s_take_field, defScope s_take_field⟩,
  ⟨("take_parted", none), "take_parted", "take_parted", defArgs s_take_parted, defBody s_take_parted, defScope s_take_parted⟩,
  ⟨("take_varied", none), "take_varied", "take_varied", defArgs s_take_varied, defBody s_take_varied, defScope s_take_varied⟩,
  ⟨("take_fill", none), "take_fill", "take_fill", defArgs s_take_fill, defBody s_take_fill, defScope s_take_fill⟩,
  ⟨("take_layer", none), "take_layer", "take_layer", defArgs s_take_layer, defBody s_take_layer, defScope s_take_layer⟩,
  ⟨("take_arms", none), "take_arms", "take_arms", defArgs s_take_arms, defBody s_take_arms, defScope s_take_arms⟩,
  ⟨("take_marks", none), "take_marks", "take_marks", defArgs s_take_marks, defBody s_take_marks, defScope s_take_marks⟩,
  ⟨("take_marked", none), "take_marked", "take_marked", defArgs s_take_marked, defBody s_take_marked, defScope s_take_marked⟩,
  ⟨("take_coat", none), "take_coat", "take_coat", defArgs s_take_coat, defBody s_take_coat, defScope s_take_coat⟩,
  ⟨("take_quarterly", none), "take_quarterly", "take_quarterly", defArgs s_take_quarterly, defBody s_take_quarterly, defScope s_take_quarterly⟩,
  ⟨("decode", none), "decode", "decode", defArgs s_decode, defBody s_decode, defScope s_decode⟩,
  ⟨("coats_in", none), "coats_in", "coats_in", defArgs s_coats_in, defBody s_coats_in, defScope s_coats_in⟩,
  ⟨("parts_in", none), "parts_in", "parts_in", defArgs s_parts_in, defBody s_parts_in, defScope s_parts_in⟩]
def hfn2_1 : List He.FnD := [⟨("from_scallop_middle", none), "from_scallop_middle", "from_scallop_middle", defArgs s_from_scallop_middle, defBody s_from_scallop_middle, defScope s_from_scallop_middle⟩,
  ⟨("in_first_half", none), "in_first_half", "in_first_half", defArgs s_in_first_half, defBody s_in_first_half, defScope s_in_first_half⟩,
  ⟨("straight", none), "straight", "straight", defArgs s_straight, defBody s_straight, defScope s_straight⟩,
  ⟨("wavy", none), "wavy", "wavy", defArgs s_wavy, defBody s_wavy, defScope s_wavy⟩,
  ⟨("embattled", none), "embattled", "embattled", defArgs s_embattled, defBody s_embattled, defScope s_embattled⟩,
  ⟨("indented", none), "indented", "indented", defArgs s_indented, defBody s_indented, defScope s_indented⟩,
  ⟨("engrailed", none), "engrailed", "engrailed", defArgs s_engrailed, defBody s_engrailed, defScope s_engrailed⟩,
  ⟨("invected", none), "invected", "invected", defArgs s_invected, defBody s_invected, defScope s_invected⟩,
  ⟨("offset", none), "offset", "offset", defArgs s_offset, defBody s_offset, defScope s_offset⟩,
  ⟨("mirrored", none), "mirrored", "mirrored", defArgs s_mirrored, defBody s_mirrored, defScope s_mirrored⟩,
  ⟨("from_middle", none), "from_middle", "from_middle", defArgs s_from_middle, defBody s_from_middle, defScope s_from_middle⟩,
  ⟨("over_bend", none), "over_bend", "over_bend", defArgs s_over_bend, defBody s_over_bend, defScope s_over_bend⟩,
  ⟨("along_bend", none), "along_bend", "along_bend", defArgs s_along_bend, defBody s_along_bend, defScope s_along_bend⟩]
def hfn2_ : List He.FnD := hfn2_0 ++ (hfn2_1)
def hp2 : Fx := ⟨[], fun _ => [], hfn2_, [], []⟩
def hfn3_0 : List He.FnD := [⟨("per_pale", none), "per_pale", "per_pale", defArgs s_per_pale, defBody s_per_pale, defScope s_per_pale⟩,
  ⟨("per_fess", none), "per_fess", "per_fess", defArgs s_per_fess, defBody s_per_fess, defScope s_per_fess⟩,
  ⟨("per_bend", none), "per_bend", "per_bend", defArgs s_per_bend, defBody s_per_bend, defScope s_per_bend⟩,
  ⟨("per_bend_sinister", none), "per_bend_sinister", "per_bend_sinister", defArgs s_per_bend_sinister, defBody s_per_bend_sinister, defScope s_per_bend_sinister⟩,
  ⟨("per_chevron", none), "per_chevron", "per_chevron", defArgs s_per_chevron, defBody s_per_chevron, defScope s_per_chevron⟩,
  ⟨("per_saltire", none), "per_saltire", "per_saltire", defArgs s_per_saltire, defBody s_per_saltire, defScope s_per_saltire⟩,
  ⟨("per_cross", none), "per_cross", "per_cross", defArgs s_per_cross, defBody s_per_cross, defScope s_per_cross⟩,
  ⟨("gyronny", none), "gyronny", "gyronny", defArgs s_gyronny, defBody s_gyronny, defScope s_gyronny⟩,
  ⟨("barry", none), "barry", "barry", defArgs s_barry, defBody s_barry, defScope s_barry⟩,
  ⟨("paly", none), "paly", "paly", defArgs s_paly, defBody s_paly, defScope s_paly⟩,
  ⟨("bendy", none), "bendy", "bendy", defArgs s_bendy, defBody s_bendy, defScope s_bendy⟩,
  ⟨("bendy_sinister", none), "bendy_sinister", "bendy_sinister", defArgs s_bendy_sinister, defBody s_bendy_sinister, defScope s_bendy_sinister⟩,
  ⟨("chevronny", none), "chevronny", "chevronny", defArgs s_chevronny, defBody s_chevronny, defScope s_chevronny⟩,
  ⟨("chequy", none), "chequy", "chequy", defArgs s_chequy, defBody s_chequy, defScope s_chequy⟩,
  ⟨("lozengy", none), "lozengy", "lozengy", defArgs s_lozengy, defBody s_lozengy, defScope s_lozengy⟩,
  ⟨("has_first", none), "has_first", "has_first", defArgs s_has_first, defBody s_has_first, defScope s_has_first⟩,
  ⟨("field_tincture", none), "field_tincture", "field_tincture", defArgs s_field_tincture, defBody s_field_tincture, defScope s_field_tincture⟩,
  ⟨("counterchanged_tincture", none), "counterchanged_tincture", "counterchanged_tincture", defArgs s_counterchanged_tincture, defBody s_counterchanged_tincture, defScope s_counterchanged_tincture⟩,
  ⟨("squared", none), "squared", "squared", defArgs s_squared, defBody s_squared, defScope s_squared⟩,
  ⟨("roundel", none), "roundel", "roundel", defArgs s_roundel, defBody s_roundel, defScope s_roundel⟩,
  ⟨("annulet", none), "annulet", "annulet", defArgs s_annulet, defBody s_annulet, defScope s_annulet⟩,
  ⟨("lozenge", none), "lozenge", "lozenge", defArgs s_lozenge, defBody s_lozenge, defScope s_lozenge⟩,
  ⟨("mascle", none), "mascle", "mascle", defArgs s_mascle, defBody s_mascle, defScope s_mascle⟩,
  ⟨("fusil", none), "fusil", "fusil", defArgs s_fusil, defBody s_fusil, defScope s_fusil⟩,
  ⟨("billet", none), "billet", "billet", defArgs s_billet, defBody s_billet, defScope s_billet⟩,
  ⟨("mullet", none), "mullet", "mullet", defArgs s_mullet, defBody s_mullet, defScope s_mullet⟩,
  ⟨("crescent", none), "crescent", "crescent", defArgs s_crescent, defBody s_crescent, defScope s_crescent⟩,
  ⟨("increscent", none), "increscent", "increscent", defArgs s_increscent, defBody s_increscent, defScope s_increscent⟩,
  ⟨("crosslet", none), "crosslet", "crosslet", defArgs s_crosslet, defBody s_crosslet, defScope s_crosslet⟩,
  ⟨("saltorel", none), "saltorel", "saltorel", defArgs s_saltorel, defBody s_saltorel, defScope s_saltorel⟩]
def hfn3_1 : List He.FnD := [⟨("escutcheon", none), "escutcheon", "escutcheon", defArgs s_escutcheon, defBody s_escutcheon, defScope s_escutcheon⟩,
  ⟨("tower", none), "tower", "tower", defArgs s_tower, defBody s_tower, defScope s_tower⟩,
  ⟨("sword", none), "sword", "sword", defArgs s_sword, defBody s_sword, defScope s_sword⟩,
  ⟨("wheel", none), "wheel", "wheel", defArgs s_wheel, defBody s_wheel, defScope s_wheel⟩,
  ⟨("arrow", none), "arrow", "arrow", defArgs s_arrow, defBody s_arrow, defScope s_arrow⟩,
  ⟨("charge_has", none), "charge_has", "charge_has", defArgs s_charge_has, defBody s_charge_has, defScope s_charge_has⟩,
  ⟨("share_middle", none), "share_middle", "share_middle", defArgs s_share_middle, defBody s_share_middle, defScope s_share_middle⟩,
  ⟨("across", none), "across", "across", defArgs s_across, defBody s_across, defScope s_across⟩,
  ⟨("down", none), "down", "down", defArgs s_down, defBody s_down, defScope s_down⟩,
  ⟨("row_middles", none), "row_middles", "row_middles", defArgs s_row_middles, defBody s_row_middles, defScope s_row_middles⟩,
  ⟨("fess_middles", none), "fess_middles", "fess_middles", defArgs s_fess_middles, defBody s_fess_middles, defScope s_fess_middles⟩,
  ⟨("pale_middles", none), "pale_middles", "pale_middles", defArgs s_pale_middles, defBody s_pale_middles, defScope s_pale_middles⟩,
  ⟨("bend_middles", none), "bend_middles", "bend_middles", defArgs s_bend_middles, defBody s_bend_middles, defScope s_bend_middles⟩]
def hfn3_ : List He.FnD := hfn3_0 ++ (hfn3_1)
def hp3 : Fx := ⟨[], fun _ => [], hfn3_, [], []⟩
def hfn4_0 : List He.FnD := [⟨("bend_sinister_middles", none), "bend_sinister_middles", "bend_sinister_middles", defArgs s_bend_sinister_middles, defBody s_bend_sinister_middles, defScope s_bend_sinister_middles⟩,
  ⟨("chief_middles", none), "chief_middles", "chief_middles", defArgs s_chief_middles, defBody s_chief_middles, defScope s_chief_middles⟩,
  ⟨("base_middles", none), "base_middles", "base_middles", defArgs s_base_middles, defBody s_base_middles, defScope s_base_middles⟩,
  ⟨("row_half", none), "row_half", "row_half", defArgs s_row_half, defBody s_row_half, defScope s_row_half⟩,
  ⟨("fess_half", none), "fess_half", "fess_half", defArgs s_fess_half, defBody s_fess_half, defScope s_fess_half⟩,
  ⟨("pale_half", none), "pale_half", "pale_half", defArgs s_pale_half, defBody s_pale_half, defScope s_pale_half⟩,
  ⟨("bend_half", none), "bend_half", "bend_half", defArgs s_bend_half, defBody s_bend_half, defScope s_bend_half⟩,
  ⟨("chief_half", none), "chief_half", "chief_half", defArgs s_chief_half, defBody s_chief_half, defScope s_chief_half⟩,
  ⟨("base_half", none), "base_half", "base_half", defArgs s_base_half, defBody s_base_half, defScope s_base_half⟩,
  ⟨("half_side", none), "half_side", "half_side", defArgs s_half_side, defBody s_half_side, defScope s_half_side⟩,
  ⟨("group_has", none), "group_has", "group_has", defArgs s_group_has, defBody s_group_has, defScope s_group_has⟩,
  ⟨("chief", none), "chief", "chief", defArgs s_chief, defBody s_chief, defScope s_chief⟩,
  ⟨("base", none), "base", "base", defArgs s_base, defBody s_base, defScope s_base⟩,
  ⟨("upright", none), "upright", "upright", defArgs s_upright, defBody s_upright, defScope s_upright⟩,
  ⟨("level", none), "level", "level", defArgs s_level, defBody s_level, defScope s_level⟩,
  ⟨("slanting", none), "slanting", "slanting", defArgs s_slanting, defBody s_slanting, defScope s_slanting⟩,
  ⟨("pale", none), "pale", "pale", defArgs s_pale, defBody s_pale, defScope s_pale⟩,
  ⟨("fess", none), "fess", "fess", defArgs s_fess, defBody s_fess, defScope s_fess⟩,
  ⟨("bend", none), "bend", "bend", defArgs s_bend, defBody s_bend, defScope s_bend⟩,
  ⟨("bend_sinister", none), "bend_sinister", "bend_sinister", defArgs s_bend_sinister, defBody s_bend_sinister, defScope s_bend_sinister⟩,
  ⟨("chevron", none), "chevron", "chevron", defArgs s_chevron, defBody s_chevron, defScope s_chevron⟩,
  ⟨("cross", none), "cross", "cross", defArgs s_cross, defBody s_cross, defScope s_cross⟩,
  ⟨("saltire", none), "saltire", "saltire", defArgs s_saltire, defBody s_saltire, defScope s_saltire⟩,
  ⟨("pile", none), "pile", "pile", defArgs s_pile, defBody s_pile, defScope s_pile⟩,
  ⟨("bordure", none), "bordure", "bordure", defArgs s_bordure, defBody s_bordure, defScope s_bordure⟩,
  ⟨("in_corner", none), "in_corner", "in_corner", defArgs s_in_corner, defBody s_in_corner, defScope s_in_corner⟩,
  ⟨("canton", none), "canton", "canton", defArgs s_canton, defBody s_canton, defScope s_canton⟩,
  ⟨("quarter", none), "quarter", "quarter", defArgs s_quarter, defBody s_quarter, defScope s_quarter⟩,
  ⟨("ordinary_has", none), "ordinary_has", "ordinary_has", defArgs s_ordinary_has, defBody s_ordinary_has, defScope s_ordinary_has⟩,
  ⟨("layer_has", none), "layer_has", "layer_has", defArgs s_layer_has, defBody s_layer_has, defScope s_layer_has⟩]
def hfn4_1 : List He.FnD := [⟨("layer_tincture", none), "layer_tincture", "layer_tincture", defArgs s_layer_tincture, defBody s_layer_tincture, defScope s_layer_tincture⟩,
  ⟨("arms_tincture", none), "arms_tincture", "arms_tincture", defArgs s_arms_tincture, defBody s_arms_tincture, defScope s_arms_tincture⟩,
  ⟨("inner_spot", none), "inner_spot", "inner_spot", defArgs s_inner_spot, defBody s_inner_spot, defScope s_inner_spot⟩,
  ⟨("coats_a_side", none), "coats_a_side", "coats_a_side", defArgs s_coats_a_side, defBody s_coats_a_side, defScope s_coats_a_side⟩,
  ⟨("quarterly_spot", none), "quarterly_spot", "quarterly_spot", defArgs s_quarterly_spot, defBody s_quarterly_spot, defScope s_quarterly_spot⟩,
  ⟨("impaled_spot", none), "impaled_spot", "impaled_spot", defArgs s_impaled_spot, defBody s_impaled_spot, defScope s_impaled_spot⟩,
  ⟨("pretence_spot", none), "pretence_spot", "pretence_spot", defArgs s_pretence_spot, defBody s_pretence_spot, defScope s_pretence_spot⟩,
  ⟨("spot_within", none), "spot_within", "spot_within", defArgs s_spot_within, defBody s_spot_within, defScope s_spot_within⟩,
  ⟨("part_spot", none), "part_spot", "part_spot", defArgs s_part_spot, defBody s_part_spot, defScope s_part_spot⟩,
  ⟨("band_tincture", none), "band_tincture", "band_tincture", defArgs s_band_tincture, defBody s_band_tincture, defScope s_band_tincture⟩,
  ⟨("marked_tincture", none), "marked_tincture", "marked_tincture", defArgs s_marked_tincture, defBody s_marked_tincture, defScope s_marked_tincture⟩,
  ⟨("answered", none), "answered", "answered", defArgs s_answered, defBody s_answered, defScope s_answered⟩,
  ⟨("answered_at", none), "answered_at", "answered_at", defArgs s_answered_at, defBody s_answered_at, defScope s_answered_at⟩,
  ⟨("at", none), "at", "at", defArgs s_at, defBody s_at, defScope s_at⟩]
def hfn4_ : List He.FnD := hfn4_0 ++ (hfn4_1)
def hp4 : Fx := ⟨[], fun _ => [], hfn4_, ["answered_at", "at"], []⟩
abbrev hparts : List Fx := [hp0, hp1, hp2, hp3, hp4]
def adOf (K : PySem.W.Frag) : Ad := ⟨He.ga K "Plain", He.ma K (He.ga K "Plain") "__init__", He.ga K "Parted", He.ma K (He.ga K "Parted") "__init__", He.ga K "Varied", He.ma K (He.ga K "Varied") "__init__", He.ga K "Ordinary", He.ma K (He.ga K "Ordinary") "__init__", He.ga K "Group", He.ma K (He.ga K "Group") "__init__", He.ga K "Arms", He.ma K (He.ga K "Arms") "__init__", He.ga K "Mark", He.ma K (He.ga K "Mark") "__init__", He.ga K "Marked", He.ma K (He.ga K "Marked") "__init__", He.ga K "Quarterly", He.ma K (He.ga K "Quarterly") "__init__", He.ga K "Impaled", He.ma K (He.ga K "Impaled") "__init__", He.ga K "Pretence", He.ma K (He.ga K "Pretence") "__init__", He.ga K "Reader", He.ma K (He.ga K "Reader") "__init__", He.ma K (He.ga K "Reader") "take", He.ma K (He.ga K "Reader") "take_tincture_beside", He.ma K (He.ga K "Reader") "at_end", He.ga K "Spot", He.ma K (He.ga K "Spot") "__init__", He.ga K "Misplaced", He.ma K (He.ga K "Misplaced") "__init__", He.ga K "take_field", He.ga K "take_parted", He.ga K "take_varied", He.ga K "take_fill", He.ga K "take_layer", He.ga K "take_arms", He.ga K "take_marks", He.ga K "take_marked", He.ga K "take_coat", He.ga K "take_quarterly", He.ga K "decode", He.ga K "coats_in", He.ga K "parts_in", He.ga K "from_scallop_middle", He.ga K "in_first_half", He.ga K "straight", He.ga K "wavy", He.ga K "embattled", He.ga K "indented", He.ga K "engrailed", He.ga K "invected", He.ga K "offset", He.ga K "mirrored", He.ga K "from_middle", He.ga K "over_bend", He.ga K "along_bend", He.ga K "per_pale", He.ga K "per_fess", He.ga K "per_bend", He.ga K "per_bend_sinister", He.ga K "per_chevron", He.ga K "per_saltire", He.ga K "per_cross", He.ga K "gyronny", He.ga K "barry", He.ga K "paly", He.ga K "bendy", He.ga K "bendy_sinister", He.ga K "chevronny", He.ga K "chequy", He.ga K "lozengy", He.ga K "has_first", He.ga K "field_tincture", He.ga K "counterchanged_tincture", He.ga K "squared", He.ga K "roundel", He.ga K "annulet", He.ga K "lozenge", He.ga K "mascle", He.ga K "fusil", He.ga K "billet", He.ga K "mullet", He.ga K "crescent", He.ga K "increscent", He.ga K "crosslet", He.ga K "saltorel", He.ga K "escutcheon", He.ga K "tower", He.ga K "sword", He.ga K "wheel", He.ga K "arrow", He.ga K "charge_has", He.ga K "share_middle", He.ga K "across", He.ga K "down", He.ga K "row_middles", He.ga K "fess_middles", He.ga K "pale_middles", He.ga K "bend_middles", He.ga K "bend_sinister_middles", He.ga K "chief_middles", He.ga K "base_middles", He.ga K "row_half", He.ga K "fess_half", He.ga K "pale_half", He.ga K "bend_half", He.ga K "chief_half", He.ga K "base_half", He.ga K "half_side", He.ga K "group_has", He.ga K "chief", He.ga K "base", He.ga K "upright", He.ga K "level", He.ga K "slanting", He.ga K "pale", He.ga K "fess", He.ga K "bend", He.ga K "bend_sinister", He.ga K "chevron", He.ga K "cross", He.ga K "saltire", He.ga K "pile", He.ga K "bordure", He.ga K "in_corner", He.ga K "canton", He.ga K "quarter", He.ga K "ordinary_has", He.ga K "layer_has", He.ga K "layer_tincture", He.ga K "arms_tincture", He.ga K "inner_spot", He.ga K "coats_a_side", He.ga K "quarterly_spot", He.ga K "impaled_spot", He.ga K "pretence_spot", He.ga K "spot_within", He.ga K "part_spot", He.ga K "band_tincture", He.ga K "marked_tincture", He.ga K "answered", He.ga K "answered_at", codeOf K "answered_at", tabOf K "answered_at", He.ga K "at", codeOf K "at", tabOf K "at"⟩
theorem txt_of {K : PySem.W.Frag} {h : Heap} {mg : Str → Option Value} (X : K.In h) (G : h.Ns mainGlobals mg) (c0 : obsH hp0.fa hp0.ex hp0.fn hp0.fw K = valH hp0.fn hp0.fw) (c1 : obsH hp1.fa hp1.ex hp1.fn hp1.fw K = valH hp1.fn hp1.fw) (c2 : obsH hp2.fa hp2.ex hp2.fn hp2.fw K = valH hp2.fn hp2.fw) (c3 : obsH hp3.fa hp3.ex hp3.fn hp3.fw K = valH hp3.fn hp3.fw) (c4 : obsH hp4.fa hp4.ex hp4.fn hp4.fw K = valH hp4.fn hp4.fw) : Txt K mg (adOf K) where
  kPlain := cls_h X G (h_fact c0 0 rfl) (h_fact c0 1 rfl) (h_fact c0 2 rfl) (h_fact c0 3 rfl) ⟨He.noat_ok (h_fact c0 4 rfl), trivial⟩ (h_ex c0 0 rfl) (h_ex c0 1 rfl) (h_def c2 0 rfl) (fun _ _ _ _ _ _ us hl => match us, hl with | [_, _], _ => rfl)
  kParted := cls_h X G (h_fact c0 5 rfl) (h_fact c0 6 rfl) (h_fact c0 7 rfl) (h_fact c0 8 rfl) ⟨He.noat_ok (h_fact c0 9 rfl), He.noat_ok (h_fact c0 10 rfl), He.noat_ok (h_fact c0 11 rfl), He.noat_ok (h_fact c0 12 rfl), trivial⟩ (h_ex c0 2 rfl) (h_ex c0 3 rfl) (h_def c2 1 rfl) (fun _ _ _ _ _ _ us hl => match us, hl with | [_, _, _, _, _], _ => rfl)
  kVaried := cls_h X G (h_fact c0 13 rfl) (h_fact c0 14 rfl) (h_fact c0 15 rfl) (h_fact c0 16 rfl) ⟨He.noat_ok (h_fact c0 17 rfl), He.noat_ok (h_fact c0 18 rfl), He.noat_ok (h_fact c0 19 rfl), He.noat_ok (h_fact c0 20 rfl), He.noat_ok (h_fact c0 21 rfl), trivial⟩ (h_ex c0 4 rfl) (h_ex c0 5 rfl) (h_def c2 2 rfl) (fun _ _ _ _ _ _ us hl => match us, hl with | [_, _, _, _, _, _], _ => rfl)
  kOrdinary := cls_h X G (h_fact c0 22 rfl) (h_fact c0 23 rfl) (h_fact c0 24 rfl) (h_fact c0 25 rfl) ⟨He.noat_ok (h_fact c0 26 rfl), He.noat_ok (h_fact c0 27 rfl), He.noat_ok (h_fact c0 28 rfl), trivial⟩ (h_ex c0 6 rfl) (h_ex c0 7 rfl) (h_def c2 3 rfl) (fun _ _ _ _ _ _ us hl => match us, hl with | [_, _, _, _], _ => rfl)
  kGroup := cls_h X G (h_fact c0 29 rfl) (h_fact c0 30 rfl) (h_fact c0 31 rfl) (h_fact c0 32 rfl) ⟨He.noat_ok (h_fact c0 33 rfl), He.noat_ok (h_fact c0 34 rfl), He.noat_ok (h_fact c0 35 rfl), He.noat_ok (h_fact c0 36 rfl), He.noat_ok (h_fact c0 37 rfl), trivial⟩ (h_ex c0 8 rfl) (h_ex c0 9 rfl) (h_def c2 4 rfl) (fun _ _ _ _ _ _ us hl => match us, hl with | [_, _, _, _, _, _], _ => rfl)
  kArms := cls_h X G (h_fact c0 38 rfl) (h_fact c0 39 rfl) (h_fact c0 40 rfl) (h_fact c0 41 rfl) ⟨He.noat_ok (h_fact c0 42 rfl), He.noat_ok (h_fact c0 43 rfl), trivial⟩ (h_ex c0 10 rfl) (h_ex c0 11 rfl) (h_def c2 5 rfl) (fun _ _ _ _ _ _ us hl => match us, hl with | [_, _, _], _ => rfl)
  kMark := cls_h X G (h_fact c0 44 rfl) (h_fact c0 45 rfl) (h_fact c0 46 rfl) (h_fact c0 47 rfl) ⟨He.noat_ok (h_fact c0 48 rfl), He.noat_ok (h_fact c0 49 rfl), trivial⟩ (h_ex c0 12 rfl) (h_ex c0 13 rfl) (h_def c2 6 rfl) (fun _ _ _ _ _ _ us hl => match us, hl with | [_, _, _], _ => rfl)
  kMarked := cls_h X G (h_fact c0 50 rfl) (h_fact c0 51 rfl) (h_fact c0 52 rfl) (h_fact c0 53 rfl) ⟨He.noat_ok (h_fact c0 54 rfl), He.noat_ok (h_fact c0 55 rfl), He.noat_ok (h_fact c0 56 rfl), trivial⟩ (h_ex c0 14 rfl) (h_ex c0 15 rfl) (h_def c2 7 rfl) (fun _ _ _ _ _ _ us hl => match us, hl with | [_, _, _, _], _ => rfl)
  kQuarterly := cls_h X G (h_fact c0 57 rfl) (h_fact c0 58 rfl) (h_fact c0 59 rfl) (h_fact c0 60 rfl) ⟨He.noat_ok (h_fact c0 61 rfl), trivial⟩ (h_ex c0 16 rfl) (h_ex c0 17 rfl) (h_def c2 8 rfl) (fun _ _ _ _ _ _ us hl => match us, hl with | [_, _], _ => rfl)
  kImpaled := cls_h X G (h_fact c0 62 rfl) (h_fact c0 63 rfl) (h_fact c0 64 rfl) (h_fact c0 65 rfl) ⟨He.noat_ok (h_fact c0 66 rfl), He.noat_ok (h_fact c0 67 rfl), trivial⟩ (h_ex c0 18 rfl) (h_ex c0 19 rfl) (h_def c2 9 rfl) (fun _ _ _ _ _ _ us hl => match us, hl with | [_, _, _], _ => rfl)
  kPretence := cls_h X G (h_fact c0 68 rfl) (h_fact c0 69 rfl) (h_fact c0 70 rfl) (h_fact c0 71 rfl) ⟨He.noat_ok (h_fact c0 72 rfl), He.noat_ok (h_fact c0 73 rfl), trivial⟩ (h_ex c0 20 rfl) (h_ex c0 21 rfl) (h_def c2 10 rfl) (fun _ _ _ _ _ _ us hl => match us, hl with | [_, _, _], _ => rfl)
  kReader := cls_h X G (h_fact c0 74 rfl) (h_fact c0 75 rfl) (h_fact c0 76 rfl) (h_fact c0 77 rfl) ⟨He.noat_ok (h_fact c0 78 rfl), He.noat_ok (h_fact c0 79 rfl), trivial⟩ (h_ex c0 22 rfl) (h_ex c0 23 rfl) (h_def c2 11 rfl) (fun _ _ _ _ _ _ us hl => match us, hl with | [_, _], _ => rfl)
  kReader_take := met_h (h_fact c0 80 rfl) (h_def c2 12 rfl) (fun _ _ _ _ _ _ us hl => match us, hl with | [_, _, _], _ => rfl)
  kReader_take_tincture_beside := met_h (h_fact c0 81 rfl) (h_def c2 13 rfl) (fun _ _ _ _ _ _ us hl => match us, hl with | [_, _], _ => rfl)
  kReader_at_end := met_h (h_fact c0 82 rfl) (h_def c2 14 rfl) (fun _ _ _ _ _ _ us hl => match us, hl with | [_], _ => rfl)
  kSpot := cls_h X G (h_fact c0 83 rfl) (h_fact c0 84 rfl) (h_fact c0 85 rfl) (h_fact c0 86 rfl) ⟨He.noat_ok (h_fact c0 87 rfl), He.noat_ok (h_fact c0 88 rfl), He.noat_ok (h_fact c0 89 rfl), He.noat_ok (h_fact c0 90 rfl), trivial⟩ (h_ex c0 24 rfl) (h_ex c0 25 rfl) (h_def c2 15 rfl) (fun _ _ _ _ _ _ us hl => match us, hl with | [_, _, _, _, _], _ => rfl)
  xMisplaced := low_h X G (h_fact c0 91 rfl) (h_fact c0 92 rfl) (h_ex c0 26 rfl) (h_fact c0 93 rfl) (h_fact c0 94 rfl) (h_ex c0 27 rfl) (h_ex c0 28 rfl) (h_ex c0 29 rfl) (h_fact c0 95 rfl) (h_ex c0 30 rfl) (h_ex c0 31 rfl) (h_ex c0 32 rfl) (h_def c2 16 rfl) (h_ex c0 33 rfl)
  k_take_field := def_h X G (h_fact c0 96 rfl) (h_fact c0 97 rfl) (h_def c2 17 rfl) (fun _ _ _ _ _ _ us hl => match us, hl with | [_], _ => rfl)
  k_take_parted := def_h X G (h_fact c0 98 rfl) (h_fact c0 99 rfl) (h_def c2 18 rfl) (fun _ _ _ _ _ _ us hl => match us, hl with | [_], _ => rfl)
  k_take_varied := def_h X G (h_fact c0 100 rfl) (h_fact c0 101 rfl) (h_def c2 19 rfl) (fun _ _ _ _ _ _ us hl => match us, hl with | [_], _ => rfl)
  k_take_fill := def_h X G (h_fact c0 102 rfl) (h_fact c0 103 rfl) (h_def c2 20 rfl) (fun _ _ _ _ _ _ us hl => match us, hl with | [_, _], _ => rfl)
  k_take_layer := def_h X G (h_fact c0 104 rfl) (h_fact c0 105 rfl) (h_def c2 21 rfl) (fun _ _ _ _ _ _ us hl => match us, hl with | [_, _], _ => rfl)
  k_take_arms := def_h X G (h_fact c0 106 rfl) (h_fact c0 107 rfl) (h_def c2 22 rfl) (fun _ _ _ _ _ _ us hl => match us, hl with | [_], _ => rfl)
  k_take_marks := def_h X G (h_fact c0 108 rfl) (h_fact c0 109 rfl) (h_def c2 23 rfl) (fun _ _ _ _ _ _ us hl => match us, hl with | [_], _ => rfl)
  k_take_marked := def_h X G (h_fact c0 110 rfl) (h_fact c0 111 rfl) (h_def c2 24 rfl) (fun _ _ _ _ _ _ us hl => match us, hl with | [_], _ => rfl)
  k_take_coat := def_h X G (h_fact c0 112 rfl) (h_fact c0 113 rfl) (h_def c2 25 rfl) (fun _ _ _ _ _ _ us hl => match us, hl with | [_, _], _ => rfl)
  k_take_quarterly := def_h X G (h_fact c0 114 rfl) (h_fact c0 115 rfl) (h_def c2 26 rfl) (fun _ _ _ _ _ _ us hl => match us, hl with | [_, _], _ => rfl)
  k_decode := def_h X G (h_fact c0 116 rfl) (h_fact c0 117 rfl) (h_def c2 27 rfl) (fun _ _ _ _ _ _ us hl => match us, hl with | [_], _ => rfl)
  k_coats_in := def_h X G (h_fact c0 118 rfl) (h_fact c0 119 rfl) (h_def c2 28 rfl) (fun _ _ _ _ _ _ us hl => match us, hl with | [_], _ => rfl)
  k_parts_in := def_h X G (h_fact c0 120 rfl) (h_fact c0 121 rfl) (h_def c2 29 rfl) (fun _ _ _ _ _ _ us hl => match us, hl with | [_], _ => rfl)
  k_from_scallop_middle := def_h X G (h_fact c0 122 rfl) (h_fact c0 123 rfl) (h_def c2 30 rfl) (fun _ _ _ _ _ _ us hl => match us, hl with | [_], _ => rfl)
  k_in_first_half := def_h X G (h_fact c0 124 rfl) (h_fact c0 125 rfl) (h_def c2 31 rfl) (fun _ _ _ _ _ _ us hl => match us, hl with | [_], _ => rfl)
  k_straight := def_h X G (h_fact c0 126 rfl) (h_fact c0 127 rfl) (h_def c2 32 rfl) (fun _ _ _ _ _ _ us hl => match us, hl with | [_], _ => rfl)
  k_wavy := def_h X G (h_fact c0 128 rfl) (h_fact c0 129 rfl) (h_def c2 33 rfl) (fun _ _ _ _ _ _ us hl => match us, hl with | [_], _ => rfl)
  k_embattled := def_h X G (h_fact c0 130 rfl) (h_fact c0 131 rfl) (h_def c2 34 rfl) (fun _ _ _ _ _ _ us hl => match us, hl with | [_], _ => rfl)
  k_indented := def_h X G (h_fact c0 132 rfl) (h_fact c0 133 rfl) (h_def c2 35 rfl) (fun _ _ _ _ _ _ us hl => match us, hl with | [_], _ => rfl)
  k_engrailed := def_h X G (h_fact c0 134 rfl) (h_fact c0 135 rfl) (h_def c2 36 rfl) (fun _ _ _ _ _ _ us hl => match us, hl with | [_], _ => rfl)
  k_invected := def_h X G (h_fact c0 136 rfl) (h_fact c0 137 rfl) (h_def c2 37 rfl) (fun _ _ _ _ _ _ us hl => match us, hl with | [_], _ => rfl)
  k_offset := def_h X G (h_fact c0 138 rfl) (h_fact c0 139 rfl) (h_def c2 38 rfl) (fun _ _ _ _ _ _ us hl => match us, hl with | [_, _], _ => rfl)
  k_mirrored := def_h X G (h_fact c0 140 rfl) (h_fact c0 141 rfl) (h_def c2 39 rfl) (fun _ _ _ _ _ _ us hl => match us, hl with | [_], _ => rfl)
  k_from_middle := def_h X G (h_fact c0 142 rfl) (h_fact c0 143 rfl) (h_def c2 40 rfl) (fun _ _ _ _ _ _ us hl => match us, hl with | [_], _ => rfl)
  k_over_bend := def_h X G (h_fact c0 144 rfl) (h_fact c0 145 rfl) (h_def c2 41 rfl) (fun _ _ _ _ _ _ us hl => match us, hl with | [_, _], _ => rfl)
  k_along_bend := def_h X G (h_fact c0 146 rfl) (h_fact c0 147 rfl) (h_def c2 42 rfl) (fun _ _ _ _ _ _ us hl => match us, hl with | [_, _], _ => rfl)
  k_per_pale := def_h X G (h_fact c0 148 rfl) (h_fact c0 149 rfl) (h_def c3 0 rfl) (fun _ _ _ _ _ _ us hl => match us, hl with | [_, _, _], _ => rfl)
  k_per_fess := def_h X G (h_fact c0 150 rfl) (h_fact c0 151 rfl) (h_def c3 1 rfl) (fun _ _ _ _ _ _ us hl => match us, hl with | [_, _, _], _ => rfl)
  k_per_bend := def_h X G (h_fact c0 152 rfl) (h_fact c0 153 rfl) (h_def c3 2 rfl) (fun _ _ _ _ _ _ us hl => match us, hl with | [_, _, _], _ => rfl)
  k_per_bend_sinister := def_h X G (h_fact c0 154 rfl) (h_fact c0 155 rfl) (h_def c3 3 rfl) (fun _ _ _ _ _ _ us hl => match us, hl with | [_, _, _], _ => rfl)
  k_per_chevron := def_h X G (h_fact c0 156 rfl) (h_fact c0 157 rfl) (h_def c3 4 rfl) (fun _ _ _ _ _ _ us hl => match us, hl with | [_, _, _], _ => rfl)
  k_per_saltire := def_h X G (h_fact c0 158 rfl) (h_fact c0 159 rfl) (h_def c3 5 rfl) (fun _ _ _ _ _ _ us hl => match us, hl with | [_, _, _], _ => rfl)
  k_per_cross := def_h X G (h_fact c0 160 rfl) (h_fact c0 161 rfl) (h_def c3 6 rfl) (fun _ _ _ _ _ _ us hl => match us, hl with | [_, _, _], _ => rfl)
  k_gyronny := def_h X G (h_fact c0 162 rfl) (h_fact c0 163 rfl) (h_def c3 7 rfl) (fun _ _ _ _ _ _ us hl => match us, hl with | [_, _, _], _ => rfl)
  k_barry := def_h X G (h_fact c0 164 rfl) (h_fact c0 165 rfl) (h_def c3 8 rfl) (fun _ _ _ _ _ _ us hl => match us, hl with | [_, _, _, _], _ => rfl)
  k_paly := def_h X G (h_fact c0 166 rfl) (h_fact c0 167 rfl) (h_def c3 9 rfl) (fun _ _ _ _ _ _ us hl => match us, hl with | [_, _, _, _], _ => rfl)
  k_bendy := def_h X G (h_fact c0 168 rfl) (h_fact c0 169 rfl) (h_def c3 10 rfl) (fun _ _ _ _ _ _ us hl => match us, hl with | [_, _, _, _], _ => rfl)
  k_bendy_sinister := def_h X G (h_fact c0 170 rfl) (h_fact c0 171 rfl) (h_def c3 11 rfl) (fun _ _ _ _ _ _ us hl => match us, hl with | [_, _, _, _], _ => rfl)
  k_chevronny := def_h X G (h_fact c0 172 rfl) (h_fact c0 173 rfl) (h_def c3 12 rfl) (fun _ _ _ _ _ _ us hl => match us, hl with | [_, _, _, _], _ => rfl)
  k_chequy := def_h X G (h_fact c0 174 rfl) (h_fact c0 175 rfl) (h_def c3 13 rfl) (fun _ _ _ _ _ _ us hl => match us, hl with | [_, _, _, _], _ => rfl)
  k_lozengy := def_h X G (h_fact c0 176 rfl) (h_fact c0 177 rfl) (h_def c3 14 rfl) (fun _ _ _ _ _ _ us hl => match us, hl with | [_, _, _, _], _ => rfl)
  k_has_first := def_h X G (h_fact c0 178 rfl) (h_fact c0 179 rfl) (h_def c3 15 rfl) (fun _ _ _ _ _ _ us hl => match us, hl with | [_, _, _], _ => rfl)
  k_field_tincture := def_h X G (h_fact c0 180 rfl) (h_fact c0 181 rfl) (h_def c3 16 rfl) (fun _ _ _ _ _ _ us hl => match us, hl with | [_, _, _], _ => rfl)
  k_counterchanged_tincture := def_h X G (h_fact c1 0 rfl) (h_fact c1 1 rfl) (h_def c3 17 rfl) (fun _ _ _ _ _ _ us hl => match us, hl with | [_, _, _], _ => rfl)
  k_squared := def_h X G (h_fact c1 2 rfl) (h_fact c1 3 rfl) (h_def c3 18 rfl) (fun _ _ _ _ _ _ us hl => match us, hl with | [_, _], _ => rfl)
  k_roundel := def_h X G (h_fact c1 4 rfl) (h_fact c1 5 rfl) (h_def c3 19 rfl) (fun _ _ _ _ _ _ us hl => match us, hl with | [_, _], _ => rfl)
  k_annulet := def_h X G (h_fact c1 6 rfl) (h_fact c1 7 rfl) (h_def c3 20 rfl) (fun _ _ _ _ _ _ us hl => match us, hl with | [_, _], _ => rfl)
  k_lozenge := def_h X G (h_fact c1 8 rfl) (h_fact c1 9 rfl) (h_def c3 21 rfl) (fun _ _ _ _ _ _ us hl => match us, hl with | [_, _], _ => rfl)
  k_mascle := def_h X G (h_fact c1 10 rfl) (h_fact c1 11 rfl) (h_def c3 22 rfl) (fun _ _ _ _ _ _ us hl => match us, hl with | [_, _], _ => rfl)
  k_fusil := def_h X G (h_fact c1 12 rfl) (h_fact c1 13 rfl) (h_def c3 23 rfl) (fun _ _ _ _ _ _ us hl => match us, hl with | [_, _], _ => rfl)
  k_billet := def_h X G (h_fact c1 14 rfl) (h_fact c1 15 rfl) (h_def c3 24 rfl) (fun _ _ _ _ _ _ us hl => match us, hl with | [_, _], _ => rfl)
  k_mullet := def_h X G (h_fact c1 16 rfl) (h_fact c1 17 rfl) (h_def c3 25 rfl) (fun _ _ _ _ _ _ us hl => match us, hl with | [_, _], _ => rfl)
  k_crescent := def_h X G (h_fact c1 18 rfl) (h_fact c1 19 rfl) (h_def c3 26 rfl) (fun _ _ _ _ _ _ us hl => match us, hl with | [_, _], _ => rfl)
  k_increscent := def_h X G (h_fact c1 20 rfl) (h_fact c1 21 rfl) (h_def c3 27 rfl) (fun _ _ _ _ _ _ us hl => match us, hl with | [_, _], _ => rfl)
  k_crosslet := def_h X G (h_fact c1 22 rfl) (h_fact c1 23 rfl) (h_def c3 28 rfl) (fun _ _ _ _ _ _ us hl => match us, hl with | [_, _], _ => rfl)
  k_saltorel := def_h X G (h_fact c1 24 rfl) (h_fact c1 25 rfl) (h_def c3 29 rfl) (fun _ _ _ _ _ _ us hl => match us, hl with | [_, _], _ => rfl)
  k_escutcheon := def_h X G (h_fact c1 26 rfl) (h_fact c1 27 rfl) (h_def c3 30 rfl) (fun _ _ _ _ _ _ us hl => match us, hl with | [_, _], _ => rfl)
  k_tower := def_h X G (h_fact c1 28 rfl) (h_fact c1 29 rfl) (h_def c3 31 rfl) (fun _ _ _ _ _ _ us hl => match us, hl with | [_, _], _ => rfl)
  k_sword := def_h X G (h_fact c1 30 rfl) (h_fact c1 31 rfl) (h_def c3 32 rfl) (fun _ _ _ _ _ _ us hl => match us, hl with | [_, _], _ => rfl)
  k_wheel := def_h X G (h_fact c1 32 rfl) (h_fact c1 33 rfl) (h_def c3 33 rfl) (fun _ _ _ _ _ _ us hl => match us, hl with | [_, _], _ => rfl)
  k_arrow := def_h X G (h_fact c1 34 rfl) (h_fact c1 35 rfl) (h_def c3 34 rfl) (fun _ _ _ _ _ _ us hl => match us, hl with | [_, _], _ => rfl)
  k_charge_has := def_h X G (h_fact c1 36 rfl) (h_fact c1 37 rfl) (h_def c3 35 rfl) (fun _ _ _ _ _ _ us hl => match us, hl with | [_, _, _], _ => rfl)
  k_share_middle := def_h X G (h_fact c1 38 rfl) (h_fact c1 39 rfl) (h_def c3 36 rfl) (fun _ _ _ _ _ _ us hl => match us, hl with | [_, _, _], _ => rfl)
  k_across := def_h X G (h_fact c1 40 rfl) (h_fact c1 41 rfl) (h_def c3 37 rfl) (fun _ _ _ _ _ _ us hl => match us, hl with | [_, _], _ => rfl)
  k_down := def_h X G (h_fact c1 42 rfl) (h_fact c1 43 rfl) (h_def c3 38 rfl) (fun _ _ _ _ _ _ us hl => match us, hl with | [_, _], _ => rfl)
  k_row_middles := def_h X G (h_fact c1 44 rfl) (h_fact c1 45 rfl) (h_def c3 39 rfl) (fun _ _ _ _ _ _ us hl => match us, hl with | [_], _ => rfl)
  k_fess_middles := def_h X G (h_fact c1 46 rfl) (h_fact c1 47 rfl) (h_def c3 40 rfl) (fun _ _ _ _ _ _ us hl => match us, hl with | [_], _ => rfl)
  k_pale_middles := def_h X G (h_fact c1 48 rfl) (h_fact c1 49 rfl) (h_def c3 41 rfl) (fun _ _ _ _ _ _ us hl => match us, hl with | [_], _ => rfl)
  k_bend_middles := def_h X G (h_fact c1 50 rfl) (h_fact c1 51 rfl) (h_def c3 42 rfl) (fun _ _ _ _ _ _ us hl => match us, hl with | [_], _ => rfl)
  k_bend_sinister_middles := def_h X G (h_fact c1 52 rfl) (h_fact c1 53 rfl) (h_def c4 0 rfl) (fun _ _ _ _ _ _ us hl => match us, hl with | [_], _ => rfl)
  k_chief_middles := def_h X G (h_fact c1 54 rfl) (h_fact c1 55 rfl) (h_def c4 1 rfl) (fun _ _ _ _ _ _ us hl => match us, hl with | [_], _ => rfl)
  k_base_middles := def_h X G (h_fact c1 56 rfl) (h_fact c1 57 rfl) (h_def c4 2 rfl) (fun _ _ _ _ _ _ us hl => match us, hl with | [_], _ => rfl)
  k_row_half := def_h X G (h_fact c1 58 rfl) (h_fact c1 59 rfl) (h_def c4 3 rfl) (fun _ _ _ _ _ _ us hl => match us, hl with | [_], _ => rfl)
  k_fess_half := def_h X G (h_fact c1 60 rfl) (h_fact c1 61 rfl) (h_def c4 4 rfl) (fun _ _ _ _ _ _ us hl => match us, hl with | [_], _ => rfl)
  k_pale_half := def_h X G (h_fact c1 62 rfl) (h_fact c1 63 rfl) (h_def c4 5 rfl) (fun _ _ _ _ _ _ us hl => match us, hl with | [_], _ => rfl)
  k_bend_half := def_h X G (h_fact c1 64 rfl) (h_fact c1 65 rfl) (h_def c4 6 rfl) (fun _ _ _ _ _ _ us hl => match us, hl with | [_], _ => rfl)
  k_chief_half := def_h X G (h_fact c1 66 rfl) (h_fact c1 67 rfl) (h_def c4 7 rfl) (fun _ _ _ _ _ _ us hl => match us, hl with | [_], _ => rfl)
  k_base_half := def_h X G (h_fact c1 68 rfl) (h_fact c1 69 rfl) (h_def c4 8 rfl) (fun _ _ _ _ _ _ us hl => match us, hl with | [_], _ => rfl)
  k_half_side := def_h X G (h_fact c1 70 rfl) (h_fact c1 71 rfl) (h_def c4 9 rfl) (fun _ _ _ _ _ _ us hl => match us, hl with | [_], _ => rfl)
  k_group_has := def_h X G (h_fact c1 72 rfl) (h_fact c1 73 rfl) (h_def c4 10 rfl) (fun _ _ _ _ _ _ us hl => match us, hl with | [_, _, _], _ => rfl)
  k_chief := def_h X G (h_fact c1 74 rfl) (h_fact c1 75 rfl) (h_def c4 11 rfl) (fun _ _ _ _ _ _ us hl => match us, hl with | [_, _, _], _ => rfl)
  k_base := def_h X G (h_fact c1 76 rfl) (h_fact c1 77 rfl) (h_def c4 12 rfl) (fun _ _ _ _ _ _ us hl => match us, hl with | [_, _, _], _ => rfl)
  k_upright := def_h X G (h_fact c1 78 rfl) (h_fact c1 79 rfl) (h_def c4 13 rfl) (fun _ _ _ _ _ _ us hl => match us, hl with | [_, _, _, _, _], _ => rfl)
  k_level := def_h X G (h_fact c1 80 rfl) (h_fact c1 81 rfl) (h_def c4 14 rfl) (fun _ _ _ _ _ _ us hl => match us, hl with | [_, _, _, _, _], _ => rfl)
  k_slanting := def_h X G (h_fact c1 82 rfl) (h_fact c1 83 rfl) (h_def c4 15 rfl) (fun _ _ _ _ _ _ us hl => match us, hl with | [_, _, _, _], _ => rfl)
  k_pale := def_h X G (h_fact c1 84 rfl) (h_fact c1 85 rfl) (h_def c4 16 rfl) (fun _ _ _ _ _ _ us hl => match us, hl with | [_, _, _], _ => rfl)
  k_fess := def_h X G (h_fact c1 86 rfl) (h_fact c1 87 rfl) (h_def c4 17 rfl) (fun _ _ _ _ _ _ us hl => match us, hl with | [_, _, _], _ => rfl)
  k_bend := def_h X G (h_fact c1 88 rfl) (h_fact c1 89 rfl) (h_def c4 18 rfl) (fun _ _ _ _ _ _ us hl => match us, hl with | [_, _, _], _ => rfl)
  k_bend_sinister := def_h X G (h_fact c1 90 rfl) (h_fact c1 91 rfl) (h_def c4 19 rfl) (fun _ _ _ _ _ _ us hl => match us, hl with | [_, _, _], _ => rfl)
  k_chevron := def_h X G (h_fact c1 92 rfl) (h_fact c1 93 rfl) (h_def c4 20 rfl) (fun _ _ _ _ _ _ us hl => match us, hl with | [_, _, _], _ => rfl)
  k_cross := def_h X G (h_fact c1 94 rfl) (h_fact c1 95 rfl) (h_def c4 21 rfl) (fun _ _ _ _ _ _ us hl => match us, hl with | [_, _, _], _ => rfl)
  k_saltire := def_h X G (h_fact c1 96 rfl) (h_fact c1 97 rfl) (h_def c4 22 rfl) (fun _ _ _ _ _ _ us hl => match us, hl with | [_, _, _], _ => rfl)
  k_pile := def_h X G (h_fact c1 98 rfl) (h_fact c1 99 rfl) (h_def c4 23 rfl) (fun _ _ _ _ _ _ us hl => match us, hl with | [_, _, _], _ => rfl)
  k_bordure := def_h X G (h_fact c1 100 rfl) (h_fact c1 101 rfl) (h_def c4 24 rfl) (fun _ _ _ _ _ _ us hl => match us, hl with | [_, _, _], _ => rfl)
  k_in_corner := def_h X G (h_fact c1 102 rfl) (h_fact c1 103 rfl) (h_def c4 25 rfl) (fun _ _ _ _ _ _ us hl => match us, hl with | [_, _, _, _, _], _ => rfl)
  k_canton := def_h X G (h_fact c1 104 rfl) (h_fact c1 105 rfl) (h_def c4 26 rfl) (fun _ _ _ _ _ _ us hl => match us, hl with | [_, _, _], _ => rfl)
  k_quarter := def_h X G (h_fact c1 106 rfl) (h_fact c1 107 rfl) (h_def c4 27 rfl) (fun _ _ _ _ _ _ us hl => match us, hl with | [_, _, _], _ => rfl)
  k_ordinary_has := def_h X G (h_fact c1 108 rfl) (h_fact c1 109 rfl) (h_def c4 28 rfl) (fun _ _ _ _ _ _ us hl => match us, hl with | [_, _, _, _], _ => rfl)
  k_layer_has := def_h X G (h_fact c1 110 rfl) (h_fact c1 111 rfl) (h_def c4 29 rfl) (fun _ _ _ _ _ _ us hl => match us, hl with | [_, _, _], _ => rfl)
  k_layer_tincture := def_h X G (h_fact c1 112 rfl) (h_fact c1 113 rfl) (h_def c4 30 rfl) (fun _ _ _ _ _ _ us hl => match us, hl with | [_, _, _, _], _ => rfl)
  k_arms_tincture := def_h X G (h_fact c1 114 rfl) (h_fact c1 115 rfl) (h_def c4 31 rfl) (fun _ _ _ _ _ _ us hl => match us, hl with | [_, _, _], _ => rfl)
  k_inner_spot := def_h X G (h_fact c1 116 rfl) (h_fact c1 117 rfl) (h_def c4 32 rfl) (fun _ _ _ _ _ _ us hl => match us, hl with | [_, _, _, _], _ => rfl)
  k_coats_a_side := def_h X G (h_fact c1 118 rfl) (h_fact c1 119 rfl) (h_def c4 33 rfl) (fun _ _ _ _ _ _ us hl => match us, hl with | [_], _ => rfl)
  k_quarterly_spot := def_h X G (h_fact c1 120 rfl) (h_fact c1 121 rfl) (h_def c4 34 rfl) (fun _ _ _ _ _ _ us hl => match us, hl with | [_], _ => rfl)
  k_impaled_spot := def_h X G (h_fact c1 122 rfl) (h_fact c1 123 rfl) (h_def c4 35 rfl) (fun _ _ _ _ _ _ us hl => match us, hl with | [_], _ => rfl)
  k_pretence_spot := def_h X G (h_fact c1 124 rfl) (h_fact c1 125 rfl) (h_def c4 36 rfl) (fun _ _ _ _ _ _ us hl => match us, hl with | [_], _ => rfl)
  k_spot_within := def_h X G (h_fact c1 126 rfl) (h_fact c1 127 rfl) (h_def c4 37 rfl) (fun _ _ _ _ _ _ us hl => match us, hl with | [_], _ => rfl)
  k_part_spot := def_h X G (h_fact c1 128 rfl) (h_fact c1 129 rfl) (h_def c4 38 rfl) (fun _ _ _ _ _ _ us hl => match us, hl with | [_, _, _], _ => rfl)
  k_band_tincture := def_h X G (h_fact c1 130 rfl) (h_fact c1 131 rfl) (h_def c4 39 rfl) (fun _ _ _ _ _ _ us hl => match us, hl with | [_, _, _], _ => rfl)
  k_marked_tincture := def_h X G (h_fact c1 132 rfl) (h_fact c1 133 rfl) (h_def c4 40 rfl) (fun _ _ _ _ _ _ us hl => match us, hl with | [_, _, _], _ => rfl)
  k_answered := def_h X G (h_fact c1 134 rfl) (h_fact c1 135 rfl) (h_def c4 41 rfl) (fun _ _ _ _ _ _ us hl => match us, hl with | [_, _], _ => rfl)
  k_answered_at := def_h X G (h_fact c1 136 rfl) (h_fact c1 137 rfl) (h_def c4 42 rfl) (fun _ _ _ _ _ _ us hl => match us, hl with | [_, _, _, _], _ => rfl)
  m_answered_at := mak_h (h_def c4 42 rfl) (h_ex c0 34 rfl)
  k_at := def_h X G (h_fact c1 138 rfl) (h_fact c1 139 rfl) (h_def c4 43 rfl) (fun _ _ _ _ _ _ us hl => match us, hl with | [_, _, _], _ => rfl)
  m_at := mak_h (h_def c4 43 rfl) (h_ex c0 35 rfl)
  tn_answered_at_at := of_decide_eq_true (h_ex c0 36 rfl)
  nFEWEST_PIECES := He.int_ok X G (h_fact c1 140 rfl)
  nMOST_PIECES := He.int_ok X G (h_fact c1 141 rfl)
  nFIRST_STRAIGHT_WAY := He.int_ok X G (h_fact c1 142 rfl)
  nMOST_LAYERS := He.int_ok X G (h_fact c1 143 rfl)
  nMOST_MARKS := He.int_ok X G (h_fact c1 144 rfl)
  nMOST_G := He.int_ok X G (h_fact c1 145 rfl)
  nLEAST_K := He.int_ok X G (h_fact c1 146 rfl)
  nMOST_K := He.int_ok X G (h_fact c1 147 rfl)
  nFEWEST_QUARTERS := He.int_ok X G (h_fact c1 148 rfl)
  nMOST_QUARTERS := He.int_ok X G (h_fact c1 149 rfl)
  nMOST_DEEP := He.int_ok X G (h_fact c1 150 rfl)
  nLAST_TINCTURE := He.int_ok X G (h_fact c1 151 rfl)
  nLAST_LINE := He.int_ok X G (h_fact c1 152 rfl)
  nLAST_PARTED_WAY := He.int_ok X G (h_fact c1 153 rfl)
  nLAST_VARIED_WAY := He.int_ok X G (h_fact c1 154 rfl)
  nLAST_ORDINARY := He.int_ok X G (h_fact c1 155 rfl)
  nLAST_CHARGE := He.int_ok X G (h_fact c1 156 rfl)
  nLAST_MANNER := He.int_ok X G (h_fact c1 157 rfl)
  nWIDTH := He.int_ok X G (h_fact c1 158 rfl)
  nHEIGHT := He.int_ok X G (h_fact c1 159 rfl)
  nREACH := He.int_ok X G (h_fact c1 160 rfl)
  nARGENT := He.int_ok X G (h_fact c1 161 rfl)
  nMURREY := He.int_ok X G (h_fact c1 162 rfl)
  nBAND_HEIGHT := He.int_ok X G (h_fact c1 163 rfl)
  tLINES := ⟨_, He.glo_ok X G (h_fact c1 164 rfl), tupAtB_ok (h_ex c0 37 rfl)⟩
  tPARTINGS := ⟨_, He.glo_ok X G (h_fact c1 165 rfl), tupAtB_ok (h_ex c0 38 rfl)⟩
  tVARIATIONS := ⟨_, He.glo_ok X G (h_fact c1 166 rfl), tupAtB_ok (h_ex c0 39 rfl)⟩
  tCHARGES := ⟨_, He.glo_ok X G (h_fact c1 167 rfl), tupAtB_ok (h_ex c0 40 rfl)⟩
  tMIDDLES := ⟨_, He.glo_ok X G (h_fact c1 168 rfl), tupAtB_ok (h_ex c0 41 rfl)⟩
  tHALVES := ⟨_, He.glo_ok X G (h_fact c1 169 rfl), tupAtB_ok (h_ex c0 42 rfl)⟩
  tORDINARIES := ⟨_, He.glo_ok X G (h_fact c1 170 rfl), tupAtB_ok (h_ex c0 43 rfl)⟩
  tROWS := ⟨_, _, _, _, _, _, _, _, _, _, _, He.glo_ok X G (h_fact c1 171 rfl), tupAtB_ok (h_ex c0 44 rfl), tupAtB_ok (h_ex c0 45 rfl), tupAtB_ok (h_ex c0 46 rfl), tupAtB_ok (h_ex c0 47 rfl), tupAtB_ok (h_ex c0 48 rfl), tupAtB_ok (h_ex c0 49 rfl), tupAtB_ok (h_ex c0 50 rfl), tupAtB_ok (h_ex c0 51 rfl), tupAtB_ok (h_ex c0 52 rfl), tupAtB_ok (h_ex c0 53 rfl), tupAtB_ok (h_ex c0 54 rfl)⟩
  b_len := He.free_ok X G (h_fact c1 172 rfl)
  b_range := He.free_ok X G (h_fact c1 173 rfl)
  b_isinstance := He.free_ok X G (h_fact c1 174 rfl)
  b_abs := He.free_ok X G (h_fact c1 175 rfl)
  b_min := He.free_ok X G (h_fact c1 176 rfl)
  b_max := He.free_ok X G (h_fact c1 177 rfl)
  b_enumerate := He.free_ok X G (h_fact c1 178 rfl)
  b_reversed := He.free_ok X G (h_fact c1 179 rfl)
  b_sum := He.free_ok X G (h_fact c1 180 rfl)
  b_list := He.free_ok X G (h_fact c1 181 rfl)
  gs := He.eqO_ok (h_ex c0 55 rfl)
  tk := of_decide_eq_true (h_ex c0 56 rfl)
  iMarked_Impaled := of_decide_eq_true (h_ex c0 57 rfl)
  iQuarterly_Impaled := of_decide_eq_true (h_ex c0 58 rfl)
  iImpaled_Impaled := of_decide_eq_true (h_ex c0 59 rfl)
  iPretence_Impaled := of_decide_eq_true (h_ex c0 60 rfl)
  iMarked_Marked := of_decide_eq_true (h_ex c0 61 rfl)
  iQuarterly_Marked := of_decide_eq_true (h_ex c0 62 rfl)
  iImpaled_Marked := of_decide_eq_true (h_ex c0 63 rfl)
  iPretence_Marked := of_decide_eq_true (h_ex c0 64 rfl)
  iOrdinary_Ordinary := of_decide_eq_true (h_ex c0 65 rfl)
  iGroup_Ordinary := of_decide_eq_true (h_ex c0 66 rfl)
  iParted_Parted := of_decide_eq_true (h_ex c0 67 rfl)
  iVaried_Parted := of_decide_eq_true (h_ex c0 68 rfl)
  iPlain_Plain := of_decide_eq_true (h_ex c0 69 rfl)
  iParted_Plain := of_decide_eq_true (h_ex c0 70 rfl)
  iVaried_Plain := of_decide_eq_true (h_ex c0 71 rfl)
  iMarked_Quarterly := of_decide_eq_true (h_ex c0 72 rfl)
  iQuarterly_Quarterly := of_decide_eq_true (h_ex c0 73 rfl)
  iImpaled_Quarterly := of_decide_eq_true (h_ex c0 74 rfl)
  iPretence_Quarterly := of_decide_eq_true (h_ex c0 75 rfl)
def names0 : List PySem.Str := ["FEWEST_PIECES",
  "MOST_PIECES",
  "FIRST_STRAIGHT_WAY",
  "MOST_LAYERS",
  "MOST_MARKS",
  "MOST_G",
  "LEAST_K",
  "MOST_K",
  "FEWEST_QUARTERS",
  "MOST_QUARTERS",
  "MOST_DEEP",
  "Plain",
  "Parted",
  "Varied",
  "Ordinary",
  "Group",
  "Arms",
  "Mark",
  "Marked",
  "Quarterly",
  "Impaled",
  "Pretence",
  "LAST_TINCTURE",
  "LAST_LINE",
  "LAST_PARTED_WAY",
  "LAST_VARIED_WAY",
  "LAST_ORDINARY",
  "LAST_CHARGE",
  "LAST_MANNER",
  "Misplaced"]
def names1 : List PySem.Str := ["Reader",
  "take_field",
  "take_parted",
  "take_varied",
  "take_fill",
  "take_layer",
  "take_arms",
  "take_marks",
  "take_marked",
  "take_coat",
  "take_quarterly",
  "decode",
  "coats_in",
  "parts_in",
  "from_scallop_middle",
  "in_first_half",
  "straight",
  "wavy",
  "embattled",
  "indented",
  "engrailed",
  "invected",
  "LINES",
  "offset",
  "WIDTH",
  "HEIGHT",
  "mirrored",
  "from_middle",
  "over_bend",
  "along_bend"]
def names2 : List PySem.Str := ["per_pale",
  "per_fess",
  "per_bend",
  "per_bend_sinister",
  "per_chevron",
  "per_saltire",
  "per_cross",
  "gyronny",
  "PARTINGS",
  "barry",
  "paly",
  "bendy",
  "bendy_sinister",
  "chevronny",
  "chequy",
  "lozengy",
  "VARIATIONS",
  "has_first",
  "field_tincture",
  "counterchanged_tincture",
  "REACH",
  "squared",
  "roundel",
  "annulet",
  "lozenge",
  "mascle",
  "fusil",
  "billet",
  "mullet",
  "crescent"]
def names3 : List PySem.Str := ["increscent",
  "crosslet",
  "saltorel",
  "escutcheon",
  "tower",
  "sword",
  "wheel",
  "arrow",
  "CHARGES",
  "charge_has",
  "ROWS",
  "share_middle",
  "across",
  "down",
  "row_middles",
  "fess_middles",
  "pale_middles",
  "bend_middles",
  "bend_sinister_middles",
  "chief_middles",
  "base_middles",
  "MIDDLES",
  "row_half",
  "fess_half",
  "pale_half",
  "bend_half",
  "chief_half",
  "base_half",
  "HALVES",
  "half_side"]
def names4 : List PySem.Str := ["group_has",
  "chief",
  "base",
  "upright",
  "level",
  "slanting",
  "pale",
  "fess",
  "bend",
  "bend_sinister",
  "chevron",
  "cross",
  "saltire",
  "pile",
  "bordure",
  "in_corner",
  "canton",
  "quarter",
  "ORDINARIES",
  "ordinary_has",
  "layer_has",
  "layer_tincture",
  "arms_tincture",
  "ARGENT",
  "MURREY",
  "BAND_HEIGHT",
  "Spot",
  "inner_spot",
  "coats_a_side",
  "quarterly_spot"]
def names5 : List PySem.Str := ["impaled_spot",
  "pretence_spot",
  "spot_within",
  "part_spot",
  "band_tincture",
  "marked_tincture",
  "answered",
  "answered_at"]
def names : List PySem.Str := names0 ++ (names1 ++ (names2 ++ (names3 ++ (names4 ++ (names5)))))
abbrev hrow : PySem.W.OpenSpec := PySem.Challenge.rw_heraldcoats_s02_at
abbrev hview : Program := PySem.W.view hrow.prog [170]
abbrev hk : PySem.W.Hook := hookT 11 1300 hparts
def hob (z : PySem.W.SharedT) : List (Bool × AlH) := obT 11 1300 hparts (HandSHeadRun.getT z)
theorem hob_eq (z : PySem.W.SharedT) : hob z = hk.obs z.abs := obT_eq (HandSHeadRun.getT_eq z)
abbrev hdef : DefRec := HandSHeadRun.topDef hrow.prog 170
noncomputable abbrev hend (w : World) (os : OsState) : Option PySem.W.SharedT := HandSHeadRun.endF (HandSHeadRun.stepQ (HandSHeadRun.denQ HandSHeadRun.tabQ) hrow.prog w) 8000 hrow.prog w os
set_option maxHeartbeats 0 in
theorem hrun_y (w : World) (os : OsState) : (hend w os).map (fun s => HandSHeadRun.looksF hrow.prog (PySem.W.boot_heap w.params) s.abs) = some true := by
  kernel_rfl
set_option maxHeartbeats 0 in
theorem hrun_x (w : World) (os : OsState) : (hend w os).map (fun s => HandSHeadRun.seenQ hview names (importedModules hrow.prog.main.body) (fun s => PySem.W.xlAt hview [] s && PySem.W.recOk [] s) s.abs) = some (PySem.W.openGood hview names) := by
  kernel_rfl
theorem hrun_z (w : World) (os : OsState) : (hend w os).map (fun s => (HandSHeadRun.looksF hrow.prog (PySem.W.boot_heap w.params) s.abs, HandSHeadRun.seenQ hview names (importedModules hrow.prog.main.body) (fun s => PySem.W.xlAt hview [] s && PySem.W.recOk [] s) s.abs)) = some (true, PySem.W.openGood hview names) := two_maps (hrun_y w os) (hrun_x w os)
set_option maxHeartbeats 0 in
theorem hrun_0 (w : World) (os : OsState) : (hend w os).map (fun s => hp0.ob 11 1300 (HandSHeadRun.getT s)) = some hp0.val := by
  kernel_rfl
set_option maxHeartbeats 0 in
theorem hrun_1 (w : World) (os : OsState) : (hend w os).map (fun s => hp1.ob 11 1300 (HandSHeadRun.getT s)) = some hp1.val := by
  kernel_rfl
set_option maxHeartbeats 0 in
theorem hrun_2 (w : World) (os : OsState) : (hend w os).map (fun s => hp2.ob 11 1300 (HandSHeadRun.getT s)) = some hp2.val := by
  kernel_rfl
set_option maxHeartbeats 0 in
theorem hrun_3 (w : World) (os : OsState) : (hend w os).map (fun s => hp3.ob 11 1300 (HandSHeadRun.getT s)) = some hp3.val := by
  kernel_rfl
set_option maxHeartbeats 0 in
theorem hrun_4 (w : World) (os : OsState) : (hend w os).map (fun s => hp4.ob 11 1300 (HandSHeadRun.getT s)) = some hp4.val := by
  kernel_rfl
theorem hrun (w : World) : HandSHeadRun.RunEqS hrow hview hk hob 8000 names w := by
  intro os
  refine runs_join (o := hend w os) (hrun_z w os) fun x hx => ?_
  simp only [hparts, List.mem_cons, List.not_mem_nil, or_false] at hx
  rcases hx with rfl | rfl | rfl | rfl | rfl
  · exact hrun_0 w os
  · exact hrun_1 w os
  · exact hrun_2 w os
  · exact hrun_3 w os
  · exact hrun_4 w os
end HC
namespace HC
open PySem PySem.Spec PyProof.Rows L2 LamX
theorem fin {P : Program} {w : World} {K : PySem.W.Frag} {mg : Str → Option Value} {d : Ad} (T : Txt K mg d) {fa : Addr} (hfa : mg "at" = some (.ref fa)) :
    ∃ fd : FuncData, (∀ (s : Shared) (us : List Value), us.length = (["p", "r", "c"] : List Str).length → BindsTo s fd ⟨us, []⟩ ((["p", "r", "c"] : List Str).zip us)) ∧
    ∀ base : Heap, K.In base → base.Ns mainGlobals mg → (∀ p ∈ mainTabs d, TabB base mg p.1 p.2) → FnOk P w K mg base CX0 46 fa fd ["p", "r", "c"] (spTop K (mainTabs d)) := by
  have e := hfa.symm.trans T.k_at.gl
  cases e
  obtain ⟨fd, F, B⟩ := T.k_at.ex
  refine ⟨fd, ?_, fun base _ _ TB => ok_top T TB F⟩
  obtain ⟨oc, od, kV, doc, pm, an, cdv, ct, osl, rfl, lk, hcd⟩ := F.ex
  exact fun s us hu => match us, hu with | [_, _, _], _ => .of_eq rfl
open PySem.W (Codec) in
theorem call_top (K : PySem.W.Frag) (cs : List (Addr × Addr)) (H : L2.Hp) (xs : List L2.V) (a : Codec.denoteAll PySem.Challenge.rw_heraldcoats_s02_at.args) (hT : ∀ p ∈ cs, H p.2 = some (.tbl #[])) (hwi : Codec.withinAll PySem.Challenge.rw_heraldcoats_s02_at.args a = true) (hx : L2.DwAll K H xs (Codec.encAll PySem.Challenge.rw_heraldcoats_s02_at.args a)) :
    spTop K cs xs H (fun v H' => L2.Dw K H' v (PySem.Challenge.rw_heraldcoats_s02_at.ret.enc (Codec.app PySem.Challenge.rw_heraldcoats_s02_at.args PySem.Challenge.rw_heraldcoats_s02_at.f a))) fun _ _ _ => False := by
  have q : (Codec.inInt 0 4294967295 a.1 && (Codec.inInt 0 4294967295 a.2.1 && ((Codec.inLen 0 2000 a.2.2.1 && a.2.2.1.all (Codec.inInt 0 255)) && true))) = true := hwi
  rw [Bool.and_eq_true, Bool.and_eq_true, Bool.and_eq_true, Bool.and_eq_true] at q
  obtain ⟨q1, q2, ⟨_, q3⟩, _⟩ := q
  have z1 := Codec.inInt_iff.mp q1
  have z2 := Codec.inInt_iff.mp q2
  cases hx with
  | cons h1 h2 =>
    cases h2 with
    | cons h3 h4 =>
      cases h4 with
      | cons h5 h6 =>
        cases h6
        cases h1
        cases h3
        cases h5 with
        | lst hs ha =>
          have e := L2.ints_dw a.2.2.1 _ ha
          subst e
          have e1 : ((a.1.toNat : Nat) : Int) = a.1 := by omega
          have e2 : ((a.2.1.toNat : Nat) : Int) = a.2.1 := by omega
          refine ⟨a.1.toNat, a.2.1.toNat, _, a.2.2.1, ?_, hT, hs, byt_of q3, fun H' p hp => ?_⟩
          · show [L2.V.int a.1, L2.V.int a.2.1, _] = [L2.V.int ((a.1.toNat : Nat) : Int), L2.V.int ((a.2.1.toNat : Nat) : Int), _]
            rw [e1, e2]
          · rw [e1, e2] at hp
            exact .lst (L2.SqL.of hp) (L2.dw_ints _)
end HC
open PySem PySem.W PyProof.Rows
set_option maxRecDepth 100000 in
set_option maxHeartbeats 0 in
theorem PySem.Challenge.cw_heraldcoats_s02_at_holds : PySem.Challenge.rw_heraldcoats_s02_at.Holds := by
  refine HandSHeadRun.head_spec (r := PySem.Challenge.rw_heraldcoats_s02_at) (q := HC.hview) (H := HC.hk) (ob := HC.hob) (M := 8000) (loose := HC.names) (d := HC.hdef) (kwd := []) HC.hob_eq (by kernel_rfl) (fun s => by kernel_rfl) HC.hrun (by kernel_rfl) (by kernel_rfl) (by kernel_rfl) os_shapes (by decide +kernel) (by decide +kernel)
    ⟨rfl, rfl, rfl, rfl, rfl, by decide +kernel⟩ ?hw ?hc
  case hw => exact ⟨[.int 0, .int 0, .list []], by decide +kernel, by decide +kernel⟩
  case hc =>
    refine HC.walk_tabs (r := PySem.Challenge.rw_heraldcoats_s02_at) (k := 46) (CX := L2.CX0) (ps := ["p", "r", "c"]) (sp := HC.spTop) ⟨rfl, by decide, by decide⟩ (by decide +kernel) rfl ?F ?S (fun _ _ _ _ z => z)
    case F =>
      intro w mg fa h Y G hmg
      obtain ⟨K, c⟩ := Y
      have T := HC.txt_of c.kin G (c.ob HC.hp0 List.mem_cons_self) (c.ob HC.hp1 (List.mem_cons_of_mem _ List.mem_cons_self)) (c.ob HC.hp2 (List.mem_cons_of_mem _ (List.mem_cons_of_mem _ List.mem_cons_self))) (c.ob HC.hp3 (List.mem_cons_of_mem _ (List.mem_cons_of_mem _ (List.mem_cons_of_mem _ List.mem_cons_self)))) (c.ob HC.hp4 (List.mem_cons_of_mem _ (List.mem_cons_of_mem _ (List.mem_cons_of_mem _ (List.mem_cons_of_mem _ List.mem_cons_self)))))
      have hmg' : mg ("at" : PySem.Str) = some (.ref fa) := by
        have e : HC.hdef.name = ("at" : PySem.Str) := by kernel_rfl
        rw [← e]
        exact hmg
      refine ⟨K, HC.mainTabs (HC.adOf K), c.kin, ?_, ?_, ?_, HC.fin T hmg'⟩
      · intro p hp
        simp only [HC.mainTabs, List.mem_cons, List.not_mem_nil, or_false] at hp
        rcases hp with rfl | rfl
        · exact (c.tab HC.hp4 (List.mem_cons_of_mem _ (List.mem_cons_of_mem _ (List.mem_cons_of_mem _ (List.mem_cons_of_mem _ List.mem_cons_self)))) "answered_at" (by decide)).1
        · exact (c.tab HC.hp4 (List.mem_cons_of_mem _ (List.mem_cons_of_mem _ (List.mem_cons_of_mem _ (List.mem_cons_of_mem _ List.mem_cons_self)))) "at" (by decide)).1
      · intro p hp
        simp only [HC.mainTabs, List.mem_cons, List.not_mem_nil, or_false] at hp
        rcases hp with rfl | rfl
        · exact (c.tab HC.hp4 (List.mem_cons_of_mem _ (List.mem_cons_of_mem _ (List.mem_cons_of_mem _ (List.mem_cons_of_mem _ List.mem_cons_self)))) "answered_at" (by decide)).2
        · exact (c.tab HC.hp4 (List.mem_cons_of_mem _ (List.mem_cons_of_mem _ (List.mem_cons_of_mem _ (List.mem_cons_of_mem _ List.mem_cons_self)))) "at" (by decide)).2
      · intro p hp
        simp only [HC.mainTabs, List.mem_cons, List.not_mem_nil, or_false] at hp
        rcases hp with rfl | rfl
        · exact PySem.W.codeHd_of_K c.kin T.m_answered_at.hd
        · exact PySem.W.codeHd_of_K c.kin T.m_at.hd
    case S => exact fun K cs H xs a hT hwi hx => HC.call_top K cs H xs a hT hwi hx
#print axioms PySem.Challenge.cw_heraldcoats_s02_at_holds
