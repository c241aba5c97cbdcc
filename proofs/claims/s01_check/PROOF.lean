import PyProof.Rows.All
import Wide.All
import OpenK.AllK
import Wide.FinOn
import PyProof.EqAt
import PyProof.EqKinds
import PyProof.TupleCall
import Open.SpecLaws
import KE.OsGo
import PySem.Challenge.RW_heraldcoats_s01_check
import HandS.ForSpec
import HandS.IsInst
import HandS.ExcSuper
import KE.DatumOrd
import KE.GoesEnum
import HandS.Iter
import HandS.Comp
import HandS.Rev
import HandS.Lambda
import HandS.Nested
import HandS.SortKw
import KE.KStateDown
import HandS.Defaults
import HandS.Head0
import HandS.Head1
import HandS.Head2
import HandS.Head3
import HandS.Head4
import HandS.HeadHook1
import HandS.HeadHook2
set_option Elab.async false
set_option linter.all false
set_option maxRecDepth 100000
set_option maxHeartbeats 4000000
namespace PySem
namespace LowX
open PySem.W PySem.Calls PyProof.Rows PySem.HandSPX
/-! ### the text of __init__ -/
def iA (p1 p2 : Pos) : Arguments := { posonlyargs := [], args := [{ arg := "self", annotation := none, pos := p1 }, { arg := "place", annotation := none, pos := p2 }], vararg := none, kwonlyargs := [], kw_defaults := [], kwarg := none, defaults := [] }
def iB (q1 q2 q3 q4 : Pos) : List Stmt := [.Assign [.Attribute (.Name "self" q1) "place" q2] (.Name "place" q3) q4]
def iS : Scope := { kind := .function, names := [(PySem.Str.ofString "self", .local), (PySem.Str.ofString "place", .local)], isGenerator := false, isCoroutine := false, more := [] }
/-- what the written part says of Low, at C, and of its __init__, at fI -/
structure LowTxt (K : Frag) (mg : Str → Option Value) (C fI : Addr) : Prop where
  gC : mg "Misplaced" = some (.ref C)
  cls : ∃ nm q N bs sn sub ab col dd k0 k1 k2 k3 k5, K.lookup C = some (excClassObj nm q C N bs PySem.ESX.exTail true sn sub ab col dd k0 k1 k2 k3 k5 "Exception.__new__")
  sa : findIn K (.ref C) "__setattr__" = some (some (.builtin "object.__setattr__"))
  ga : findIn K (.ref C) "__getattribute__" = some (some (.builtin "BaseException.__getattribute__"))
  gg : findIn K (.ref C) "__getattr__" = some none
  noN : findIn K (.ref C) "place" = some none
  iC : findIn K (.ref C) "__init__" = some (some (.ref fI))
  tC : typeIn K (.ref fI) = some (.type "function")
  kC : keepIn K (.ref C) = true
  exC : subIn K (.ref C) (.type "BaseException") = some true
  tyC : typeIn K (.ref C) = some (.type "type")
  hdC : hasDictIn K C = true
  te : exmOne K (.ref C) (.ref C) = some true
  fn : ∃ (oc : Value) (od : Option Addr) (doc pm : Value) (an : Option Addr) (cdv ct : Value) (osl : Array (Option Value)) (p1 p2 q1 q2 q3 q4 : Pos),
    K.lookup fI = some ⟨oc, od, .func (fnOf "__init__" "Misplaced.__init__" (iA p1 p2) (iB q1 q2 q3 q4) iS .none .none doc pm an cdv ct), osl⟩ ∧ codeIn K cdv "Misplaced.__init__" = true
theorem one_size (v : Value) : [v].length ≤ sizeLine := by
  rw [sizeLine_eq]
  exact (by decide : 1 ≤ 16777216)
theorem kept_but {K : Frag} {h h' : Heap} {x : Addr} (X : K.In h) (hx : K.lookup x = none) (k : ∀ b o, b ≠ x → h.get? b = some o → h'.get? b = some o) : K.In h' := fun a o e =>
  k a o (fun z => by rw [z, hx] at e; cases e) (X a o e)
theorem ldC {M : Model} {s : Shared} {name : Str} {scope : Scope} {L a : Addr} {cd : Value} {m : Str → Option Value} {x : Str} {pos : Pos} {v : Value} {Q : Value → Shared → Prop} {A : Around} {E : Value → Shared → Prop} (hn : s.heap.Ns L m) (hv : m x = some v) (h : Q v s)
    (hk : scope.kind = .function := by rfl) (hl : (envOfC name scope L a cd).kindOf x = some .local := by rfl) (hd : (x == ("__debug__" : Str)) = false := by decide) :
    wpAny M A (eval (.Name x pos) (envOfC name scope L a cd)) Q E s := wpAny_Name (wpAny_loadName_local hk hl hn hv h) hd
/-- what __init__ leaves of a fresh exception at x -/
structure InitEnd (h h' : Heap) (x C dx t1 : Addr) (v : Value) : Prop where
  keep : ∀ b o, b ≠ x → h.get? b = some o → h'.get? b = some o
  obj : h'.get? x = some { cls := .ref C, dict := some dx, data := .fields #[.ref t1, .none, .none, .none, .bool false, .none] }
  dbig : h.objs.size ≤ dx
  dne : dx ≠ x
  ns : h'.Ns1 dx (fun y => if y = "place" then some v else none)
/-- a made Low -/
structure OwnMade (h h' : Heap) (e C d : Addr) (v : Value) : Prop where
  keep : ∀ b o, h.get? b = some o → h'.get? b = some o
  new : h.objs.size ≤ e
  obj : ∃ oe vs, h'.get? e = some oe ∧ oe.cls = .ref C ∧ oe.dict = some d ∧ oe.data = .fields vs ∧ vs[1]? = some .none
  dbig : h.objs.size ≤ d
  dne : d ≠ e
  ns : h'.Ns1 d (fun y => if y = "place" then some v else none)
section
variable {prog : Program} {w : World} {A : Around} {E : Value → Shared → Prop} {R : Result → Shared → Prop} {s : Shared} {K : Frag} {mg : Str → Option Value} {C fI : Addr}
theorem low_init (T : LowTxt K mg C fI) {x t0 : Addr} {v : Value} (X : K.In s.heap) (hlim : s.heap.NoLimit) (hx : s.heap.get? x = some (excO C t0)) (hnx : K.lookup x = none) (hroom : A.depth < recursionLimit)
    (hq : ∀ h' tk dx, InitEnd s.heap h' x C dx t0 v → R (.ok (.ret .none)) { s with heap := h', toks := tk }) :
    codeAny (model prog w) A (.call (.ref fI) ⟨[.ref x, v], []⟩) R s := by
  obtain ⟨oc, od, doc, pm, an, cdv, ct, osl, p1, p2, q1, q2, q3, q4, ho, hcd⟩ := T.fn
  obtain ⟨nm, q, N, bs, sn, sub, ab, col, dd, k0, k1, k2, k3, k5, hC⟩ := T.cls
  have hcl : clsIn K C = some { name := nm, bases := bs, mro := .ref C :: PySem.ESX.exTail, ns := N, qualname := q, hasDict := true, slotNames := sn, subclasses := sub, abstract := ab, collection := col, hasDel := false } := by unfold clsIn; rw [hC] <;> rfl
  refine Att.call_fn (binds := [("self", .ref x), ("place", v)]) X hlim ho hcd hroom (BindsTo.of_eq (by first | rfl | with_unfolding_all rfl)) (by first | rfl | decide | with_unfolding_all rfl) (fun s₁ IC => ?_) rfl rfl rfl
  obtain ⟨h₁, tk₁, rfl⟩ := IC.toInCall.same
  have k : ∀ b o, s.heap.get? b = some o → h₁.get? b = some o := IC.toInCall.keep
  have hn := IC.toInCall.ns
  have hxL : s.heap.objs.size ≠ x := Nat.ne_of_gt (Heap.lt_size hx)
  have X₁ : K.In h₁ := X.keeps k
  have hx₁ := k _ _ hx
  -- self.place = place
  show wpAny _ _ (execs _ _) _ _ _
  refine wpAny_execs_cons (plainObj_wpAny_Assign_Attribute ?_)
  refine ldC (v := v) hn (by first | rfl | with_unfolding_all rfl | kernel_rfl) (ldC (v := .ref x) hn (by first | rfl | with_unfolding_all rfl | kernel_rfl) ?_)
  refine set_plain X₁ (ox := excO C t0) (od := none) ⟨hx₁, rfl, rfl, trivial⟩ T.sa ?_
  refine PySem.ESX.osa_new X₁ hx₁ hcl rfl rfl T.noN (fun h₃ tk₃ dx k₃ dn dne hx₃ hn₃ => ?_)
  show wpAny _ _ (execs _ _) _ _ _
  have z : s.heap.objs.size < h₁.objs.size := hn.lt
  exact wpAny_execs_nil (hq h₃ tk₃ dx ⟨fun b o hb e => k₃ b o hb (k b o e), hx₃, Nat.le_of_lt (Nat.lt_of_lt_of_le z dn), dne, hn₃⟩)
theorem low_made (T : LowTxt K mg C fI) {v : Value} (X : K.In s.heap) (hlim : s.heap.NoLimit) (hroom : A.depth + 1 < recursionLimit)
    (hq : ∀ h' tk e d, OwnMade s.heap h' e C d v → R (.ok (.ret (.ref e))) { s with heap := h', toks := tk }) :
    codeAny (model prog w) A (.call (.ref C) ⟨[v], []⟩) R s := by
  obtain ⟨nm, q, N, bs, sn, sub, ab, col, dd, k0, k1, k2, k3, k5, hC⟩ := T.cls
  obtain ⟨hp, g, dr, tk, os⟩ := s
  have k : ∀ b o, hp.get? b = some o → ((hp.push (kdv_tup [v])).push (excO C hp.objs.size)).get? b = some o := fun b o e => Heap.get?_push_of_some _ (Heap.get?_push_of_some _ e)
  have hget : ((hp.push (kdv_tup [v])).push (excO C hp.objs.size)).get? (hp.objs.size + 1) = some (excO C hp.objs.size) := by heap_get
  have hnx : K.lookup (hp.objs.size + 1) = none := by
    cases e : K.lookup (hp.objs.size + 1) with
    | none => rfl
    | some o =>
      have z : hp.get? (hp.objs.size + 1) = some o := X _ _ e
      exact absurd (Nat.lt_of_succ_lt (Heap.lt_size z)) (Nat.lt_irrefl _)
  refine call_own F.excBase_Exception (fun X => rfl) (X _ _ hC) (looks_findIn X T.iC) (fun self => bind_fn X self T.tC) (one_size v) ?_
  refine low_init (s := ⟨(hp.push (kdv_tup [v])).push (excO C hp.objs.size), g, dr, tk, os⟩) T (X.keeps k) (hlim.keeps k) hget hnx ?_ fun h' tk' dx ⟨k', hx, dn, dne, hns⟩ => ?_
  · show A.depth + 1 < recursionLimit
    exact hroom
  · have old : ∀ b o, hp.get? b = some o → h'.get? b = some o := fun b o e => k' b o (Nat.ne_of_lt (Nat.lt_succ_of_lt (Heap.lt_size e))) (k b o e)
    have z : hp.objs.size + 1 + 1 ≤ dx := by
      first
        | (simpa only [Heap.size_push] using dn)
        | exact dn
        | (have q := dn; rw [Heap.size_push, Heap.size_push] at q; exact q)
    exact ⟨rfl, hq h' tk' (hp.objs.size + 1) dx ⟨old, Nat.le_succ _, ⟨_, _, hx, rfl, rfl, rfl, rfl⟩, Nat.le_trans (Nat.le_trans (Nat.le_succ _) (Nat.le_succ _)) z, dne, hns⟩⟩
end
end LowX
end PySem
namespace L2
open PySem PySem.Spec PyProof.Rows
theorem relO_low {v : V} {v' : Value} (r : RelV v v') (f : Str) : RelO (List.lookup f [(("place" : Str), v)]) (if f = "place" then some v' else none) := by
  by_cases hw : f = "place"
  · subst hw
    rw [if_pos rfl]
    have q : List.lookup ("place" : Str) [(("place" : Str), v)] = some v := by simp [List.lookup]
    rw [q]
    exact r
  · rw [if_neg hw]
    have qw : (f == ("place" : Str)) = false := by simpa using hw
    have q2 : List.lookup f [(("place" : Str), v)] = none := by simp [List.lookup, qw]
    rw [q2]
    trivial
section
variable {X : Cx} {C fI : Addr}
/-- Low(e) -/
def tMkLow (C : Addr) (ta : TA) : St → Hp → XK → Prop := fun σ H Q => ta σ H fun vs H1 => ∃ v, vs = [v] ∧ ∀ d, H1 d = none → Q (.ref C) (some d) (upd H1 d (.xd [(("place" : Str), v)]))
theorem pmk_low {a : Expr} {ta : TA} {p pos : Pos} {k : Nat} (T : PySem.LowX.LowTxt X.K X.mg C fI) (hr : Room k X.A) (ha : PA X [a] ta) (hg : Gl X "Misplaced" := by rfl)
    (he : starEach (a :: []) X.env = (false, eval a X.env) :: starEach [] X.env := by rfl) (hpl : (backTo pos (starEach [] X.env)).any (·.1) = false := by rfl) :
    PMk X (.Call (.Name "Misplaced" p) [a] [] pos) (tMkLow C ta) := by
  intro pins s σ H Q I h
  refine wpAny_Call_Name_kw (ld_glob I hg T.gC ?_)
  refine PySem.W.callWith_K (h₀ := X.base) I.ok.mod.kin T.kC (thn (ha.run pos pins s σ H _ I h) fun us s1 hh => ?_) he hpl
  obtain ⟨vs, H1, I1, r1, v, ev, q1⟩ := hh
  subst ev
  refine ⟨I1.kIn, ?_⟩
  cases r1 with
  | cons rv rn =>
    rename_i v' us'
    cases rn
    show wpAny _ _ (call (.ref C) [v']) _ _ _
    have hlim := I1.nolimit
    obtain ⟨hp, g, dr, tk, os⟩ := s1
    refine wpAny_call (PySem.LowX.low_made T I1.kIn hlim (by have := hr.dp; omega) fun h' tk' e d M => ?_)
    show MkP X pins σ Q (.ref e) ⟨h', g, dr, tk', os⟩
    obtain ⟨oe, fv, hoe, hc, hd, hdat, h1⟩ := M.obj
    have hns := M.ns
    obtain ⟨G', g1, g2⟩ := restrict h' fun b => decide (b ≠ e)
    have gk : ∀ b, b ≠ e → G'.get? b = h'.get? b := fun b hb => g1 b (decide_eq_true hb)
    have ge : G'.get? e = none := g2 e (by simp)
    have old : ∀ b o, hp.get? b = some o → G'.get? b = some o := fun b o q => (gk b (Nat.ne_of_lt (Nat.lt_of_lt_of_le (Heap.lt_size q) M.new))).trans (M.keep b o q)
    have ob : ObjOk X.prog X.w (upd H1 d (.xd [(("place" : Str), v)])) G' d (.xd [(("place" : Str), v)]) :=
      ⟨_, hns.at (fun o q => (gk d M.dne).trans q), fun f => relO_low rv f⟩
    have J : Inv X pins σ (upd H1 d (.xd [(("place" : Str), v)])) ⟨G', g, dr, tk', os⟩ := I1.laid (t' := tk') old M.dbig ob
    refine ⟨e, oe, fv, ⟨G', g, dr, tk', os⟩, _, .ref C, some d, rfl, J, fun b o q => ?_, ge, hoe, ⟨hc, hd⟩, hdat, h1, ?_, rfl, I1.bare, raises_own T.exC T.tyC, q1 d (I1.hok.fresh M.dbig)⟩
    · by_cases hb : b = e
      · have q' : G'.get? b = some o := q
        rw [hb, ge] at q'; cases q'
      · exact (gk b hb).symm.trans q
    · rw [upd_ne (Ne.symm M.dne)]
      exact I1.hok.fresh M.new
/-- raise Low(e) -/
def tRaiseLow (C : Addr) (W : WX) (ta : TA) : TS := fun _ σ H => tMkLow C ta σ H fun cls d H' => W cls d σ H'
theorem ps_raiseLow {a : Expr} {ta : TA} {W : WX} {p pos pos2 : Pos} {k : Nat} (hc : X.calm = true) (T : PySem.LowX.LowTxt X.K X.mg C fI) (hr : Room k X.A) (tk : Takes X W) (ha : PA X [a] ta) (hg : Gl X "Misplaced" := by rfl)
    (he : starEach (a :: []) X.env = (false, eval a X.env) :: starEach [] X.env := by rfl) (hpl : (backTo pos (starEach [] X.env)).any (·.1) = false := by rfl) :
    PS X (.Raise (some (.Call (.Name "Misplaced" p) [a] [] pos)) none pos2) (tRaiseLow C W ta) := ps_raise hc tk (pmk_low T hr ha hg he hpl)
/-- low.by, low the exception that the suite holds (at a; its class cls, its dict d) -/
def tByLow (C : Addr) (a : Addr) (cls : Value) (d : Option Addr) (te : TE) : TE := fun σ H Q => te σ H fun x H1 => x = .ref a ∧ cls = .ref C ∧ ∃ (dd : Addr) (v : V), d = some dd ∧ H1 dd = some (.xd [(("place" : Str), v)]) ∧ Q v H1
theorem pe_byLow {a : Addr} {oe : Obj} {cls : Value} {d : Option Addr} {pn : List (Addr × Obj)} {e : Expr} {te : TE} {pos : Pos} (T : PySem.LowX.LowTxt X.K X.mg C fI) (hz : Zc cls d oe) (hf : ∃ vs, oe.data = .fields vs) (he : PE (X.suite a ((a, oe) :: pn)) e te)
    (hb : attributeBase e "place" X.env (eval e X.env) = eval e X.env := by rfl) :
    PE (X.suite a ((a, oe) :: pn)) (.Attribute e "place" pos) (tByLow C a cls d te) := by
  refine ⟨fun pins s σ H Q I h => ?_⟩
  refine attr_of hb (thn (he.run pins s σ H _ I h) fun u s1 hh => ?_)
  obtain ⟨x, H1, I1, rx, ex, ec, dd, v, ed, ea, q⟩ := hh
  subst ex
  obtain rfl : u = Value.ref a := rx
  subst ec
  subst ed
  obtain ⟨ha, _⟩ := I1.pin (a, oe) (List.mem_append_left _ List.mem_cons_self)
  obtain ⟨vs, hd⟩ := hf
  have hx : ObjOk X.prog X.w H1 s1.heap dd (.xd [(("place" : Str), v)]) := I1.hok dd _ ea
  obtain ⟨mA, hns, hr⟩ := hx
  obtain ⟨od, ho, hl⟩ := lookIn_ns hns
  have l : List.lookup ("place" : Str) [(("place" : Str), v)] = some v := by simp [List.lookup]
  obtain ⟨u, hu, ru⟩ := RelO.some_of (v := v) (o := mA "place") (by rw [← l]; exact hr "place")
  have J : PySem.W.InstAt s1.heap a oe C (some od) := ⟨ha, hz.1, by unfold PySem.W.notCls; rw [hd] <;> rfl, by rw [hz.2]; exact ho⟩
  exact HandSPX.exc_get I1.kIn J T.ga T.gg T.exC (PySem.W.findObj_own T.hdC T.noN rfl (by rw [hl, hu])) (handed_of ru) ⟨v, H1, I1.tok _, ru, q⟩
end
end L2

namespace L2
open PySem PySem.Spec PyProof.Rows
/-- an if whose test is known -/
theorem if_true_of {c : Bool} {A B : Prop} (hc : c = true) (h : A) : if c = true then A else B := by
  rw [if_pos hc]
  exact h
theorem if_false_of {c : Bool} {A B : Prop} (hc : c = false) (h : B) : if c = true then A else B := by
  rw [hc, if_neg Bool.false_ne_true]
  exact h
end L2

namespace HC
open PySem PySem.Spec PyProof.Rows L2
/-! ### facts of defs and classes, in bundles -/
def NoAll (K : PySem.W.Frag) (C : Addr) : List Str → Prop
  | [] => True
  | n :: r => NoAttr K C n ∧ NoAll K C r
structure DefT (K : PySem.W.Frag) (mg : Str → Option Value) (x : Str) (st : Stmt) (f : Addr) (ps : List Str) : Prop where
  ex : ∃ fd, Fun K x x st f fd ∧ Binds K fd ps []
  gl : mg x = some (.ref f)
structure MetT (K : PySem.W.Frag) (C : Addr) (m qual : Str) (st : Stmt) (f : Addr) (ps : List Str) : Prop where
  ex : ∃ fd, Fun K m qual st f fd ∧ Binds K fd ps []
  me : Meth K C m f
structure ClsT (K : PySem.W.Frag) (mg : Str → Option Value) (x qual : Str) (C f : Addr) (ns : List Str) (st : Stmt) (ps : List Str) : Prop where
  cl : Cls K C
  no : NoAll K C ns
  mak : Mk K C f
  gl : mg x = some (.ref C)
  ini : ∃ fd, Fun K "__init__" qual st f fd ∧ Binds K fd ps []
  cla : PySem.W.findIn K (.ref C) "__class__" = some (some (.builtin "object.__class__"))
  mro : PySem.W.mroIn K C (.type "object") = some true
/-- a def keeps its promise -/
structure OkD (P : Program) (w : World) (K : PySem.W.Frag) (mg : Str → Option Value) (base : Heap) (CX : CXT) (k : Nat) (f : Addr) (ps : List Str) (sp : Sp) : Prop where
  ex : ∃ fd, FnOk P w K mg base CX k f fd ps sp ∧ Binds K fd ps []
  kp : PySem.W.keepIn K (.ref f) = true
/-! ### attributes by place -/
theorem put_new (f : Str) (v : V) : ∀ (ns : List Str) (as : List V), as.length = ns.length → f ∉ ns → putF f v (ns.zip as) = (ns ++ [f]).zip (as ++ [v])
  | [], [], _, _ => rfl
  | n :: ns, a :: as, hl, h => by
    have h1 : ¬ n = f := fun e => h (by rw [e]; exact List.mem_cons_self)
    have h2 : f ∉ ns := fun e => h (List.mem_cons_of_mem _ e)
    show (if n = f then _ else (n, a) :: putF f v (ns.zip as)) = (n, a) :: (ns ++ [f]).zip (as ++ [v])
    rw [if_neg h1, put_new f v ns as (by simpa using hl) h2]
  | [], _ :: _, hl, _ => by simp at hl
  | _ :: _, [], hl, _ => by simp at hl
/-- the place of a name -/
def ixOf (f : Str) : List Str → Option Nat
  | [] => none
  | n :: r => if n = f then some 0 else (ixOf f r).map (· + 1)
theorem put_at (f : Str) (v : V) : ∀ (ns : List Str) (as : List V) (i : Nat), as.length = ns.length → ixOf f ns = some i → putF f v (ns.zip as) = ns.zip (as.set i v)
  | [], _, _, _, h => by cases h
  | _ :: _, [], _, hl, _ => by simp at hl
  | n :: ns, a :: as, i, hl, h => by
    show (if n = f then (n, v) :: ns.zip as else (n, a) :: putF f v (ns.zip as)) = _
    unfold ixOf at h
    by_cases e : n = f
    · rw [if_pos e] at h ⊢
      cases h
      rfl
    · rw [if_neg e] at h ⊢
      cases q : ixOf f ns with
      | none => rw [q] at h; cases h
      | some j =>
        rw [q] at h
        cases h
        rw [put_at f v ns as j (by simpa using hl) q]
        rfl
theorem look_at (f : Str) : ∀ (ns : List Str) (as : List V) (i : Nat), as.length = ns.length → ixOf f ns = some i → (ns.zip as).lookup f = as[i]?
  | [], _, _, _, h => by cases h
  | _ :: _, [], _, hl, _ => by simp at hl
  | n :: ns, a :: as, i, hl, h => by
    unfold ixOf at h
    by_cases e : n = f
    · rw [if_pos e] at h
      cases h
      have hb : (f == n) = true := beq_iff_eq.mpr e.symm
      simp only [List.zip_cons_cons, List.lookup, hb]
      rfl
    · rw [if_neg e] at h
      have hb : (f == n) = false := beq_eq_false_iff_ne.mpr fun q => e q.symm
      cases q : ixOf f ns with
      | none => rw [q] at h; cases h
      | some j =>
        rw [q] at h
        cases h
        simp only [List.zip_cons_cons, List.lookup, hb]
        rw [look_at f ns as j (by simpa using hl) q]
        rfl
theorem look_no (f : Str) : ∀ (ns : List Str) (as : List V), f ∉ ns → (ns.zip as).lookup f = none
  | [], _, _ => rfl
  | _ :: _, [], _ => rfl
  | n :: ns, a :: as, h => by
    have hb : (f == n) = false := beq_eq_false_iff_ne.mpr fun q => h (by rw [q]; exact List.mem_cons_self)
    simp only [List.zip_cons_cons, List.lookup, hb]
    exact look_no f ns as fun e => h (List.mem_cons_of_mem _ e)
/-! ### a new instance of a class whose __init__ stores its arguments -/
def spInit (C : Addr) (ns : List Str) : Sp := fun vs H Q _ => ∃ (p dx : Addr) (as : List V), vs = .ref p :: as ∧ as.length = ns.length ∧ H p = some (.ins C dx []) ∧
  ∀ H', (∀ b, b ≠ p → H' b = H b) → H' p = some (.ins C dx (ns.zip as)) → Q .non H'
/-- from C(..)'s reading to what callers want: a new object, all else as it was -/
theorem made {C : Addr} {ns : List Str} {vs : List V} {H : Hp} {Q : Addr → Hp → Prop} {E : XK} (hl : vs.length = ns.length)
    (h : ∀ x dx H', H x = none → Same H H' → H' x = some (.ins C dx (ns.zip vs)) → Q x H') :
    ∀ x dx, H x = none → H dx = none → dx ≠ x → spInit C ns (.ref x :: (vs ++ [])) (upd (upd H dx (.own x)) x (.ins C dx [])) (fun v H2 => v = .non ∧ Q x H2) E := by
  intro x dx nx ndx ne
  rw [List.append_nil]
  refine ⟨x, dx, vs, rfl, hl, upd_same, fun H' hb hx => ⟨rfl, h x dx H' nx (fun b o e => ?_) hx⟩⟩
  rw [hb b (ne_of_none e nx), upd_ne (ne_of_none e nx), upd_ne (ne_of_none e ndx)]
  exact e
/-! ### what leaves a def -/
section
variable {P : Program} {w : World} {K : PySem.W.Frag} {mg : Str → Option Value} {base : Heap} {N : List Str} {qual : Str} {sc : Scope} {f : Addr} {cdv : Value} {A : Around} {outer : List Env} {s : Shared} {H : Hp} {E : XK}
theorem takesX : Takes (cxOf (L2.CX P w) P w K mg base N qual sc f cdv A outer s H E) (fun cls d _ H => E cls d H) := takes_of rfl rfl rfl rfl
theorem passX : Passes (L2.CX P w) (cxOf (L2.CX P w) P w K mg base N qual sc f cdv A outer s H E) E := passes_call takesX fun _ _ _ _ h => h
theorem ownX : PassesOwn (model P w) (cxOf (L2.CX P w) P w K mg base N qual sc f cdv A outer s H E).A (cxOf (L2.CX P w) P w K mg base N qual sc f cdv A outer s H E).env (cxOf (L2.CX P w) P w K mg base N qual sc f cdv A outer s H E).xe := passes_of rfl
end
/-! ### heaps -/
/-- all but R is as it was -/
def Keep (R : Addr) (H H' : Hp) : Prop := ∀ b o, b ≠ R → H b = some o → H' b = some o
theorem Keep.refl (R : Addr) (H : Hp) : Keep R H H := fun _ _ _ h => h
theorem Keep.trans {R : Addr} {H H1 H2 : Hp} (a : Keep R H H1) (b : Keep R H1 H2) : Keep R H H2 := fun c o n h => b c o n (a c o n h)
theorem Keep.of {R : Addr} {H H' : Hp} (s : Same H H') : Keep R H H' := fun b o _ h => s b o h
theorem Keep.free {R : Addr} {H H' : Hp} {o : HO} (k : Keep R H H') (hR : H' R = some o) {b : Addr} (h : H' b = none) : H b = none := by
  cases q : H b with
  | none => rfl
  | some u =>
    by_cases e : b = R
    · subst e
      rw [hR] at h
      cases h
    · rw [k b u e q] at h
      cases h
/-- a module's constant -/
theorem pgi {X : Cx} {x : Str} {pos : Pos} {i : Int} {t : Tok} (hm : X.mg x = some (.int i t)) (hg : Gl X x := by rfl) (hd : (x == ("__debug__" : Str)) = false := by decide) : PE X (.Name x pos) (tC (.int i)) := pe_glob (v := .int i) hg hm ⟨_, rfl⟩ hd
end HC
namespace HC
open PySem PySem.Spec PyProof.Rows L2
/-! ### promises of defs that take ints and leave the heap alone -/
def spI1 (C : Int → Prop) (g : Int → V) : Sp := fun vs H Q _ => ∃ a : Int, vs = [.int a] ∧ C a ∧ Q (g a) H
def spI2 (C : Int → Int → Prop) (g : Int → Int → V) : Sp := fun vs H Q _ => ∃ a b : Int, vs = [.int a, .int b] ∧ C a b ∧ Q (g a b) H
def spI3 (C : Int → Int → Int → Prop) (g : Int → Int → Int → V) : Sp := fun vs H Q _ => ∃ a b c : Int, vs = [.int a, .int b, .int c] ∧ C a b c ∧ Q (g a b c) H
def spI4 (C : Int → Int → Int → Int → Prop) (g : Int → Int → Int → Int → V) : Sp := fun vs H Q _ => ∃ a b c e : Int, vs = [.int a, .int b, .int c, .int e] ∧ C a b c e ∧ Q (g a b c e) H
def spI5 (C : Int → Int → Int → Int → Int → Prop) (g : Int → Int → Int → Int → Int → V) : Sp := fun vs H Q _ => ∃ a b c e f : Int, vs = [.int a, .int b, .int c, .int e, .int f] ∧ C a b c e f ∧ Q (g a b c e f) H
theorem castI {Q : VK} {H : Hp} {a b : Int} (k : Q (.int a) H) (e : a = b) : Q (.int b) H := e ▸ k
theorem castB {Q : VK} {H : Hp} {a b : Bool} (k : Q (.bl a) H) (e : a = b) : Q (.bl b) H := e ▸ k
/-! ### a call of what an expression gives -/
def FnAt (X : Cx) (k : Nat) (f : Addr) (sp : Sp) : Prop := ∃ j fd ps, j ≤ k ∧ FnOk X.prog X.w X.K X.mg X.base CX0 j f fd ps sp ∧ Binds X.K fd ps [] ∧ PySem.W.keepIn X.K (.ref f) = true
def tCallE (X : Cx) (k : Nat) (tf : TE) (t : TA) : TE := fun σ H Q => tf σ H fun y H1 => ∃ f sp, y = V.ref f ∧ FnAt X k f sp ∧ t σ H1 fun vs H2 => sp vs H2 Q E0
theorem pe_callE {X : Cx} {k : Nat} {fe e : Expr} {es : List Expr} {tf : TE} {t : TA} {pos : Pos} (hr : Room k X.A) (hf : PE X fe tf) (ha : PA X (e :: es) t)
    (ht : eval (.Call fe (e :: es) [] pos) X.env = (do callWith pos (← eval fe X.env) [] (backTo pos (starEach (e :: es) X.env)) (backToKw pos (keywordEach [] X.env))) := by rfl)
    (he : starEach (e :: es) X.env = (false, eval e X.env) :: starEach es X.env := by rfl) (hpl : (backTo pos (starEach es X.env)).any (·.1) = false := by rfl) : PE X (.Call fe (e :: es) [] pos) (tCallE X k tf t) := by
  refine ⟨fun pins s σ H Q I h => ?_⟩
  refine Call_ (thn (hf.run pins s σ H _ I h) fun u s1 ⟨y, H1, I1, ry, f, sp, ey, ⟨j, fd, ps, hj, F, hb, hk⟩, q⟩ => ?_) ht
  subst ey
  obtain rfl : u = Value.ref f := ry
  refine PySem.W.callWith_K (h₀ := X.base) I.ok.mod.kin hk (thn (ha.run pos pins s1 σ H1 _ I1 q) fun us s2 ⟨vs, H2, I2, r, q2⟩ => ⟨I2.kIn, ?_⟩) he hpl
  exact run_fn (dvs := []) (ds := []) F (hr.mono hj) hb .nil pass0 I2 r (by rw [List.append_nil]; exact q2)
/-- a tuple of the text -/
def TupK (K : PySem.W.Frag) (a : Addr) (xs : List V) : Prop := ∀ H, SqT K H a xs
theorem tup_mk {K : PySem.W.Frag} {a : Addr} {dd : Option Addr} {its : Array Value} {n : Nat} {sl : Array (Option Value)} {xs : List V} (l : K.lookup a = some ⟨.type "tuple", dd, .seq its n, sl⟩) (z : its.size ≤ sizeLine) (v : Vals xs its.toList) : TupK K a xs :=
  fun _ => .inr ⟨_, its, n, l, rfl, rfl, z, v⟩
end HC
namespace HC
open PySem PySem.Spec PyProof.Rows L2 LamX NdefX
/-! ### functions that are made while the program runs, and handed on -/
/-- the object at f is a lambda: F its words (F.body is not asked), b its body -/
def LamO (f : Addr) (F : NF) (b : Expr) : HO := .ext fun h => ∃ (od : Option Addr) (sl : Array (Option Value)) (pm ctv : Value),
  h.get? f = some (⟨.type "function", od, .func (PySem.W.kla_fn F.name F.qual F.params b F.scope F.cl pm (.ref F.c) ctv), sl⟩ : Obj)
theorem lamO_ne {f : Addr} {F : NF} {b : Expr} (ps : Array Value) : LamO f F b ≠ .tbl ps := fun z => by
  unfold LamO at z
  cases z
def IsF (H : Hp) (f : Addr) : Prop := (∃ F, H f = some (FnO f F)) ∨ ∃ F b, H f = some (LamO f F b)
theorem IsF.same {H H' : Hp} {f : Addr} (s : Same H H') (h : IsF H f) : IsF H' f := by
  rcases h with ⟨F, e⟩ | ⟨F, b, e⟩
  · exact .inl ⟨F, s _ _ e⟩
  · exact .inr ⟨F, b, s _ _ e⟩
theorem lamO_at {P : Program} {w : World} {H : Hp} {h : Heap} {f : Addr} {F : NF} {b : Expr} (hok : HOk P w H h) (e : H f = some (LamO f F b)) :
    ∃ (od : Option Addr) (sl : Array (Option Value)) (pm ctv : Value), h.get? f = some (⟨.type "function", od, .func (PySem.W.kla_fn F.name F.qual F.params b F.scope F.cl pm (.ref F.c) ctv), sl⟩ : Obj) :=
  (show _ ∧ _ from hok f _ e).1
theorem isF_at {P : Program} {w : World} {H : Hp} {h : Heap} {f : Addr} (hok : HOk P w H h) (e : IsF H f) : PySem.W.FnAt f h := by
  rcases e with ⟨F, e⟩ | ⟨F, b, e⟩
  · obtain ⟨od, sl, d1, d2, d3, z⟩ := fnO_at hok e
    exact ⟨_, od, _, sl, z⟩
  · obtain ⟨od, sl, d1, d2, z⟩ := lamO_at hok e
    exact ⟨_, od, _, sl, z⟩
theorem lam_laid {X : Cx} {pins : List (Addr × Obj)} {σ : L2.St} {H : Hp} {s : Shared} {F : NF} {b : Expr} {o : Obj} {tk : Nat} {pm ctv : Value} (I : Inv X pins σ H s)
    (ho : o = PySem.W.kla_obj F.name F.qual F.params b F.scope F.cl pm F.c ctv) : Inv X pins σ (upd H s.heap.objs.size (LamO s.heap.objs.size F b)) { s with heap := s.heap.push o, toks := tk } := by
  subst ho
  have e : (s.heap.push (PySem.W.kla_obj F.name F.qual F.params b F.scope F.cl pm F.c ctv)).get? s.heap.objs.size = some (PySem.W.kla_obj F.name F.qual F.params b F.scope F.cl pm F.c ctv) := Heap.get?_push_size _ rfl
  refine I.laid (a := s.heap.objs.size) (fun _ _ z => Heap.get?_push_of_some _ z) (Nat.le_refl _) ⟨⟨_, _, pm, ctv, e⟩, ⟨_, e⟩, ?_⟩
  rintro h1 h2 ⟨od, sl, p, t, z⟩ st
  exact ⟨od, sl, p, t, st _ z⟩
/-- the lambda that the context X makes -/
abbrev lamF (X : Cx) (params : Arguments) (scope : Scope) (c : Addr) : NF := ⟨"<lambda>", X.env.qual ++ "<lambda>", params, [], scope, cloFrom X.env.cells scope.names [], c⟩
/-- a lambda as a value: a new object; T is the maker's table -/
def tLamE (T : Addr) (q : Str) (mk : Addr → NF) (b : Expr) : TE := fun _ H Q => TabN H T (fun _ _ => q) ∧
  ∀ (f c : Addr) (H1 : Hp), ExtN H H1 ∧ Keep T H H1 → H f = none → H1 f = some (LamO f (mk c) b) → H1 c = some (CodeO c q) → Q (.ref f) H1
theorem pe_lam {X : Cx} {c T : Addr} {params : Arguments} {body : Expr} {scope : Scope} {pos : Pos} (TB : TabB X.base X.mg c T) (hcode : X.env.code = .ref c) (hdef : defaultsOf params X.env = ([], []))
    (hfree : ∀ y ∈ scope.names, y.2 = .free → X.env.scope.names.lookup y.1 = some .cell ∨ X.env.scope.names.lookup y.1 = some .free) :
    PE X (.Lambda params body scope pos) (tLamE T (X.env.qual ++ "<lambda>") (lamF X params scope) body) := by
  refine ⟨fun pins s σ H Q I hq => ?_⟩
  obtain ⟨⟨ps, hT, h3, hall⟩, go⟩ := hq
  have cap : ∀ y ∈ scope.names, y.2 = .free → ∃ z, X.env.cells.lookup y.1 = some z := fun y hy e => by
    rcases hfree y hy e with k | k
    · exact I.ok.has _ (.inl k)
    · exact I.ok.has _ (.inr k)
  refine PySem.W.kla_eval hdef ?_
  have bT := TB.bm.keeps I.bk
  have oT : s.heap.get? T = some { cls := .none, data := .fields ps } := I.hok T _ hT
  cases hc : codeAmong pos ps.toList with
  | none =>
    refine PySem.W.kla_makeFunction (P := T) (ps := ps) (mg := X.mg) (c := c) (closure_ok cap) I.ok.glob (I.mod.glob.keeps I.bk) hcode (TB.code.keeps I.bk) oT h3 hc TB.gP bT ?_
    intro c1 ctv h1 tk ext ge lt rc tb
    obtain ⟨c2, oc, vs, t, e2, a1, a2, a3⟩ := rc
    cases e2
    have fc : H c1 = none := I.hok.fresh ge
    have I1 := inv_table (t' := tk) (more := #[rawInt pos.line, rawInt pos.col, .ref c1]) (h' := h1) I hT (fun b o hb e => ext b o hb e) tb ge ⟨oc, vs, t, a1, a2, a3⟩
    have ff := I1.hok.fresh (Nat.le_refl _)
    have I2 := lam_laid (F := lamF X params scope c1) (b := body) (tk := tk) (pm := (X.mg "__name__").getD .none) (ctv := ctv) I1 rfl
    refine ⟨.ref h1.objs.size, _, I2, rfl, go h1.objs.size c1 _ ⟨fun b o e n => ?_, fun b o n e => ?_⟩ (I.hok.fresh (Nat.le_trans ge (Nat.le_of_lt lt))) upd_same ?_⟩
    · have e1 : upd (upd H T (.tbl (ps ++ #[rawInt pos.line, rawInt pos.col, .ref c1]))) c1 (CodeO c1 (X.env.qual ++ "<lambda>")) b = some o := by
        rw [upd_ne (ne_of_none e fc), upd_ne (fun z => n ps (by rw [z] at e; exact Option.some.inj (e.symm.trans hT)))]
        exact e
      exact (upd_ne (ne_of_none e1 ff)).trans e1
    · have e1 : upd (upd H T (.tbl (ps ++ #[rawInt pos.line, rawInt pos.col, .ref c1]))) c1 (CodeO c1 (X.env.qual ++ "<lambda>")) b = some o := by
        rw [upd_ne (ne_of_none e fc), upd_ne n]
        exact e
      exact (upd_ne (ne_of_none e1 ff)).trans e1
    · exact (upd_ne (Nat.ne_of_lt lt)).trans upd_same
  | some cv =>
    obtain ⟨c1, e, hco⟩ := hall pos cv hc
    subst e
    refine PySem.W.kla_makeFunctionHit (P := T) (ps := ps) (mg := X.mg) (c := c) (closure_ok cap) I.ok.glob (I.mod.glob.keeps I.bk) hcode (TB.code.keeps I.bk) oT h3 hc bT ?_
    intro ctv h1 tk ext sz
    have I1 : Inv X pins σ H { s with heap := h1, toks := tk } := I.kept ext
    have ff : H h1.objs.size = none := I1.hok.fresh (Nat.le_refl _)
    have I2 := lam_laid (F := lamF X params scope c1) (b := body) (tk := tk) (pm := (X.mg "__name__").getD .none) (ctv := ctv) I1 rfl
    refine ⟨.ref h1.objs.size, _, I2, rfl, go h1.objs.size c1 _ ⟨fun b o e _ => (upd_ne (ne_of_none e ff)).trans e, fun b o _ e => (upd_ne (ne_of_none e ff)).trans e⟩ ff upd_same ?_⟩
    exact (upd_ne (ne_of_none hco ff)).trans hco
/-! ### what a lambda promises (one that captures nothing) -/
structure LOk (P : Program) (w : World) (K : PySem.W.Frag) (mg : Str → Option Value) (base : Heap) (k : Nat) (f : Addr) (F : NF) (b : Expr) (sp : Sp) : Prop where
  run : ∀ (A : Around) (outer : List Env) (s : Shared) (H : Hp) (us : List Value) (vs : List V) (Q : VK), Room k A → Env0 P w K mg base A outer s H → H f = some (LamO f F b) → H F.c = some (CodeO F.c F.qual) →
    Vals vs us → sp vs H Q E0 → codeAny (model P w) A (.call (.ref f) ⟨us, []⟩) (CR CX0 outer P w H s Q E0) s
theorem cells0 {cl : List (Str × Addr)} {h : Heap} {H : Hp} (hcl : cl = []) : CellsAt cl [] [] h H := by
  subst hcl
  exact ⟨rfl, fun _ _ e => (nomatch e), fun _ _ _ e => (nomatch e), fun _ _ e => (by simp at e)⟩
section
variable {P : Program} {w : World} {K : PySem.W.Frag} {mg : Str → Option Value} {base : Heap} {k kt : Nat} {f g : Addr} {F : NF} {b : Expr} {sp : Sp}
theorem LOk.mono (o : LOk P w K mg base k f F b sp) (h : k ≤ kt) : LOk P w K mg base kt f F b sp := ⟨fun A outer s H us vs Q hr => o.run A outer s H us vs Q (hr.mono h)⟩
theorem lok_of {N ps : List Str} (S : NScope N ps [] F.scope) (hcl : F.cl = []) (hb : ∀ (pm cv ctv : Value) (us : List Value), us.length = ps.length → bindArgs (PySem.W.kla_fn F.name F.qual F.params b F.scope F.cl pm cv ctv) ⟨us, []⟩ = pure (ps.zip us))
    (len : ∀ vs H Q E, sp vs H Q E → vs.length = ps.length)
    (hbody : ∀ (A : Around) (outer : List Env) (s : Shared) (H : Hp) (vs : List V) (Q : VK), Room k (A.deeper (envF F f s.heap.objs.size)) → sp vs H Q E0 →
      ∃ t, PE (ncx CX0 P w K mg base N F f A outer s H E0) b t ∧ t (startF N vs []) H Q) : LOk P w K mg base (k + 1) f F b sp := by
  refine ⟨fun A outer s H us vs Q hr e0 hf hc r q => ?_⟩
  have hl := len _ _ _ _ q
  have lim : s.heap.NoLimit := e0.mod.nolimit.keeps fun b o e => (e0.bs b o e).1
  obtain ⟨od, sl, pm, ctv, ho⟩ := lamO_at e0.hok hf
  refine PySem.W.kla_callFunE hr.depth ho rfl S.co S.gen rfl (codeO_at e0.hok hc) ?_
  rw [hb pm (.ref F.c) ctv us (by rw [← r.length]; exact hl)]
  refine wpAny_pure (wpAny_newFunctionEnv S.nocell (fun y hy => S.par y.1 (List.of_mem_zip hy).1) ?_ S.kind)
  intro h1 hns hsb
  refine ⟨lim.fresh _ hsb, ?_⟩
  show codeAny _ _ (.expr b (envF F f s.heap.objs.size)) _ _
  have kp : ∀ a o, s.heap.get? a = some o → h1.get? a = some o := fun a o e => hsb.extBut a o (Nat.ne_of_lt (Heap.lt_size e)) (Heap.get?_push_of_some _ e)
  obtain ⟨t, ht, hq⟩ := hbody A outer s H vs Q (hr.deeper _) q
  have I : Inv (ncx CX0 P w K mg base N F f A outer s H E0) [] (startF N vs []) H { s with heap := h1, toks := s.toks + (ps.zip us).length } := inv_startN S hr.hd e0 hl r (cells0 hcl) hns kp
  refine PySem.W.kla_codeExpr (wpAny_mono (ht.run [] _ (startF N vs []) H Q I hq) ?_ fun e s' z => z)
  rintro u s1 ⟨v, H1, J, rv, z⟩
  exact ⟨v, H1, J.os, J.bare, J.base, J.hok, rv, z⟩
/-! ### what is handed on: its promise from a state on -/
structure Tells (P : Program) (w : World) (K : PySem.W.Frag) (mg : Str → Option Value) (base : Heap) (k : Nat) (f : Addr) (fs : List Addr) (H0 : Hp) (h0 : Heap) (sp : Sp) : Prop where
  run : ∀ (A : Around) (outer : List Env) (s : Shared) (H : Hp) (us : List Value) (vs : List V) (Q : VK), Room k A → Env0 P w K mg base A outer s H → Un fs [] H0 H h0 s.heap → Vals vs us → sp vs H Q E0 →
    codeAny (model P w) A (.call (.ref f) ⟨us, []⟩) (CR CX0 outer P w H s Q E0) s
/-- a lambda's promise, with the lambda in the heap -/
def spLam (f : Addr) (F : NF) (b : Expr) (sp : Sp) : Sp := fun vs H Q E => H f = some (LamO f F b) ∧ H F.c = some (CodeO F.c F.qual) ∧ sp vs H Q E
theorem LOk.tells (o : LOk P w K mg base k f F b sp) (fs : List Addr) (H0 : Hp) (h0 : Heap) : Tells P w K mg base k f fs H0 h0 (spLam f F b sp) :=
  ⟨fun A outer s H us vs Q hr e0 _ r q => o.run A outer s H us vs Q hr e0 q.1 q.2.1 r q.2.2⟩
def spNf (f : Addr) (F : NF) (ws : List (Option V)) (sp : List (Option V) → Sp) : Sp := fun vs H Q E => H f = some (FnO f F) ∧ H F.c = some (CodeO F.c F.qual) ∧ sp ws vs H Q E
theorem cells_un {cl : List (Str × Addr)} {fr : List Str} {ws : List (Option V)} {fs : List Addr} {H H1 : Hp} {h h1 : Heap} (c : CellsAt cl fr ws h H) (u : Un fs [] H H1 h h1) : CellsAt cl fr ws h1 H1 := by
  have kp : ∀ y a, cl.lookup y = some a → ∀ v, h.IsCell a v → h1.IsCell a v := fun y a e v ⟨o, ho, hd⟩ => by
    obtain ⟨sl, z⟩ := u.any ho (c.all y a e).1 (by simp)
    exact ⟨_, z, hd⟩
  refine ⟨c.len, fun y a e => ?_, c.inj, fun i y e => ?_⟩
  · obtain ⟨n, v, z⟩ := c.all y a e
    refine ⟨?_, v, kp y a e v z⟩
    obtain ⟨o, ho, _⟩ := z
    exact u.free a o ho n (by simp)
  · obtain ⟨a, ha, hv⟩ := c.has i y e
    refine ⟨a, ha, fun v ev => ?_⟩
    obtain ⟨x, rx, z⟩ := hv v ev
    exact ⟨x, rx, kp y a ha _ z⟩
theorem nok_tells {ps fr : List Str} {ws : List (Option V)} {spn : List (Option V) → Sp} {fs : List Addr} {H0 : Hp} {h0 : Heap} (o : NOk P w K mg base CX0 k f F ps fr spn) (c : CellsAt F.cl fr ws h0 H0) : Tells P w K mg base k f fs H0 h0 (spNf f F ws spn) :=
  ⟨fun A outer s H us vs Q hr e0 un r q => o.run A outer s H us vs ws Q E0 hr e0 q.1 q.2.1 (cells_un c un) r q.2.2⟩
/-- a def that is handed a function f: SP f sp, sp what f promises -/
structure GivOk (P : Program) (w : World) (K : PySem.W.Frag) (mg : Str → Option Value) (base : Heap) (k kt : Nat) (g : Addr) (fd : FuncData) (ps : List Str) (SP : Addr → Sp → Sp) : Prop where
  len : ∀ f sp vs H Q E, SP f sp vs H Q E → vs.length = ps.length
  run : ∀ (A : Around) (outer : List Env) (s : Shared) (H : Hp) (args : Args) (us : List Value) (vs : List V) (Q : VK) (f : Addr) (sp : Sp), Room k A → Env0 P w K mg base A outer s H → Tells P w K mg base kt f (frs outer) H s.heap sp →
    BindsTo s fd args (ps.zip us) → Vals vs us → SP f sp vs H Q E0 → codeAny (model P w) A (.call (.ref g) args) (CR CX0 outer P w H s Q E0) s
theorem giv_of {x qual : Str} {st : Stmt} {fd : FuncData} {N ps : List Str} {SP : Addr → Sp → Sp} (D : Fun K x qual st g fd) (S : FnScope N ps (defScope st)) (len : ∀ f sp vs H Q E, SP f sp vs H Q E → vs.length = ps.length)
    (hbody : ∀ (cdv : Value) (A : Around) (outer : List Env) (s : Shared) (H : Hp) (vs : List V) (Q : VK) (f : Addr) (sp : Sp), Room k (A.deeper (envOfC qual (defScope st) s.heap.objs.size g cdv)) → Tells P w K mg base kt f (frs outer) H s.heap sp → SP f sp vs H Q E0 →
      ∃ t, PSs (cxOf CX0 P w K mg base N qual (defScope st) g cdv A outer s H E0).nox (defBody st) t ∧ t { nx := fun _ H' => Q .non H', rt := Q } (start N vs) H) : GivOk P w K mg base (k + 1) kt g fd ps SP := by
  obtain ⟨oc, od, kV, doc, pm, an, cdv, ct, osl, rfl, lk, hcd⟩ := D.ex
  refine ⟨len, fun A outer s H args us vs Q f sp hr e0 tl hb r q => ?_⟩
  refine LamX.run_ofS (N := N) lk hcd S hr e0 hb r (len _ _ _ _ _ _ q) fun hr2 => ?_
  obtain ⟨t, h1, h2⟩ := hbody cdv A outer s H vs Q f sp hr2 tl q
  exact ⟨t, h1.nox, h2⟩
end
section
variable {X : Cx} {k kt i : Nat} {g : Addr} {fd : FuncData} {ps : List Str} {SP : Addr → Sp → Sp} {x : Str} {p pos : Pos} {e : Expr} {es : List Expr} {t : TA}
/-- x(..), x the name that holds what was handed on -/
def tTell (i : Nat) (f : Addr) (sp : Sp) (t : TA) : TE := fun σ H Q => σ[i]? = some (some (.ref f)) ∧ IsF H f ∧ t σ H fun vs H1 => IsF H1 f ∧ sp vs H1 Q E0
theorem pe_tell {f : Addr} {sp : Sp} (T : Tells X.prog X.w X.K X.mg X.base kt f X.fs X.H_0 X.s_0.heap sp) (hex : X.ex = []) (hr : Room kt X.A) (hN : X.N[i]? = some x) (hv : Vis X.env.scope x) (ha : PA X (e :: es) t)
    (hd : (x == ("__debug__" : Str)) = false := by decide) (hcd : (x == ("__classdict__" : Str)) = false := by decide)
    (he : starEach (e :: es) X.env = (false, eval e X.env) :: starEach es X.env := by rfl) (hpl : (backTo pos (starEach es X.env)).any (·.1) = false := by rfl) : PE X (.Call (.Name x p) (e :: es) [] pos) (tTell i f sp t) := by
  refine ⟨fun pins s σ H Q I hq => ?_⟩
  obtain ⟨hs, hF, ht⟩ := hq
  refine wpAny_Call_Name_kw (thn ((pe_var (pos := p) hN hv hd hcd).run pins s σ H (fun v H1 => v = .ref f ∧ H1 = H) I ⟨.ref f, hs, rfl, rfl⟩) ?_)
  rintro u s1 ⟨v, H1, I1, r1, e1, e2⟩
  subst e1 e2
  obtain rfl : u = Value.ref f := r1
  refine PySem.W.callWith_F (first := []) (isF_at I1.hok hF) (thn (ha.run pos pins s1 σ _ _ I1 ht) ?_) he hpl
  rintro us s2 ⟨vs, H2, I2, r, hF2, q⟩
  refine ⟨isF_at I2.hok hF2, ?_⟩
  show wpAny _ _ (call (.ref f) us) _ _ _
  have un := I2.base
  rw [hex] at un
  refine wpAny_call (codeAny_mono (T.run X.A X.stack s2 H2 us vs Q hr I2.env0 un r q) fun r' s' z => ?_)
  cases r' with
  | error e => exact (show False from z).elim
  | ok fl =>
    cases fl with
    | ret u => exact I2.after z
    | next => exact (show False from z).elim
    | brk => exact (show False from z).elim
    | cont => exact (show False from z).elim
/-- .. that holds a lambda, wherever -/
def tTellL (X : Cx) (kt i : Nat) (t : TA) : TE := fun σ H Q => ∃ (f : Addr) (F : NF) (b : Expr) (sp : Sp), σ[i]? = some (some (.ref f)) ∧ LOk X.prog X.w X.K X.mg X.base kt f F b sp ∧ IsF H f ∧ t σ H fun vs H1 => spLam f F b sp vs H1 Q E0
theorem pe_tellL (hr : Room kt X.A) (hN : X.N[i]? = some x) (hv : Vis X.env.scope x) (ha : PA X (e :: es) t)
    (hd : (x == ("__debug__" : Str)) = false := by decide) (hcd : (x == ("__classdict__" : Str)) = false := by decide)
    (he : starEach (e :: es) X.env = (false, eval e X.env) :: starEach es X.env := by rfl) (hpl : (backTo pos (starEach es X.env)).any (·.1) = false := by rfl) : PE X (.Call (.Name x p) (e :: es) [] pos) (tTellL X kt i t) := by
  refine ⟨fun pins s σ H Q I hq => ?_⟩
  obtain ⟨f, F, b, sp, hs, L, hF, ht⟩ := hq
  refine wpAny_Call_Name_kw (thn ((pe_var (pos := p) hN hv hd hcd).run pins s σ H (fun v H1 => v = .ref f ∧ H1 = H) I ⟨.ref f, hs, rfl, rfl⟩) ?_)
  rintro u s1 ⟨v, H1, I1, r1, e1, e2⟩
  subst e1 e2
  obtain rfl : u = Value.ref f := r1
  refine PySem.W.callWith_F (first := []) (isF_at I1.hok hF) (thn (ha.run pos pins s1 σ _ _ I1 ht) ?_) he hpl
  rintro us s2 ⟨vs, H2, I2, r, q1, q2, q3⟩
  refine ⟨isF_at I2.hok (.inr ⟨F, b, q1⟩), ?_⟩
  show wpAny _ _ (call (.ref f) us) _ _ _
  refine wpAny_call (codeAny_mono (L.run X.A X.stack s2 H2 us vs Q hr I2.env0 q1 q2 r q3) fun r' s' z => ?_)
  cases r' with
  | error e => exact (show False from z).elim
  | ok fl =>
    cases fl with
    | ret u => exact I2.after z
    | next => exact (show False from z).elim
    | brk => exact (show False from z).elim
    | cont => exact (show False from z).elim
/-- the callee, handed what tells sp -/
theorem run_giv {pins : List (Addr × Obj)} {σ : L2.St} {H : Hp} {s : Shared} {Q : VK} {us : List Value} {vs : List V} {f : Addr} {sp : Sp} (G : GivOk X.prog X.w X.K X.mg X.base k kt g fd ps SP) (hr : Room k X.A) (hb : Binds X.K fd ps []) (I : Inv X pins σ H s)
    (T : Tells X.prog X.w X.K X.mg X.base kt f (frs X.stack) H s.heap sp) (r : Vals vs us) (q : SP f sp vs H Q E0) : wpAny (model X.prog X.w) X.A (call (.ref g) us) (EP X pins σ Q) X.xe s := by
  have hl : us.length = ps.length := by rw [← r.length]; exact G.len _ _ _ _ _ _ q
  have bb := hb s us I.kIn (by rw [List.append_nil]; exact hl)
  rw [List.append_nil] at bb
  refine wpAny_call (codeAny_mono (G.run X.A X.stack s H ⟨us, []⟩ us vs Q f sp hr I.env0 T bb r q) fun r' s' z => ?_)
  cases r' with
  | error e => exact (show False from z).elim
  | ok fl =>
    cases fl with
    | ret u => exact I.after z
    | next => exact (show False from z).elim
    | brk => exact (show False from z).elim
    | cont => exact (show False from z).elim
/-- x(.., a lambda) -/
def tGivL (X : Cx) (kt : Nat) (SP : Addr → Sp → Sp) (t : TA) : TE := fun σ H Q => t σ H fun vs H1 => ∃ (f : Addr) (F : NF) (b : Expr) (sp : Sp), LOk X.prog X.w X.K X.mg X.base kt f F b sp ∧ SP f (spLam f F b sp) vs H1 Q E0
theorem pe_givL (G : GivOk X.prog X.w X.K X.mg X.base k kt g fd ps SP) (hr : Room k X.A) (hg : Gl X x) (hm : X.mg x = some (.ref g)) (hk : PySem.W.keepIn X.K (.ref g) = true) (hb : Binds X.K fd ps []) (ha : PA X (e :: es) t)
    (hdb : (x == ("__debug__" : Str)) = false := by decide) (he : starEach (e :: es) X.env = (false, eval e X.env) :: starEach es X.env := by rfl) (hpl : (backTo pos (starEach es X.env)).any (·.1) = false := by rfl) :
    PE X (.Call (.Name x p) (e :: es) [] pos) (tGivL X kt SP t) := by
  refine ⟨fun pins s σ H Q I hq => ?_⟩
  refine wpAny_Call_Name_kw (ld_glob I hg hm ?_ hdb)
  refine PySem.W.callWith_K (h₀ := X.base) I.ok.mod.kin hk (thn (ha.run pos pins s σ H _ I hq) ?_) he hpl
  rintro us s1 ⟨vs, H1, I1, r, f, F, b, sp, L, q⟩
  exact ⟨I1.kIn, run_giv G hr hb I1 (L.tells _ _ _) r q⟩
/-- x(.., f), f a name that holds a def made here; js: where what it captured stands -/
def tGivN (X : Cx) (kt : Nat) (SP : Addr → Sp → Sp) (mk : Addr → NF) (fps fr : List Str) (js : List Nat) (t : TA) : TE := fun σ H Q => t σ H fun vs H1 => ∃ (f c : Addr) (spn : List (Option V) → Sp),
  NOk X.prog X.w X.K X.mg X.base CX0 kt f (mk c) fps fr spn ∧ SP f (spNf f (mk c) (js.map (slotAt σ)) spn) vs H1 Q E0
theorem pe_givN {mk : Addr → NF} {cl : List (Str × Addr)} {fps fr : List Str} {js : List Nat} (G : GivOk X.prog X.w X.K X.mg X.base k kt g fd ps SP) (hcl : ∀ c, (mk c).cl = cl) (cp : X.Ok → Caps X cl fr js) (hr : Room k X.A) (hg : Gl X x) (hm : X.mg x = some (.ref g)) (hk : PySem.W.keepIn X.K (.ref g) = true)
    (hb : Binds X.K fd ps []) (ha : PA X (e :: es) t)
    (hdb : (x == ("__debug__" : Str)) = false := by decide) (he : starEach (e :: es) X.env = (false, eval e X.env) :: starEach es X.env := by rfl) (hpl : (backTo pos (starEach es X.env)).any (·.1) = false := by rfl) :
    PE X (.Call (.Name x p) (e :: es) [] pos) (tGivN X kt SP mk fps fr js t) := by
  refine ⟨fun pins s σ H Q I hq => ?_⟩
  refine wpAny_Call_Name_kw (ld_glob I hg hm ?_ hdb)
  refine PySem.W.callWith_K (h₀ := X.base) I.ok.mod.kin hk (thn (ha.run pos pins s σ H _ I hq) ?_) he hpl
  rintro us s1 ⟨vs, H1, I1, r, f, c, spn, L, q⟩
  have cs := cells_of I1 (cp I1.ok)
  rw [← hcl c] at cs
  exact ⟨I1.kIn, run_giv G hr hb I1 (nok_tells L cs) r q⟩
end
/-- from the lambda's object to the reading of the call that it is handed to -/
theorem lam_given {P : Program} {w : World} {K : PySem.W.Frag} {mg : Str → Option Value} {base : Heap} {kt : Nat} {SP : Addr → Sp → Sp} {f : Addr} {F : NF} {b : Expr} {sp : Sp} {vs : List V} {H : Hp} {Q : VK} (_h : H f = some (LamO f F b)) (L : LOk P w K mg base kt f F b sp)
    (q : SP f (spLam f F b sp) vs H Q E0) : ∃ (f : Addr) (F : NF) (b : Expr) (sp : Sp), LOk P w K mg base kt f F b sp ∧ SP f (spLam f F b sp) vs H Q E0 := ⟨f, F, b, sp, L, q⟩
theorem extN_seq {K : PySem.W.Frag} {H H' : Hp} {a : Addr} {xs : List V} (e : ExtN H H') (h : SqL K H a xs) : SqL K H' a xs := by
  rcases h with (h | ⟨o, h⟩) | h
  · exact .inl (.inl (e _ _ h fun _ z => by cases z))
  · exact .inl (.inr ⟨o, e _ _ h fun _ z => by cases z⟩)
  · exact .inr h
/-- a def that makes functions, with its code object -/
structure MakT (K : PySem.W.Frag) (x : Str) (st : Stmt) (f c t : Addr) : Prop where
  ex : ∃ oc od kV doc pm an ct osl, K.lookup f = some ⟨oc, od, .func (PySem.W.fnOf x x (defArgs st) (defBody st) (defScope st) .none kV doc pm an (.ref c) ct), osl⟩ ∧ PySem.W.codeIn K (.ref c) x = true
  hd : PySem.W.codeHdIn K c t = true
theorem mak_ok {P : Program} {w : World} {K : PySem.W.Frag} {mg : Str → Option Value} {base : Heap} {x : Str} {st : Stmt} {f c tb : Addr} {fd : FuncData} {N ps : List Str} {k : Nat} {sp : Sp} (F : Fun K x x st f fd) (M : MakT K x st f c tb) (S : FnScope N ps (defScope st)) (len : ∀ vs H Q E, sp vs H Q E → vs.length = ps.length)
    (hbody : ∀ (A : Around) (outer : List Env) (s : Shared) (H : Hp) (vs : List V) (Q : VK) (E : XK), Room k (A.deeper (envOfC x (defScope st) s.heap.objs.size f (.ref c))) → sp vs H Q E →
      ∃ t, PSs (cxOf CX0 P w K mg base N x (defScope st) f (.ref c) A outer s H E).nox (defBody st) t ∧ t { nx := fun _ H' => Q .non H', rt := Q } (start N vs) H) : FnOk P w K mg base CX0 (k + 1) f fd ps sp := by
  obtain ⟨oc, od, kV, doc, pm, an, ct, osl, lk, hcd⟩ := M.ex
  obtain ⟨oc', od', kV', doc', pm', an', cdv', ct', osl', rfl, lk', hcd'⟩ := F.ex
  rw [lk'] at lk
  injection lk with lk
  injection lk with e1 e2 e3 e4
  injection e3 with e3
  injection e3 with e3 e5 e6 e7 e8 e9 e10 e11 e12 e13 e14 e15 e16 e17 e18
  subst e16
  refine fn_of lk' hcd' S len fun A outer s H vs Q E hr hsp => ?_
  obtain ⟨t, h1, h2⟩ := hbody A outer s H vs Q E hr hsp
  exact ⟨t, h1.nox, h2⟩
end HC
namespace HC
open PySem PySem.Spec PyProof.Rows L2 LamX
open PySem.W (WData Codec OpenSpec WellAll ReadsW)
/-! ### a Spec row's call where tables of code objects may grow (defs that make functions) -/
theorem SqT_same {K : PySem.W.Frag} {H H' : Hp} {a : Addr} {xs : List V} (e : Same H H') (h : SqT K H a xs) : SqT K H' a xs := by
  rcases h with (h | ⟨o, h⟩) | h
  · exact .inl (.inl (e _ _ h))
  · exact .inl (.inr ⟨o, e _ _ h⟩)
  · exact .inr h
mutual
theorem Dw_same {K : PySem.W.Frag} {H H' : Hp} (e : Same H H') : ∀ {v : V} {x : WData}, Dw K H v x → Dw K H' v x
  | _, _, .non => .non
  | _, _, .bl b => .bl b
  | _, _, .int i => .int i
  | _, _, .str x => .str x
  | _, _, .byt b => .byt b
  | _, _, .lst h t => .lst (e.seq h) (DwAll_same e t)
  | _, _, .tup h t => .tup (SqT_same e h) (DwAll_same e t)
theorem DwAll_same {K : PySem.W.Frag} {H H' : Hp} (e : Same H H') : ∀ {vs : List V} {xs : List WData}, DwAll K H vs xs → DwAll K H' vs xs
  | _, _, .nil => .nil
  | _, _, .cons h t => .cons (Dw_same e h) (DwAll_same e t)
end
/-- an empty table, in the concrete heap -/
abbrev tab0 : Obj := { cls := .none, data := .fields #[] }
/-- the tracked heap at the entry: the arguments, and the tables -/
def withTabs (ts : List Addr) (G : Hp) : Hp := fun b => if b ∈ ts then some (.tbl #[]) else G b
theorem withTabs_in {ts : List Addr} {G : Hp} {b : Addr} (h : b ∈ ts) : withTabs ts G b = some (.tbl #[]) := if_pos h
theorem withTabs_out {ts : List Addr} {G : Hp} {b : Addr} (h : b ∉ ts) : withTabs ts G b = G b := if_neg h
section
variable {P : Program} {w : World} {K : PySem.W.Frag} {mg mb : Str → Option Value} {CX : CXT} {k : Nat} {fa : Addr} {fd : FuncData} {ps : List Str} {sp : Sp} {z : Shared} {us : List Value} {ds : List WData} {R : PySem.W.WRecords} {cl : Str → Option Addr} {d0 : WData} {cs : List (Addr × Addr)}
theorem call_tabs (KX : K.In z.heap) (hm : z.heap.Ns mainGlobals mg) (hbl : z.heap.Ns builtinsNs mb) (hbb : ∀ x : Str, x ≠ "__name__" → mb x = bootBuiltins x) (lim : z.heap.NoLimit) (gen : z.gens = #[])
    (tb : ∀ p ∈ cs, z.heap.get? p.2 = some tab0) (tn : ∀ p ∈ cs, K.lookup p.2 = none) (tc : ∀ p ∈ cs, PySem.W.CodeHd z.heap p.1 p.2)
    (bmn : ∃ (bm : Addr) (ob : Obj), mg "__builtins__" = some (.ref bm) ∧ bm ≠ builtinsNs ∧ z.heap.get? bm = some ob ∧ ob.cls = .type "module" ∧ ob.dict = some builtinsNs ∧ ob.data = .plain)
    (wl : WellAll w.params z.heap us ds) (pl : plWs ds = true) (wt : ∀ x ∈ ds, x.weight ≤ 1048576) (room : Room k callerA)
    (Fn : ∀ base : Heap, K.In base → base.Ns mainGlobals mg → (∀ p ∈ cs, TabB base mg p.1 p.2) → FnOk P w K mg base CX k fa fd ps sp) (bnd : ∀ (s : Shared) (vs : List Value), vs.length = ps.length → BindsTo s fd ⟨vs, []⟩ (ps.zip vs)) (len : ds.length = ps.length)
    (say : ∀ (H : Hp) (xs : List V), (∀ p ∈ cs, H p.2 = some (.tbl #[])) → DwAll K H xs ds → sp xs H (fun v H' => Dw K H' v d0) fun _ _ _ => False)
    (no : ∀ H e s', CX [] H z (fun _ _ _ => False) e s' → False) :
    codeAny (model P w) callerA (.call (.ref fa) ⟨us, []⟩) (fun r s' => ∃ u as, r = .ok (.ret u) ∧ ReadsW R cl s'.heap u d0 as ∧ OldK z.heap s'.heap ∧ s'.os = z.os ∧ AllBare s'.gens) z := by
  obtain ⟨A, okA, ar⟩ := area_all ds us wl pl wt
  have hOF : OnlyF (argH K z.heap A) := argH_only ar
  have hokA : HOk P w (argH K z.heap A) z.heap := argH_ok ar
  have hD := dw_all KX ar ds us wl pl okA
  have hV := vals_toV okA
  have inT : ∀ b, b ∈ cs.map (·.2) → z.heap.get? b = some tab0 ∧ K.lookup b = none := fun b hb => by
    obtain ⟨p, hp, e⟩ := List.mem_map.mp hb
    rw [← e]
    exact ⟨tb p hp, tn p hp⟩
  have mem : ∀ p ∈ cs, p.2 ∈ cs.map (·.2) := fun p hp => List.mem_map.mpr ⟨p, hp, rfl⟩
  have argT : ∀ b u, argH K z.heap A b = some u → b ∉ cs.map (·.2) := fun b u q hb => by
    have e := (inT b hb).1
    obtain ⟨_, vs, _, _, ⟨e2, _⟩ | ⟨e2, _⟩⟩ := argH_is ar q
    · rw [e2] at e
      have y : Data.seq vs.toArray _ = Data.fields #[] := congrArg Obj.data (Option.some.inj e)
      cases y
    · rw [e2] at e
      have y : Data.seq vs.toArray _ = Data.fields #[] := congrArg Obj.data (Option.some.inj e)
      cases y
  have argK : ∀ b u, argH K z.heap A b = some u → K.lookup b = none := fun b u q => (argH_is ar q).1
  have argS : ∀ b u o, argH K z.heap A b = some u → z.heap.get? b = some o → ∃ its n, o.data = .seq its n := fun b u o q e => by
    obtain ⟨_, vs, _, _, ⟨e2, _⟩ | ⟨e2, _⟩⟩ := argH_is ar q <;>
    · rw [e2] at e
      cases e
      exact ⟨_, _, rfl⟩
  generalize argH K z.heap A = G at hOF hokA hD argT argK argS
  have sm : Same G (withTabs (cs.map (·.2)) G) := fun b u q => (withTabs_out (argT b u q)).trans q
  have hok : HOk P w (withTabs (cs.map (·.2)) G) z.heap := fun b u q => by
    by_cases hb : b ∈ cs.map (·.2)
    · rw [withTabs_in hb] at q
      cases q
      exact (inT b hb).1
    · rw [withTabs_out hb] at q
      refine (hokA b u q).stay (fun _ _ _ y => y) (fun y q2 => sm _ _ q2) fun y xs q2 => sm _ _ q2
  have freeD : ∀ {b : Addr} {o : Obj}, z.heap.get? b = some o → (∀ its n, o.data ≠ .seq its n) → o.data ≠ .fields #[] → withTabs (cs.map (·.2)) G b = none := fun {b o} e h1 h2 => by
    by_cases hb : b ∈ cs.map (·.2)
    · rw [(inT b hb).1] at e
      cases e
      exact (h2 rfl).elim
    · rw [withTabs_out hb]
      cases q : G b with
      | none => rfl
      | some u =>
        obtain ⟨its, n, y⟩ := argS b u o q e
        exact (h1 its n y).elim
  have freeK : ∀ b o, K.lookup b = some o → withTabs (cs.map (·.2)) G b = none := fun b o e => by
    by_cases hb : b ∈ cs.map (·.2)
    · rw [(inT b hb).2] at e
      cases e
    · rw [withTabs_out hb]
      cases q : G b with
      | none => rfl
      | some u =>
        rw [argK b u q] at e
        cases e
  have hH : ∀ p ∈ cs, withTabs (cs.map (·.2)) G p.2 = some (.tbl #[]) := fun p hp => withTabs_in (mem p hp)
  have only : ∀ b, b ∉ cs.map (·.2) → withTabs (cs.map (·.2)) G b = none ∨ ∃ o u, withTabs (cs.map (·.2)) G b = some (.frz o u) := fun b hb => by
    rw [withTabs_out hb]
    exact hOF b
  have hD2 := DwAll_same sm hD
  generalize withTabs (cs.map (·.2)) G = H at hok freeD freeK hH only hD2
  have keepB : ∀ {b : Addr} {o : Obj}, z.heap.get? b = some o → H b = none → (hidT z.heap H).get? b = some o := fun e n => hidT_get e n
  have nsB : ∀ {b : Addr} {m : Str → Option Value}, z.heap.Ns b m → (hidT z.heap H).Ns b m := fun {b m} ⟨o, es, ep, e, y, r⟩ =>
    ⟨o, es, ep, keepB e (freeD e (fun its n q => by rw [y] at q; cases q) fun q => by rw [y] at q; cases q), y, r⟩
  have KB : K.In (hidT z.heap H) := fun b o e => keepB (KX b o e) (freeK b o e)
  have md : Mod K mg (hidT z.heap H) := ⟨KB, nsB hm, ⟨mb, nsB hbl, hbb⟩, let ⟨mc, h1, h2⟩ := lim; ⟨mc, nsB h1, h2⟩⟩
  have TB : ∀ p ∈ cs, TabB (hidT z.heap H) mg p.1 p.2 := fun p hp => by
    have hTp := tb p hp
    refine ⟨?_, ?_, fun y => ?_⟩
    · obtain ⟨o, vs, file, tf, fl, tg, inF, text, tt, e1, r1, r2, r3, rest⟩ := tc p hp
      refine ⟨o, vs, file, tf, fl, tg, inF, text, tt, keepB e1 (freeD e1 (fun its n q => ?_) fun q => ?_), r1, r2, r3, rest⟩
      · rw [r2] at q
        cases q
      · rw [r2] at q
        cases q
        simp at r3
    · obtain ⟨bm, ob, b1, b2, b3, b4, b5, b6⟩ := bmn
      have n1 : bm ≠ mainGlobals := fun q => by
        obtain ⟨o, es, ep, e, y, _⟩ := hm
        rw [q, e] at b3
        cases b3
        rw [y] at b6
        cases b6
      have n2 : bm ≠ p.2 := fun q => by
        rw [q, hTp] at b3
        cases b3
        cases b6
      exact ⟨bm, ob, b1, b2, n1, n2, keepB b3 (freeD b3 (fun its n q => by rw [b6] at q; cases q) fun q => by rw [b6] at q; cases q), b4, b5, b6⟩
    · obtain ⟨o, es, ep, e, hd, _⟩ := hm
      rw [y, hTp] at e
      cases e
      cases hd
  have e0 : Env0 P w K mg (hidT z.heap H) callerA [] z H := ⟨rfl, md, fun b o e => of_hidT e, Nat.le_of_eq (hidT_size _ _), trivial, fun b hb => absurd (show b ∈ ([] : List Addr) from hb) (by simp), hok, .of_eq gen⟩
  have hl : us.length = ps.length := by rw [wellAll_len wl]; exact len
  refine codeAny_mono ((Fn _ KB (nsB hm) TB).run callerA [] z H ⟨us, []⟩ us (us.map toV) _ _ room e0 (bnd z us hl) hV (say H _ hH hD2)) fun r s' y => ?_
  cases r with
  | error e => exact (no H e s' y).elim
  | ok fl =>
    cases fl with
    | next => exact False.elim y
    | brk => exact False.elim y
    | cont => exact False.elim y
    | ret u =>
      obtain ⟨v, H', os, bare, un, hok', rv, q⟩ := y
      have kept : ∀ b o, b ∉ cs.map (·.2) → z.heap.get? b = some o → s'.heap.get? b = some o := fun b o nb e => by
        rcases only b nb with n | ⟨ob, u3, n⟩
        · exact un.keep b o e n (by intro y; exact absurd (show b ∈ ([] : List Addr) from y) (by simp)) (by simp)
        · obtain ⟨e1, _⟩ := hok b _ n
          obtain ⟨e2, _⟩ := hok' b _ (un.frzs b ob _ n)
          rw [e] at e1
          cases e1
          exact e2
      have grown : ∀ p ∈ cs, ∃ more : Array Value, s'.heap.get? p.2 = some { cls := .none, data := .fields more } := fun p hp => by
        obtain ⟨more, y⟩ := un.tbls p.2 #[] (hH p hp)
        exact ⟨_, hok' p.2 _ y⟩
      have KX' : K.In s'.heap := fun b o e => kept b o (fun hb => by rw [(inT b hb).2] at e; cases e) (KX b o e)
      obtain ⟨as, rd⟩ := Dw.reads (R := R) (cl := cl) hok' KX' d0 v u q rv
      refine ⟨u, as, rfl, rd, ⟨fun b o e => ?_, fun b o e => ?_⟩, os, bare⟩
      · by_cases hb : b ∈ cs.map (·.2)
        · obtain ⟨p, hp, ep⟩ := List.mem_map.mp hb
          obtain ⟨more, hmo⟩ := grown p hp
          rw [← ep] at e ⊢
          rw [tb p hp] at e
          cases e
          exact .inr (.inl ⟨((tc p hp).tab (tb p hp)).isCodeTable, rfl, #[], more, rfl, by rw [Array.empty_append]; exact hmo⟩)
        · exact .inl (kept b o hb e)
      · by_cases hb : b ∈ cs.map (·.2)
        · obtain ⟨p, hp, ep⟩ := List.mem_map.mp hb
          obtain ⟨more, hmo⟩ := grown p hp
          rw [← ep]
          exact ⟨_, hmo⟩
        · exact ⟨o, kept b o hb e⟩
end
/-- the walk of a Spec row whose written part and tables come with the facts -/
theorem walk_tabs {r : OpenSpec} {k : Nat} {q : Program} {loose : List Str} {XP : (Str → Option Value) → Heap → Prop} {YP : World → Heap → Prop} {dr : DefRec} {CX : CXT} {ps : List Str} {sp : PySem.W.Frag → List (Addr × Addr) → Sp}
    (room : Room k callerA) (well : r.wellSaid = true) (len : r.args.length = ps.length)
    (Fk : ∀ (w : World) (mg : Str → Option Value) (fa : Addr) (h : Heap), YP w h → h.Ns mainGlobals mg → mg dr.name = some (.ref fa) → ∃ (K : PySem.W.Frag) (cs : List (Addr × Addr)), K.In h ∧
      (∀ p ∈ cs, h.get? p.2 = some tab0) ∧ (∀ p ∈ cs, K.lookup p.2 = none) ∧ (∀ p ∈ cs, PySem.W.CodeHd h p.1 p.2) ∧
      ∃ fd : FuncData, (∀ (s : Shared) (us : List Value), us.length = ps.length → BindsTo s fd ⟨us, []⟩ (ps.zip us)) ∧
        ∀ base : Heap, K.In base → base.Ns mainGlobals mg → (∀ p ∈ cs, TabB base mg p.1 p.2) → FnOk r.prog w K mg base CX k fa fd ps (sp K cs))
    (say : ∀ (K : PySem.W.Frag) (cs : List (Addr × Addr)) (H : Hp) (xs : List V) (a : Codec.denoteAll r.args), (∀ p ∈ cs, H p.2 = some (.tbl #[])) → Codec.withinAll r.args a = true → DwAll K H xs (Codec.encAll r.args a) →
      sp K cs xs H (fun v H' => Dw K H' v (r.ret.enc (Codec.app r.args r.f a))) fun _ _ _ => False)
    (no : ∀ (H : Hp) (s : Shared) (e : Value) (s' : Shared), CX [] H s (fun _ _ _ => False) e s' → False) :
    PySem.W.WalkOS q loose XP YP r dr [] (fun f vs => PySem.call f vs) := by
  intro wd sa sb mg mb Gr Yh fa ob pm cd dc dv kv h1 h2 h3 h4 hmg hgn args vals as hpre hlay hrd hwl hlo
  obtain ⟨a, e1, e2⟩ := PySem.W.os_pre_some hpre
  obtain ⟨e3, hwi⟩ := Codec.encAll_of_decAll r.args args a e1
  subst e3
  obtain ⟨K, cs, KX, tb, tn, tc, fd, hbd, hFn⟩ := Fk wd mg fa _ Yh Gr.T.g hmg
  refine PySem.W.enter_call (codeAny_mono (call_tabs (R := []) (cl := classAt sa.heap) (d0 := r.ret.enc (Codec.app r.args r.f a)) KX Gr.T.g Gr.T.b Gr.T.builtins Gr.T.nolimit hgn tb tn tc Gr.T.bmain hwl (pl_encAll _ _) (layable_weight hlay) room hFn hbd
    (by rw [encAll_len]; exact len) (fun H xs hH hS => say K cs H xs a hH hwi hS) fun H e s' => no H sb e s') fun rr s' hq => ?_)
  obtain ⟨u, as', rfl, i1, i2, i3, i4⟩ := hq
  exact ⟨.inl ⟨u, _, as', rfl, fun _ => rfl, i1, (PySem.W.OpenSpec.post_iff well hwi _ _).mpr rfl, fun y => Bool.noConfusion (show false = true from y)⟩, i2, i3, i4⟩
end HC
namespace HC
open PySem PySem.Spec PyProof.Rows L2
def top (i : Nat) : Stmt := PySem.Challenge.pw_heraldcoats_s01_check.main.body.getD i (.Pass ⟨0, 0, 0, 0⟩)
abbrev s_Plain_init : Stmt := inClass (top 12) 0
abbrev s_Parted_init : Stmt := inClass (top 13) 0
abbrev s_Varied_init : Stmt := inClass (top 14) 0
abbrev s_Ordinary_init : Stmt := inClass (top 15) 0
abbrev s_Group_init : Stmt := inClass (top 16) 0
abbrev s_Arms_init : Stmt := inClass (top 17) 0
abbrev s_Mark_init : Stmt := inClass (top 18) 0
abbrev s_Marked_init : Stmt := inClass (top 19) 0
abbrev s_Quarterly_init : Stmt := inClass (top 20) 0
abbrev s_Impaled_init : Stmt := inClass (top 21) 0
abbrev s_Pretence_init : Stmt := inClass (top 22) 0
abbrev s_Reader_init : Stmt := inClass (top 32) 0
abbrev s_Reader_take : Stmt := inClass (top 32) 1
abbrev s_Reader_take_tincture_beside : Stmt := inClass (top 32) 2
abbrev s_Reader_at_end : Stmt := inClass (top 32) 3
abbrev s_Misplaced_init : Stmt := inClass (top 31) 0
abbrev s_take_field : Stmt := top 33
abbrev s_take_parted : Stmt := top 34
abbrev s_take_varied : Stmt := top 35
abbrev s_take_fill : Stmt := top 36
abbrev s_take_layer : Stmt := top 37
abbrev s_take_arms : Stmt := top 38
abbrev s_take_marks : Stmt := top 39
abbrev s_take_marked : Stmt := top 40
abbrev s_take_coat : Stmt := top 41
abbrev s_take_quarterly : Stmt := top 42
abbrev s_decode : Stmt := top 43
abbrev s_answered : Stmt := top 45
abbrev s_check : Stmt := top 46
/-- where the top has laid what the walk asks for -/
structure Ad where
  cPlain : Addr
  mPlain_init : Addr
  cParted : Addr
  mParted_init : Addr
  cVaried : Addr
  mVaried_init : Addr
  cOrdinary : Addr
  mOrdinary_init : Addr
  cGroup : Addr
  mGroup_init : Addr
  cArms : Addr
  mArms_init : Addr
  cMark : Addr
  mMark_init : Addr
  cMarked : Addr
  mMarked_init : Addr
  cQuarterly : Addr
  mQuarterly_init : Addr
  cImpaled : Addr
  mImpaled_init : Addr
  cPretence : Addr
  mPretence_init : Addr
  cReader : Addr
  mReader_init : Addr
  mReader_take : Addr
  mReader_take_tincture_beside : Addr
  mReader_at_end : Addr
  xMisplaced : Addr
  xiMisplaced : Addr
  f_take_field : Addr
  f_take_parted : Addr
  f_take_varied : Addr
  f_take_fill : Addr
  f_take_layer : Addr
  f_take_arms : Addr
  f_take_marks : Addr
  f_take_marked : Addr
  f_take_coat : Addr
  f_take_quarterly : Addr
  f_decode : Addr
  f_answered : Addr
  f_check : Addr
  c_check : Addr
  t_check : Addr
/-- what the top has written -/
structure Txt (K : PySem.W.Frag) (mg : Str → Option Value) (d : Ad) : Prop where
  kPlain : ClsT K mg "Plain" "Plain.__init__" d.cPlain d.mPlain_init ["tincture"] s_Plain_init ["self", "tincture"]
  kParted : ClsT K mg "Parted" "Parted.__init__" d.cParted d.mParted_init ["way", "line", "first", "second"] s_Parted_init ["self", "way", "line", "first", "second"]
  kVaried : ClsT K mg "Varied" "Varied.__init__" d.cVaried d.mVaried_init ["way", "pieces", "line", "first", "second"] s_Varied_init ["self", "way", "pieces", "line", "first", "second"]
  kOrdinary : ClsT K mg "Ordinary" "Ordinary.__init__" d.cOrdinary d.mOrdinary_init ["figure", "line", "fill"] s_Ordinary_init ["self", "figure", "line", "fill"]
  kGroup : ClsT K mg "Group" "Group.__init__" d.cGroup d.mGroup_init ["charge", "many", "manner", "size", "fill"] s_Group_init ["self", "charge", "many", "manner", "size", "fill"]
  kArms : ClsT K mg "Arms" "Arms.__init__" d.cArms d.mArms_init ["field", "layers"] s_Arms_init ["self", "field", "layers"]
  kMark : ClsT K mg "Mark" "Mark.__init__" d.cMark d.mMark_init ["g", "k"] s_Mark_init ["self", "g", "k"]
  kMarked : ClsT K mg "Marked" "Marked.__init__" d.cMarked d.mMarked_init ["arms", "canton", "marks"] s_Marked_init ["self", "arms", "canton", "marks"]
  kQuarterly : ClsT K mg "Quarterly" "Quarterly.__init__" d.cQuarterly d.mQuarterly_init ["coats"] s_Quarterly_init ["self", "coats"]
  kImpaled : ClsT K mg "Impaled" "Impaled.__init__" d.cImpaled d.mImpaled_init ["dexter", "sinister"] s_Impaled_init ["self", "dexter", "sinister"]
  kPretence : ClsT K mg "Pretence" "Pretence.__init__" d.cPretence d.mPretence_init ["below", "upon"] s_Pretence_init ["self", "below", "upon"]
  kReader : ClsT K mg "Reader" "Reader.__init__" d.cReader d.mReader_init ["numbers", "place"] s_Reader_init ["self", "numbers"]
  kReader_take : MetT K d.cReader "take" "Reader.take" s_Reader_take d.mReader_take ["self", "least", "most"]
  kReader_take_tincture_beside : MetT K d.cReader "take_tincture_beside" "Reader.take_tincture_beside" s_Reader_take_tincture_beside d.mReader_take_tincture_beside ["self", "other"]
  kReader_at_end : MetT K d.cReader "at_end" "Reader.at_end" s_Reader_at_end d.mReader_at_end ["self"]
  xMisplaced : PySem.LowX.LowTxt K mg d.xMisplaced d.xiMisplaced
  k_take_field : DefT K mg "take_field" s_take_field d.f_take_field ["reader"]
  k_take_parted : DefT K mg "take_parted" s_take_parted d.f_take_parted ["reader"]
  k_take_varied : DefT K mg "take_varied" s_take_varied d.f_take_varied ["reader"]
  k_take_fill : DefT K mg "take_fill" s_take_fill d.f_take_fill ["reader", "field"]
  k_take_layer : DefT K mg "take_layer" s_take_layer d.f_take_layer ["reader", "field"]
  k_take_arms : DefT K mg "take_arms" s_take_arms d.f_take_arms ["reader"]
  k_take_marks : DefT K mg "take_marks" s_take_marks d.f_take_marks ["reader"]
  k_take_marked : DefT K mg "take_marked" s_take_marked d.f_take_marked ["reader"]
  k_take_coat : DefT K mg "take_coat" s_take_coat d.f_take_coat ["reader", "depth"]
  k_take_quarterly : DefT K mg "take_quarterly" s_take_quarterly d.f_take_quarterly ["reader", "depth"]
  k_decode : DefT K mg "decode" s_decode d.f_decode ["numbers"]
  k_answered : DefT K mg "answered" s_answered d.f_answered ["c", "tell"]
  k_check : DefT K mg "check" s_check d.f_check ["c"]
  m_check : MakT K "check" s_check d.f_check d.c_check d.t_check
  nFEWEST_PIECES : ∃ t, mg "FEWEST_PIECES" = some (.int 2 t)
  nMOST_PIECES : ∃ t, mg "MOST_PIECES" = some (.int 24 t)
  nFIRST_STRAIGHT_WAY : ∃ t, mg "FIRST_STRAIGHT_WAY" = some (.int 5 t)
  nMOST_LAYERS : ∃ t, mg "MOST_LAYERS" = some (.int 8 t)
  nMOST_MARKS : ∃ t, mg "MOST_MARKS" = some (.int 60 t)
  nMOST_G : ∃ t, mg "MOST_G" = some (.int 127 t)
  nLEAST_K : ∃ t, mg "LEAST_K" = some (.int 1 t)
  nMOST_K : ∃ t, mg "MOST_K" = some (.int 255 t)
  nFEWEST_QUARTERS : ∃ t, mg "FEWEST_QUARTERS" = some (.int 2 t)
  nMOST_QUARTERS : ∃ t, mg "MOST_QUARTERS" = some (.int 9 t)
  nMOST_DEEP : ∃ t, mg "MOST_DEEP" = some (.int 4 t)
  nLAST_TINCTURE : ∃ t, mg "LAST_TINCTURE" = some (.int 8 t)
  nLAST_LINE : ∃ t, mg "LAST_LINE" = some (.int 5 t)
  nLAST_PARTED_WAY : ∃ t, mg "LAST_PARTED_WAY" = some (.int 7 t)
  nLAST_VARIED_WAY : ∃ t, mg "LAST_VARIED_WAY" = some (.int 6 t)
  nLAST_ORDINARY : ∃ t, mg "LAST_ORDINARY" = some (.int 12 t)
  nLAST_CHARGE : ∃ t, mg "LAST_CHARGE" = some (.int 15 t)
  nLAST_MANNER : ∃ t, mg "LAST_MANNER" = some (.int 6 t)
  b_len : mg "len" = none
  b_range : mg "range" = none
  b_isinstance : mg "isinstance" = none
  gs : PySem.W.specialIn K (.builtin "object.__class__") "__get__" = some (some (.builtin "getset_descriptor.__get__"))
  tk : PySem.W.takesIn K (.builtin "object.__class__") = some true
  iPlain_Plain : PySem.W.kitOne K (.ref d.cPlain) (.ref d.cPlain) = some true
  iParted_Plain : PySem.W.kitOne K (.ref d.cParted) (.ref d.cPlain) = some false
  iVaried_Plain : PySem.W.kitOne K (.ref d.cVaried) (.ref d.cPlain) = some false
end HC
namespace HC
open PySem PySem.Spec PyProof.Rows L2
section
variable {P : Program} {w : World} {K : PySem.W.Frag} {mg : Str → Option Value} {base : Heap} {d : Ad}
theorem sc_Plain_init : FnScope ["self", "tincture"] ["self", "tincture"] (defScope s_Plain_init) := ⟨rfl, rfl, rfl, by decide +kernel, rfl, by decide +kernel, by decide +kernel⟩
theorem ok_Plain_init (T : Txt K mg d) : OkD P w K mg base CX0 1 d.mPlain_init ["self", "tincture"] (spInit d.cPlain ["tincture"]) := by
  obtain ⟨fd, F, B⟩ := T.kPlain.ini
  refine ⟨⟨fd, F.ok sc_Plain_init (fun vs H Q E h => ?_) (fun cdv A outer s H vs Q E hr h => ?_), B⟩, F.kp⟩
  · obtain ⟨p, dx, as, rfl, hl, _⟩ := h
    rw [List.length_cons, hl]
    rfl
  · obtain ⟨p, dx, as, rfl, hl, hp, k⟩ := h
    match as, hl, k with
    | [a0], _, k =>
    refine ⟨_, pss_one (ps_fld (pv 0) (pv 1) rfl), ?_⟩
    refine ⟨_, rfl, _, rfl, p, d.cPlain, dx, _, rfl, hp, T.kPlain.cl, T.kPlain.no.1, (by decide), ?_⟩
    have e1 : putF "tincture" a0 [] = (["tincture"] : List Str).zip [a0] := rfl
    exact k _ (fun b hb => by rw [upd_ne hb]) (by rw [upd_same, e1])
theorem sc_Parted_init : FnScope ["self", "way", "line", "first", "second"] ["self", "way", "line", "first", "second"] (defScope s_Parted_init) := ⟨rfl, rfl, rfl, by decide +kernel, rfl, by decide +kernel, by decide +kernel⟩
theorem ok_Parted_init (T : Txt K mg d) : OkD P w K mg base CX0 1 d.mParted_init ["self", "way", "line", "first", "second"] (spInit d.cParted ["way", "line", "first", "second"]) := by
  obtain ⟨fd, F, B⟩ := T.kParted.ini
  refine ⟨⟨fd, F.ok sc_Parted_init (fun vs H Q E h => ?_) (fun cdv A outer s H vs Q E hr h => ?_), B⟩, F.kp⟩
  · obtain ⟨p, dx, as, rfl, hl, _⟩ := h
    rw [List.length_cons, hl]
    rfl
  · obtain ⟨p, dx, as, rfl, hl, hp, k⟩ := h
    match as, hl, k with
    | [a0, a1, a2, a3], _, k =>
    refine ⟨_, pss_cons (ps_fld (pv 0) (pv 1) rfl) (pss_cons (ps_fld (pv 0) (pv 2) rfl) (pss_cons (ps_fld (pv 0) (pv 3) rfl) (pss_one (ps_fld (pv 0) (pv 4) rfl)))), ?_⟩
    refine ⟨_, rfl, _, rfl, p, d.cParted, dx, _, rfl, hp, T.kParted.cl, T.kParted.no.1, (by decide), ?_⟩
    have e1 : putF "way" a0 [] = (["way"] : List Str).zip [a0] := rfl
    refine ⟨_, rfl, _, rfl, p, d.cParted, dx, _, rfl, upd_same, T.kParted.cl, T.kParted.no.2.1, (by rw [e1]; show 1 < 1000; decide), ?_⟩
    have e2 : putF "line" a1 (putF "way" a0 []) = (["way", "line"] : List Str).zip [a0, a1] := by
      rw [e1, put_new _ _ _ _ rfl (by decide +kernel)]
      rfl
    refine ⟨_, rfl, _, rfl, p, d.cParted, dx, _, rfl, upd_same, T.kParted.cl, T.kParted.no.2.2.1, (by rw [e2]; show 2 < 1000; decide), ?_⟩
    have e3 : putF "first" a2 (putF "line" a1 (putF "way" a0 [])) = (["way", "line", "first"] : List Str).zip [a0, a1, a2] := by
      rw [e2, put_new _ _ _ _ rfl (by decide +kernel)]
      rfl
    refine ⟨_, rfl, _, rfl, p, d.cParted, dx, _, rfl, upd_same, T.kParted.cl, T.kParted.no.2.2.2.1, (by rw [e3]; show 3 < 1000; decide), ?_⟩
    have e4 : putF "second" a3 (putF "first" a2 (putF "line" a1 (putF "way" a0 []))) = (["way", "line", "first", "second"] : List Str).zip [a0, a1, a2, a3] := by
      rw [e3, put_new _ _ _ _ rfl (by decide +kernel)]
      rfl
    exact k _ (fun b hb => by rw [upd_ne hb, upd_ne hb, upd_ne hb, upd_ne hb]) (by rw [upd_same, e4])
theorem sc_Varied_init : FnScope ["self", "way", "pieces", "line", "first", "second"] ["self", "way", "pieces", "line", "first", "second"] (defScope s_Varied_init) := ⟨rfl, rfl, rfl, by decide +kernel, rfl, by decide +kernel, by decide +kernel⟩
theorem ok_Varied_init (T : Txt K mg d) : OkD P w K mg base CX0 1 d.mVaried_init ["self", "way", "pieces", "line", "first", "second"] (spInit d.cVaried ["way", "pieces", "line", "first", "second"]) := by
  obtain ⟨fd, F, B⟩ := T.kVaried.ini
  refine ⟨⟨fd, F.ok sc_Varied_init (fun vs H Q E h => ?_) (fun cdv A outer s H vs Q E hr h => ?_), B⟩, F.kp⟩
  · obtain ⟨p, dx, as, rfl, hl, _⟩ := h
    rw [List.length_cons, hl]
    rfl
  · obtain ⟨p, dx, as, rfl, hl, hp, k⟩ := h
    match as, hl, k with
    | [a0, a1, a2, a3, a4], _, k =>
    refine ⟨_, pss_cons (ps_fld (pv 0) (pv 1) rfl) (pss_cons (ps_fld (pv 0) (pv 2) rfl) (pss_cons (ps_fld (pv 0) (pv 3) rfl) (pss_cons (ps_fld (pv 0) (pv 4) rfl) (pss_one (ps_fld (pv 0) (pv 5) rfl))))), ?_⟩
    refine ⟨_, rfl, _, rfl, p, d.cVaried, dx, _, rfl, hp, T.kVaried.cl, T.kVaried.no.1, (by decide), ?_⟩
    have e1 : putF "way" a0 [] = (["way"] : List Str).zip [a0] := rfl
    refine ⟨_, rfl, _, rfl, p, d.cVaried, dx, _, rfl, upd_same, T.kVaried.cl, T.kVaried.no.2.1, (by rw [e1]; show 1 < 1000; decide), ?_⟩
    have e2 : putF "pieces" a1 (putF "way" a0 []) = (["way", "pieces"] : List Str).zip [a0, a1] := by
      rw [e1, put_new _ _ _ _ rfl (by decide +kernel)]
      rfl
    refine ⟨_, rfl, _, rfl, p, d.cVaried, dx, _, rfl, upd_same, T.kVaried.cl, T.kVaried.no.2.2.1, (by rw [e2]; show 2 < 1000; decide), ?_⟩
    have e3 : putF "line" a2 (putF "pieces" a1 (putF "way" a0 [])) = (["way", "pieces", "line"] : List Str).zip [a0, a1, a2] := by
      rw [e2, put_new _ _ _ _ rfl (by decide +kernel)]
      rfl
    refine ⟨_, rfl, _, rfl, p, d.cVaried, dx, _, rfl, upd_same, T.kVaried.cl, T.kVaried.no.2.2.2.1, (by rw [e3]; show 3 < 1000; decide), ?_⟩
    have e4 : putF "first" a3 (putF "line" a2 (putF "pieces" a1 (putF "way" a0 []))) = (["way", "pieces", "line", "first"] : List Str).zip [a0, a1, a2, a3] := by
      rw [e3, put_new _ _ _ _ rfl (by decide +kernel)]
      rfl
    refine ⟨_, rfl, _, rfl, p, d.cVaried, dx, _, rfl, upd_same, T.kVaried.cl, T.kVaried.no.2.2.2.2.1, (by rw [e4]; show 4 < 1000; decide), ?_⟩
    have e5 : putF "second" a4 (putF "first" a3 (putF "line" a2 (putF "pieces" a1 (putF "way" a0 [])))) = (["way", "pieces", "line", "first", "second"] : List Str).zip [a0, a1, a2, a3, a4] := by
      rw [e4, put_new _ _ _ _ rfl (by decide +kernel)]
      rfl
    exact k _ (fun b hb => by rw [upd_ne hb, upd_ne hb, upd_ne hb, upd_ne hb, upd_ne hb]) (by rw [upd_same, e5])
theorem sc_Ordinary_init : FnScope ["self", "figure", "line", "fill"] ["self", "figure", "line", "fill"] (defScope s_Ordinary_init) := ⟨rfl, rfl, rfl, by decide +kernel, rfl, by decide +kernel, by decide +kernel⟩
theorem ok_Ordinary_init (T : Txt K mg d) : OkD P w K mg base CX0 1 d.mOrdinary_init ["self", "figure", "line", "fill"] (spInit d.cOrdinary ["figure", "line", "fill"]) := by
  obtain ⟨fd, F, B⟩ := T.kOrdinary.ini
  refine ⟨⟨fd, F.ok sc_Ordinary_init (fun vs H Q E h => ?_) (fun cdv A outer s H vs Q E hr h => ?_), B⟩, F.kp⟩
  · obtain ⟨p, dx, as, rfl, hl, _⟩ := h
    rw [List.length_cons, hl]
    rfl
  · obtain ⟨p, dx, as, rfl, hl, hp, k⟩ := h
    match as, hl, k with
    | [a0, a1, a2], _, k =>
    refine ⟨_, pss_cons (ps_fld (pv 0) (pv 1) rfl) (pss_cons (ps_fld (pv 0) (pv 2) rfl) (pss_one (ps_fld (pv 0) (pv 3) rfl))), ?_⟩
    refine ⟨_, rfl, _, rfl, p, d.cOrdinary, dx, _, rfl, hp, T.kOrdinary.cl, T.kOrdinary.no.1, (by decide), ?_⟩
    have e1 : putF "figure" a0 [] = (["figure"] : List Str).zip [a0] := rfl
    refine ⟨_, rfl, _, rfl, p, d.cOrdinary, dx, _, rfl, upd_same, T.kOrdinary.cl, T.kOrdinary.no.2.1, (by rw [e1]; show 1 < 1000; decide), ?_⟩
    have e2 : putF "line" a1 (putF "figure" a0 []) = (["figure", "line"] : List Str).zip [a0, a1] := by
      rw [e1, put_new _ _ _ _ rfl (by decide +kernel)]
      rfl
    refine ⟨_, rfl, _, rfl, p, d.cOrdinary, dx, _, rfl, upd_same, T.kOrdinary.cl, T.kOrdinary.no.2.2.1, (by rw [e2]; show 2 < 1000; decide), ?_⟩
    have e3 : putF "fill" a2 (putF "line" a1 (putF "figure" a0 [])) = (["figure", "line", "fill"] : List Str).zip [a0, a1, a2] := by
      rw [e2, put_new _ _ _ _ rfl (by decide +kernel)]
      rfl
    exact k _ (fun b hb => by rw [upd_ne hb, upd_ne hb, upd_ne hb]) (by rw [upd_same, e3])
theorem sc_Group_init : FnScope ["self", "charge", "many", "manner", "size", "fill"] ["self", "charge", "many", "manner", "size", "fill"] (defScope s_Group_init) := ⟨rfl, rfl, rfl, by decide +kernel, rfl, by decide +kernel, by decide +kernel⟩
theorem ok_Group_init (T : Txt K mg d) : OkD P w K mg base CX0 1 d.mGroup_init ["self", "charge", "many", "manner", "size", "fill"] (spInit d.cGroup ["charge", "many", "manner", "size", "fill"]) := by
  obtain ⟨fd, F, B⟩ := T.kGroup.ini
  refine ⟨⟨fd, F.ok sc_Group_init (fun vs H Q E h => ?_) (fun cdv A outer s H vs Q E hr h => ?_), B⟩, F.kp⟩
  · obtain ⟨p, dx, as, rfl, hl, _⟩ := h
    rw [List.length_cons, hl]
    rfl
  · obtain ⟨p, dx, as, rfl, hl, hp, k⟩ := h
    match as, hl, k with
    | [a0, a1, a2, a3, a4], _, k =>
    refine ⟨_, pss_cons (ps_fld (pv 0) (pv 1) rfl) (pss_cons (ps_fld (pv 0) (pv 2) rfl) (pss_cons (ps_fld (pv 0) (pv 3) rfl) (pss_cons (ps_fld (pv 0) (pv 4) rfl) (pss_one (ps_fld (pv 0) (pv 5) rfl))))), ?_⟩
    refine ⟨_, rfl, _, rfl, p, d.cGroup, dx, _, rfl, hp, T.kGroup.cl, T.kGroup.no.1, (by decide), ?_⟩
    have e1 : putF "charge" a0 [] = (["charge"] : List Str).zip [a0] := rfl
    refine ⟨_, rfl, _, rfl, p, d.cGroup, dx, _, rfl, upd_same, T.kGroup.cl, T.kGroup.no.2.1, (by rw [e1]; show 1 < 1000; decide), ?_⟩
    have e2 : putF "many" a1 (putF "charge" a0 []) = (["charge", "many"] : List Str).zip [a0, a1] := by
      rw [e1, put_new _ _ _ _ rfl (by decide +kernel)]
      rfl
    refine ⟨_, rfl, _, rfl, p, d.cGroup, dx, _, rfl, upd_same, T.kGroup.cl, T.kGroup.no.2.2.1, (by rw [e2]; show 2 < 1000; decide), ?_⟩
    have e3 : putF "manner" a2 (putF "many" a1 (putF "charge" a0 [])) = (["charge", "many", "manner"] : List Str).zip [a0, a1, a2] := by
      rw [e2, put_new _ _ _ _ rfl (by decide +kernel)]
      rfl
    refine ⟨_, rfl, _, rfl, p, d.cGroup, dx, _, rfl, upd_same, T.kGroup.cl, T.kGroup.no.2.2.2.1, (by rw [e3]; show 3 < 1000; decide), ?_⟩
    have e4 : putF "size" a3 (putF "manner" a2 (putF "many" a1 (putF "charge" a0 []))) = (["charge", "many", "manner", "size"] : List Str).zip [a0, a1, a2, a3] := by
      rw [e3, put_new _ _ _ _ rfl (by decide +kernel)]
      rfl
    refine ⟨_, rfl, _, rfl, p, d.cGroup, dx, _, rfl, upd_same, T.kGroup.cl, T.kGroup.no.2.2.2.2.1, (by rw [e4]; show 4 < 1000; decide), ?_⟩
    have e5 : putF "fill" a4 (putF "size" a3 (putF "manner" a2 (putF "many" a1 (putF "charge" a0 [])))) = (["charge", "many", "manner", "size", "fill"] : List Str).zip [a0, a1, a2, a3, a4] := by
      rw [e4, put_new _ _ _ _ rfl (by decide +kernel)]
      rfl
    exact k _ (fun b hb => by rw [upd_ne hb, upd_ne hb, upd_ne hb, upd_ne hb, upd_ne hb]) (by rw [upd_same, e5])
theorem sc_Arms_init : FnScope ["self", "field", "layers"] ["self", "field", "layers"] (defScope s_Arms_init) := ⟨rfl, rfl, rfl, by decide +kernel, rfl, by decide +kernel, by decide +kernel⟩
theorem ok_Arms_init (T : Txt K mg d) : OkD P w K mg base CX0 1 d.mArms_init ["self", "field", "layers"] (spInit d.cArms ["field", "layers"]) := by
  obtain ⟨fd, F, B⟩ := T.kArms.ini
  refine ⟨⟨fd, F.ok sc_Arms_init (fun vs H Q E h => ?_) (fun cdv A outer s H vs Q E hr h => ?_), B⟩, F.kp⟩
  · obtain ⟨p, dx, as, rfl, hl, _⟩ := h
    rw [List.length_cons, hl]
    rfl
  · obtain ⟨p, dx, as, rfl, hl, hp, k⟩ := h
    match as, hl, k with
    | [a0, a1], _, k =>
    refine ⟨_, pss_cons (ps_fld (pv 0) (pv 1) rfl) (pss_one (ps_fld (pv 0) (pv 2) rfl)), ?_⟩
    refine ⟨_, rfl, _, rfl, p, d.cArms, dx, _, rfl, hp, T.kArms.cl, T.kArms.no.1, (by decide), ?_⟩
    have e1 : putF "field" a0 [] = (["field"] : List Str).zip [a0] := rfl
    refine ⟨_, rfl, _, rfl, p, d.cArms, dx, _, rfl, upd_same, T.kArms.cl, T.kArms.no.2.1, (by rw [e1]; show 1 < 1000; decide), ?_⟩
    have e2 : putF "layers" a1 (putF "field" a0 []) = (["field", "layers"] : List Str).zip [a0, a1] := by
      rw [e1, put_new _ _ _ _ rfl (by decide +kernel)]
      rfl
    exact k _ (fun b hb => by rw [upd_ne hb, upd_ne hb]) (by rw [upd_same, e2])
theorem sc_Mark_init : FnScope ["self", "g", "k"] ["self", "g", "k"] (defScope s_Mark_init) := ⟨rfl, rfl, rfl, by decide +kernel, rfl, by decide +kernel, by decide +kernel⟩
theorem ok_Mark_init (T : Txt K mg d) : OkD P w K mg base CX0 1 d.mMark_init ["self", "g", "k"] (spInit d.cMark ["g", "k"]) := by
  obtain ⟨fd, F, B⟩ := T.kMark.ini
  refine ⟨⟨fd, F.ok sc_Mark_init (fun vs H Q E h => ?_) (fun cdv A outer s H vs Q E hr h => ?_), B⟩, F.kp⟩
  · obtain ⟨p, dx, as, rfl, hl, _⟩ := h
    rw [List.length_cons, hl]
    rfl
  · obtain ⟨p, dx, as, rfl, hl, hp, k⟩ := h
    match as, hl, k with
    | [a0, a1], _, k =>
    refine ⟨_, pss_cons (ps_fld (pv 0) (pv 1) rfl) (pss_one (ps_fld (pv 0) (pv 2) rfl)), ?_⟩
    refine ⟨_, rfl, _, rfl, p, d.cMark, dx, _, rfl, hp, T.kMark.cl, T.kMark.no.1, (by decide), ?_⟩
    have e1 : putF "g" a0 [] = (["g"] : List Str).zip [a0] := rfl
    refine ⟨_, rfl, _, rfl, p, d.cMark, dx, _, rfl, upd_same, T.kMark.cl, T.kMark.no.2.1, (by rw [e1]; show 1 < 1000; decide), ?_⟩
    have e2 : putF "k" a1 (putF "g" a0 []) = (["g", "k"] : List Str).zip [a0, a1] := by
      rw [e1, put_new _ _ _ _ rfl (by decide +kernel)]
      rfl
    exact k _ (fun b hb => by rw [upd_ne hb, upd_ne hb]) (by rw [upd_same, e2])
theorem sc_Marked_init : FnScope ["self", "arms", "canton", "marks"] ["self", "arms", "canton", "marks"] (defScope s_Marked_init) := ⟨rfl, rfl, rfl, by decide +kernel, rfl, by decide +kernel, by decide +kernel⟩
theorem ok_Marked_init (T : Txt K mg d) : OkD P w K mg base CX0 1 d.mMarked_init ["self", "arms", "canton", "marks"] (spInit d.cMarked ["arms", "canton", "marks"]) := by
  obtain ⟨fd, F, B⟩ := T.kMarked.ini
  refine ⟨⟨fd, F.ok sc_Marked_init (fun vs H Q E h => ?_) (fun cdv A outer s H vs Q E hr h => ?_), B⟩, F.kp⟩
  · obtain ⟨p, dx, as, rfl, hl, _⟩ := h
    rw [List.length_cons, hl]
    rfl
  · obtain ⟨p, dx, as, rfl, hl, hp, k⟩ := h
    match as, hl, k with
    | [a0, a1, a2], _, k =>
    refine ⟨_, pss_cons (ps_fld (pv 0) (pv 1) rfl) (pss_cons (ps_fld (pv 0) (pv 2) rfl) (pss_one (ps_fld (pv 0) (pv 3) rfl))), ?_⟩
    refine ⟨_, rfl, _, rfl, p, d.cMarked, dx, _, rfl, hp, T.kMarked.cl, T.kMarked.no.1, (by decide), ?_⟩
    have e1 : putF "arms" a0 [] = (["arms"] : List Str).zip [a0] := rfl
    refine ⟨_, rfl, _, rfl, p, d.cMarked, dx, _, rfl, upd_same, T.kMarked.cl, T.kMarked.no.2.1, (by rw [e1]; show 1 < 1000; decide), ?_⟩
    have e2 : putF "canton" a1 (putF "arms" a0 []) = (["arms", "canton"] : List Str).zip [a0, a1] := by
      rw [e1, put_new _ _ _ _ rfl (by decide +kernel)]
      rfl
    refine ⟨_, rfl, _, rfl, p, d.cMarked, dx, _, rfl, upd_same, T.kMarked.cl, T.kMarked.no.2.2.1, (by rw [e2]; show 2 < 1000; decide), ?_⟩
    have e3 : putF "marks" a2 (putF "canton" a1 (putF "arms" a0 [])) = (["arms", "canton", "marks"] : List Str).zip [a0, a1, a2] := by
      rw [e2, put_new _ _ _ _ rfl (by decide +kernel)]
      rfl
    exact k _ (fun b hb => by rw [upd_ne hb, upd_ne hb, upd_ne hb]) (by rw [upd_same, e3])
theorem sc_Quarterly_init : FnScope ["self", "coats"] ["self", "coats"] (defScope s_Quarterly_init) := ⟨rfl, rfl, rfl, by decide +kernel, rfl, by decide +kernel, by decide +kernel⟩
theorem ok_Quarterly_init (T : Txt K mg d) : OkD P w K mg base CX0 1 d.mQuarterly_init ["self", "coats"] (spInit d.cQuarterly ["coats"]) := by
  obtain ⟨fd, F, B⟩ := T.kQuarterly.ini
  refine ⟨⟨fd, F.ok sc_Quarterly_init (fun vs H Q E h => ?_) (fun cdv A outer s H vs Q E hr h => ?_), B⟩, F.kp⟩
  · obtain ⟨p, dx, as, rfl, hl, _⟩ := h
    rw [List.length_cons, hl]
    rfl
  · obtain ⟨p, dx, as, rfl, hl, hp, k⟩ := h
    match as, hl, k with
    | [a0], _, k =>
    refine ⟨_, pss_one (ps_fld (pv 0) (pv 1) rfl), ?_⟩
    refine ⟨_, rfl, _, rfl, p, d.cQuarterly, dx, _, rfl, hp, T.kQuarterly.cl, T.kQuarterly.no.1, (by decide), ?_⟩
    have e1 : putF "coats" a0 [] = (["coats"] : List Str).zip [a0] := rfl
    exact k _ (fun b hb => by rw [upd_ne hb]) (by rw [upd_same, e1])
theorem sc_Impaled_init : FnScope ["self", "dexter", "sinister"] ["self", "dexter", "sinister"] (defScope s_Impaled_init) := ⟨rfl, rfl, rfl, by decide +kernel, rfl, by decide +kernel, by decide +kernel⟩
theorem ok_Impaled_init (T : Txt K mg d) : OkD P w K mg base CX0 1 d.mImpaled_init ["self", "dexter", "sinister"] (spInit d.cImpaled ["dexter", "sinister"]) := by
  obtain ⟨fd, F, B⟩ := T.kImpaled.ini
  refine ⟨⟨fd, F.ok sc_Impaled_init (fun vs H Q E h => ?_) (fun cdv A outer s H vs Q E hr h => ?_), B⟩, F.kp⟩
  · obtain ⟨p, dx, as, rfl, hl, _⟩ := h
    rw [List.length_cons, hl]
    rfl
  · obtain ⟨p, dx, as, rfl, hl, hp, k⟩ := h
    match as, hl, k with
    | [a0, a1], _, k =>
    refine ⟨_, pss_cons (ps_fld (pv 0) (pv 1) rfl) (pss_one (ps_fld (pv 0) (pv 2) rfl)), ?_⟩
    refine ⟨_, rfl, _, rfl, p, d.cImpaled, dx, _, rfl, hp, T.kImpaled.cl, T.kImpaled.no.1, (by decide), ?_⟩
    have e1 : putF "dexter" a0 [] = (["dexter"] : List Str).zip [a0] := rfl
    refine ⟨_, rfl, _, rfl, p, d.cImpaled, dx, _, rfl, upd_same, T.kImpaled.cl, T.kImpaled.no.2.1, (by rw [e1]; show 1 < 1000; decide), ?_⟩
    have e2 : putF "sinister" a1 (putF "dexter" a0 []) = (["dexter", "sinister"] : List Str).zip [a0, a1] := by
      rw [e1, put_new _ _ _ _ rfl (by decide +kernel)]
      rfl
    exact k _ (fun b hb => by rw [upd_ne hb, upd_ne hb]) (by rw [upd_same, e2])
theorem sc_Pretence_init : FnScope ["self", "below", "upon"] ["self", "below", "upon"] (defScope s_Pretence_init) := ⟨rfl, rfl, rfl, by decide +kernel, rfl, by decide +kernel, by decide +kernel⟩
theorem ok_Pretence_init (T : Txt K mg d) : OkD P w K mg base CX0 1 d.mPretence_init ["self", "below", "upon"] (spInit d.cPretence ["below", "upon"]) := by
  obtain ⟨fd, F, B⟩ := T.kPretence.ini
  refine ⟨⟨fd, F.ok sc_Pretence_init (fun vs H Q E h => ?_) (fun cdv A outer s H vs Q E hr h => ?_), B⟩, F.kp⟩
  · obtain ⟨p, dx, as, rfl, hl, _⟩ := h
    rw [List.length_cons, hl]
    rfl
  · obtain ⟨p, dx, as, rfl, hl, hp, k⟩ := h
    match as, hl, k with
    | [a0, a1], _, k =>
    refine ⟨_, pss_cons (ps_fld (pv 0) (pv 1) rfl) (pss_one (ps_fld (pv 0) (pv 2) rfl)), ?_⟩
    refine ⟨_, rfl, _, rfl, p, d.cPretence, dx, _, rfl, hp, T.kPretence.cl, T.kPretence.no.1, (by decide), ?_⟩
    have e1 : putF "below" a0 [] = (["below"] : List Str).zip [a0] := rfl
    refine ⟨_, rfl, _, rfl, p, d.cPretence, dx, _, rfl, upd_same, T.kPretence.cl, T.kPretence.no.2.1, (by rw [e1]; show 1 < 1000; decide), ?_⟩
    have e2 : putF "upon" a1 (putF "below" a0 []) = (["below", "upon"] : List Str).zip [a0, a1] := by
      rw [e1, put_new _ _ _ _ rfl (by decide +kernel)]
      rfl
    exact k _ (fun b hb => by rw [upd_ne hb, upd_ne hb]) (by rw [upd_same, e2])
end
end HC
namespace HC
open PySem PySem.Spec PyProof.Rows L2
/-! ### how what is read stands in the heap. H0: the heap ahead; all of it is new there -/
/-- objects that are new behind H0 stay -/
structure Mv (H0 H H0' H' : Hp) : Prop where
  nw : ∀ b, H0 b = none → H0' b = none
  st : ∀ b o, H0 b = none → H b = some o → H' b = some o
inductive All2 {α : Type} (R : V → α → Prop) : List V → List α → Prop where
  | nil : All2 R [] []
  | cons {v : V} {x : α} {vs : List V} {xs : List α} (h : R v x) (t : All2 R vs xs) : All2 R (v :: vs) (x :: xs)
theorem All2.snoc {α : Type} {R : V → α → Prop} {v : V} {x : α} {vs : List V} {xs : List α} (t : All2 R vs xs) (h : R v x) : All2 R (vs ++ [v]) (xs ++ [x]) := by
  induction t with
  | nil => exact .cons h .nil
  | cons h' _ ih => exact .cons h' ih
theorem All2.mono {α : Type} {R R' : V → α → Prop} {vs : List V} {xs : List α} (t : All2 R vs xs) (f : ∀ v x, R v x → R' v x) : All2 R' vs xs := by
  induction t with
  | nil => exact .nil
  | cons h' _ ih => exact .cons (f _ _ h') ih
theorem All2.length {α : Type} {R : V → α → Prop} {vs : List V} {xs : List α} (t : All2 R vs xs) : vs.length = xs.length := by
  induction t with
  | nil => rfl
  | cons _ _ ih => rw [List.length_cons, List.length_cons, ih]
/-- an object of the class C with these attributes -/
def Obj1 (C : Addr) (ns : List Str) (as : List V) (H0 H : Hp) (v : V) : Prop := ∃ b dx, v = .ref b ∧ H0 b = none ∧ H b = some (.ins C dx (ns.zip as))
theorem Obj1.mv {C : Addr} {ns : List Str} {as : List V} {H0 H H0' H' : Hp} {v : V} (h : Obj1 C ns as H0 H v) (m : Mv H0 H H0' H') : Obj1 C ns as H0' H' v := by
  obtain ⟨b, dx, e, n, o⟩ := h
  exact ⟨b, dx, e, m.nw b n, m.st b _ n o⟩
/-- a list of these values -/
def Lst1 (vs : List V) (H0 H : Hp) (l : Addr) : Prop := H0 l = none ∧ H l = some (.lst vs)
theorem Lst1.mv {vs : List V} {H0 H H0' H' : Hp} {l : Addr} (h : Lst1 vs H0 H l) (m : Mv H0 H H0' H') : Lst1 vs H0' H' l := ⟨m.nw l h.1, m.st l _ h.1 h.2⟩
abbrev vN (n : Nat) : V := .int (n : Int)
def RNat (_ _ : Hp) (v : V) (n : Nat) : Prop := v = vN n
def RField (d : Ad) (H0 H : Hp) (v : V) : Sh.Field → Prop
  | .plain t => Obj1 d.cPlain ["tincture"] [vN t] H0 H v
  | .parted w l a b => Obj1 d.cParted ["way", "line", "first", "second"] [vN w, vN l, vN a, vN b] H0 H v
  | .varied w n l a b => Obj1 d.cVaried ["way", "pieces", "line", "first", "second"] [vN w, vN n, vN l, vN a, vN b] H0 H v
theorem RField.mv {d : Ad} {H0 H H0' H' : Hp} {v : V} {f : Sh.Field} (h : RField d H0 H v f) (m : Mv H0 H H0' H') : RField d H0' H' v f := by
  cases f <;> exact Obj1.mv h m
/-- a field is an object: objects that stay keep it -/
theorem RField.ins {d : Ad} {H0 H H' : Hp} {v : V} {f : Sh.Field} (h : RField d H0 H v f) (k : ∀ b C dx fs, H0 b = none → H b = some (.ins C dx fs) → H' b = some (.ins C dx fs)) : RField d H0 H' v f := by
  cases f <;> exact let ⟨b, dx, e, n, o⟩ := h; ⟨b, dx, e, n, k b _ _ _ n o⟩
def RFill (d : Ad) (H0 H : Hp) (v : V) : Sh.Fill → Prop
  | .solid f => RField d H0 H v f
  | .counter => v = .non
theorem RFill.mv {d : Ad} {H0 H H0' H' : Hp} {v : V} {f : Sh.Fill} (h : RFill d H0 H v f) (m : Mv H0 H H0' H') : RFill d H0' H' v f := by
  cases f with
  | solid f => exact RField.mv h m
  | counter => exact h
def RLayer (d : Ad) (H0 H : Hp) (v : V) : Sh.Layer → Prop
  | .ord o l f => ∃ u, Obj1 d.cOrdinary ["figure", "line", "fill"] [vN o, vN l, u] H0 H v ∧ RFill d H0 H u f
  | .group c n m s f => ∃ u, Obj1 d.cGroup ["charge", "many", "manner", "size", "fill"] [vN c, vN n, vN m, vN s, u] H0 H v ∧ RFill d H0 H u f
theorem RLayer.mv {d : Ad} {H0 H H0' H' : Hp} {v : V} {f : Sh.Layer} (h : RLayer d H0 H v f) (m : Mv H0 H H0' H') : RLayer d H0' H' v f := by
  cases f <;> exact let ⟨u, h1, h2⟩ := h; ⟨u, h1.mv m, h2.mv m⟩
def RArms (d : Ad) (H0 H : Hp) (v : V) (a : Sh.Arms) : Prop := ∃ u l us, Obj1 d.cArms ["field", "layers"] [u, .ref l] H0 H v ∧ RField d H0 H u a.field ∧ Lst1 us H0 H l ∧ All2 (RLayer d H0 H) us a.layers
theorem RArms.mv {d : Ad} {H0 H H0' H' : Hp} {v : V} {a : Sh.Arms} (h : RArms d H0 H v a) (m : Mv H0 H H0' H') : RArms d H0' H' v a := by
  obtain ⟨u, l, us, h1, h2, h3, h4⟩ := h
  exact ⟨u, l, us, h1.mv m, h2.mv m, h3.mv m, h4.mono fun _ _ z => z.mv m⟩
def ROpt (d : Ad) (H0 H : Hp) (v : V) : Option Sh.Arms → Prop
  | none => v = .non
  | some a => RArms d H0 H v a
theorem ROpt.mv {d : Ad} {H0 H H0' H' : Hp} {v : V} {a : Option Sh.Arms} (h : ROpt d H0 H v a) (m : Mv H0 H H0' H') : ROpt d H0' H' v a := by
  cases a with
  | none => exact h
  | some a => exact RArms.mv h m
def RMark (d : Ad) (H0 H : Hp) (v : V) (x : Nat × Nat) : Prop := Obj1 d.cMark ["g", "k"] [vN x.1, vN x.2] H0 H v
theorem RMark.mv {d : Ad} {H0 H H0' H' : Hp} {v : V} {x : Nat × Nat} (h : RMark d H0 H v x) (m : Mv H0 H H0' H') : RMark d H0' H' v x := Obj1.mv h m
/-- a list of things -/
def RList {α : Type} (R : Hp → Hp → V → α → Prop) (H0 H : Hp) (v : V) (xs : List α) : Prop := ∃ l us, v = .ref l ∧ Lst1 us H0 H l ∧ All2 (R H0 H) us xs
def RMarks (d : Ad) : Hp → Hp → V → List (Nat × Nat) → Prop := RList (RMark d)
theorem RMarks.mv {d : Ad} {H0 H H0' H' : Hp} {v : V} {x : List (Nat × Nat)} (h : RMarks d H0 H v x) (m : Mv H0 H H0' H') : RMarks d H0' H' v x := by
  obtain ⟨l, us, e, h1, h2⟩ := h
  exact ⟨l, us, e, h1.mv m, h2.mono fun _ _ z => z.mv m⟩
def RMarked (d : Ad) (H0 H : Hp) (v : V) (x : ShMarsh.Marked) : Prop := ∃ u c k, Obj1 d.cMarked ["arms", "canton", "marks"] [u, c, k] H0 H v ∧ RArms d H0 H u x.arms ∧ ROpt d H0 H c x.canton ∧ RMarks d H0 H k x.marks
theorem RMarked.mv {d : Ad} {H0 H H0' H' : Hp} {v : V} {x : ShMarsh.Marked} (h : RMarked d H0 H v x) (m : Mv H0 H H0' H') : RMarked d H0' H' v x := by
  obtain ⟨u, c, k, h1, h2, h3, h4⟩ := h
  exact ⟨u, c, k, h1.mv m, h2.mv m, h3.mv m, h4.mv m⟩
mutual
def RCoat (d : Ad) (H0 H : Hp) : ShMarsh.Coat → V → Prop
  | .one x, v => RMarked d H0 H v x
  | .quarters l, v => ∃ p us, Obj1 d.cQuarterly ["coats"] [.ref p] H0 H v ∧ Lst1 us H0 H p ∧ RCoats d H0 H l us
  | .impaled x y, v => ∃ a b, Obj1 d.cImpaled ["dexter", "sinister"] [a, b] H0 H v ∧ RCoat d H0 H x a ∧ RCoat d H0 H y b
  | .pretence x y, v => ∃ a b, Obj1 d.cPretence ["below", "upon"] [a, b] H0 H v ∧ RCoat d H0 H x a ∧ RCoat d H0 H y b
def RCoats (d : Ad) (H0 H : Hp) : List ShMarsh.Coat → List V → Prop
  | [], us => us = []
  | x :: l, us => ∃ u r, us = u :: r ∧ RCoat d H0 H x u ∧ RCoats d H0 H l r
end
mutual
theorem RCoat.mv {d : Ad} {H0 H H0' H' : Hp} (m : Mv H0 H H0' H') : ∀ (c : ShMarsh.Coat) (v : V), RCoat d H0 H c v → RCoat d H0' H' c v
  | .one x, v, h => RMarked.mv h m
  | .quarters l, v, h => by
    obtain ⟨p, us, h1, h2, h3⟩ := h
    exact ⟨p, us, h1.mv m, h2.mv m, RCoats.mv m l us h3⟩
  | .impaled x y, v, h => by
    obtain ⟨a, b, h1, h2, h3⟩ := h
    exact ⟨a, b, h1.mv m, RCoat.mv m x a h2, RCoat.mv m y b h3⟩
  | .pretence x y, v, h => by
    obtain ⟨a, b, h1, h2, h3⟩ := h
    exact ⟨a, b, h1.mv m, RCoat.mv m x a h2, RCoat.mv m y b h3⟩
theorem RCoats.mv {d : Ad} {H0 H H0' H' : Hp} (m : Mv H0 H H0' H') : ∀ (l : List ShMarsh.Coat) (us : List V), RCoats d H0 H l us → RCoats d H0' H' l us
  | [], us, h => h
  | x :: l, us, h => by
    obtain ⟨u, r, e, h1, h2⟩ := h
    exact ⟨u, r, e, RCoat.mv m x u h1, RCoats.mv m l r h2⟩
end
/-- a coat's standing, the value first -/
def RC (d : Ad) (H0 H : Hp) (v : V) (c : ShMarsh.Coat) : Prop := RCoat d H0 H c v
theorem RC.mv {d : Ad} {H0 H H0' H' : Hp} {v : V} {c : ShMarsh.Coat} (h : RC d H0 H v c) (m : Mv H0 H H0' H') : RC d H0' H' v c := RCoat.mv m c v h
theorem rcoats_of {d : Ad} {H0 H : Hp} {us : List V} {l : List ShMarsh.Coat} (h : All2 (RC d H0 H) us l) : RCoats d H0 H l us := by
  induction h with
  | nil => rfl
  | cons h _ ih => exact ⟨_, _, rfl, h, ih⟩
/-! ### the reader -/
def vals (bs : List UInt8) : List V := bs.map fun b => V.int (b.toNat : Int)
abbrev rdr (d : Ad) (x a : Addr) (p : Nat) : HO := .ins d.cReader x ((["numbers", "place"] : List Str).zip [.ref a, vN p])
/-- the reader at R, at the place p of the bytes bs -/
structure At (K : PySem.W.Frag) (d : Ad) (bs : List UInt8) (a R x : Addr) (H : Hp) (p : Nat) : Prop where
  hR : H R = some (rdr d x a p)
  sq : SqL K H a (vals bs)
  le : p ≤ bs.length
theorem At.step {K : PySem.W.Frag} {d : Ad} {bs : List UInt8} {a R x : Addr} {H H' : Hp} {p q : Nat} (A : At K d bs a R x H p) (k : Keep R H H') (h : H' R = some (rdr d x a q)) (l : q ≤ bs.length) : At K d bs a R x H' q := by
  refine ⟨h, ?_, l⟩
  rcases A.sq with (z | ⟨o, z⟩) | z
  · exact .inl (.inl (k _ _ (ne_of z A.hR (by intro q; cases q)) z))
  · exact .inl (.inr ⟨o, k _ _ (ne_of z A.hR (by intro q; cases q)) z⟩)
  · exact .inr z
/-- an error with its place -/
def Err (d : Ad) (E : XK) (e : Nat) : Prop := ∀ (x : Addr) (H' : Hp), H' x = some (.xd [(("place" : Str), vN e)]) → E (.ref d.xMisplaced) (some x) H'
/-- what a def that takes bytes gives back -/
def Give {α : Type} (d : Ad) (bs : List UInt8) (a R x : Addr) (Rep : Hp → Hp → V → α → Prop) (H : Hp) (Q : VK) (E : XK) : Except Nat (α × Nat × Sh.Bytes) → Prop
  | .error e => Err d E e
  | .ok y => ∀ v H', Keep R H H' → H' R = some (rdr d x a y.2.1) → y.2.1 ≤ bs.length → y.2.2 = bs.drop y.2.1 → Rep H H' v y.1 → Q v H'
/-- a def that is handed the reader, and these values behind it -/
def spRd {α : Type} (K : PySem.W.Frag) (d : Ad) (pre : Hp → List V → (Nat → Sh.Bytes → Except Nat (α × Nat × Sh.Bytes)) → Prop) (Rep : Hp → Hp → V → α → Prop) : Sp := fun vs H Q E =>
  ∃ (R : Addr) (us : List V) (bs : List UInt8) (a x : Addr) (p : Nat) (par : Nat → Sh.Bytes → Except Nat (α × Nat × Sh.Bytes)),
    vs = .ref R :: us ∧ At K d bs a R x H p ∧ pre H us par ∧ Give d bs a R x Rep H Q E (par p (bs.drop p))
theorem Keep.mv {R : Addr} {H H1 H' : Hp} {o : HO} (k : Keep R H H1) (hR : H1 R = some o) : Mv H1 H' H H' := ⟨fun _ h => k.free hR h, fun _ _ _ h => h⟩
theorem Mv.same {H0 H H0' H' H2 : Hp} (m : Mv H0 H H0' H') (s : Same H' H2) : Mv H0 H H0' H2 := ⟨m.nw, fun b o n h => s b o (m.st b o n h)⟩
theorem Mv.here {H0 H H' : Hp} (s : Same H H') : Mv H0 H H0 H' := ⟨fun _ h => h, fun b o _ h => s b o h⟩
/-- further on -/
theorem Give.up {α : Type} {d : Ad} {bs : List UInt8} {a R x : Addr} {Rep : Hp → Hp → V → α → Prop} {H H1 : Hp} {Q : VK} {E : XK} {r : Except Nat (α × Nat × Sh.Bytes)} {o : HO} (k : Keep R H H1) (hR : H1 R = some o)
    (mv : ∀ (H0 H0' H' : Hp) (v : V) (y : α), Mv H0 H' H0' H' → Rep H0 H' v y → Rep H0' H' v y) (g : Give d bs a R x Rep H Q E r) : Give d bs a R x Rep H1 Q E r := by
  cases r with
  | error e => exact g
  | ok y => exact fun v H' k1 h1 l1 g1 t1 => g v H' (k.trans k1) h1 l1 g1 (mv _ _ _ _ _ (k.mv hR) t1)
theorem obj_ne {d : Ad} {H : Hp} {R b x a C dx : Addr} {p : Nat} {ns : List Str} {as : List V} (h : H b = some (.ins C dx (ns.zip as))) (hl : as.length = ns.length) (hn : ns.length ≠ 2) (hR : H R = some (rdr d x a p)) : b ≠ R := by
  refine ne_of h hR fun z => hn ?_
  injection z with _ _ z
  have := congrArg List.length z
  rw [List.length_zip, hl, Nat.min_self] at this
  exact this
/-- a field is no reader: it stays -/
theorem RField.stay {d : Ad} {H0 H H' : Hp} {R x a : Addr} {p : Nat} {v : V} {f : Sh.Field} (h : RField d H0 H v f) (hR : H R = some (rdr d x a p)) (k : Keep R H H') : RField d H0 H' v f := by
  cases f with
  | plain t =>
    obtain ⟨b, dx, e, n, o⟩ := h
    exact ⟨b, dx, e, n, k b _ (obj_ne o rfl (by decide) hR) o⟩
  | parted w l a' c =>
    obtain ⟨b, dx, e, n, o⟩ := h
    exact ⟨b, dx, e, n, k b _ (obj_ne o rfl (by decide) hR) o⟩
  | varied w n' l a' c =>
    obtain ⟨b, dx, e, n, o⟩ := h
    exact ⟨b, dx, e, n, k b _ (obj_ne o rfl (by decide) hR) o⟩
end HC
namespace HC
open PySem PySem.Spec PyProof.Rows L2
section
variable {P : Program} {w : World} {K : PySem.W.Frag} {mg : Str → Option Value} {base : Heap} {d : Ad}
theorem vals_len (bs : List UInt8) : (vals bs).length = bs.length := List.length_map _
theorem lk_num {a : Addr} {p : Nat} : ((["numbers", "place"] : List Str).zip [V.ref a, vN p]).lookup ("numbers" : Str) = some (V.ref a) := look_at _ _ _ 0 rfl (by decide +kernel)
theorem lk_pla {a : Addr} {p : Nat} : ((["numbers", "place"] : List Str).zip [V.ref a, vN p]).lookup ("place" : Str) = some (vN p) := look_at _ _ _ 1 rfl (by decide +kernel)
theorem lk_take {a : Addr} {p : Nat} : ((["numbers", "place"] : List Str).zip [V.ref a, vN p]).lookup ("take" : Str) = none := look_no _ _ _ (by decide +kernel)
theorem lk_bes {a : Addr} {p : Nat} : ((["numbers", "place"] : List Str).zip [V.ref a, vN p]).lookup ("take_tincture_beside" : Str) = none := look_no _ _ _ (by decide +kernel)
theorem lk_end {a : Addr} {p : Nat} : ((["numbers", "place"] : List Str).zip [V.ref a, vN p]).lookup ("at_end" : Str) = none := look_no _ _ _ (by decide +kernel)
/-! ### Reader.__init__, at_end -/
def spReader (d : Ad) : Sp := fun vs H Q _ => ∃ (p x a : Addr), vs = [.ref p, .ref a] ∧ H p = some (.ins d.cReader x []) ∧ ∀ H', (∀ b, b ≠ p → H' b = H b) → H' p = some (rdr d x a 0) → Q .non H'
theorem sc_Reader_init : FnScope ["self", "numbers"] ["self", "numbers"] (defScope s_Reader_init) := ⟨rfl, rfl, rfl, by decide +kernel, rfl, by decide +kernel, by decide +kernel⟩
theorem ok_Reader_init (T : Txt K mg d) : OkD P w K mg base CX0 1 d.mReader_init ["self", "numbers"] (spReader d) := by
  obtain ⟨fd, F, B⟩ := T.kReader.ini
  refine ⟨⟨fd, F.ok sc_Reader_init (fun vs H Q E h => ?_) (fun cdv A outer s H vs Q E hr h => ?_), B⟩, F.kp⟩
  · obtain ⟨p, x, a, rfl, _⟩ := h
    rfl
  · obtain ⟨p, x, a, rfl, hp, k⟩ := h
    refine ⟨_, pss_cons (ps_fld (pv 0) (pv 1) rfl) (pss_one (ps_fld (pv 0) pe_int rfl)), ?_⟩
    refine ⟨_, rfl, _, rfl, p, d.cReader, x, _, rfl, hp, T.kReader.cl, T.kReader.no.1, (by decide), ?_⟩
    have e1 : putF "numbers" (.ref a) [] = (["numbers"] : List Str).zip [.ref a] := rfl
    refine ⟨_, rfl, p, d.cReader, x, _, rfl, upd_same, T.kReader.cl, T.kReader.no.2.1, (by rw [e1]; show 1 < 1000; decide), ?_⟩
    have e2 : putF "place" (.int 0) (putF "numbers" (.ref a) []) = (["numbers", "place"] : List Str).zip [.ref a, vN 0] := by
      rw [e1, put_new _ _ _ _ rfl (by decide +kernel)]
      rfl
    exact k _ (fun b hb => by rw [upd_ne hb, upd_ne hb]) (by rw [upd_same, e2])
def spEnd (K : PySem.W.Frag) (d : Ad) : Sp := fun vs H Q _ => ∃ (R : Addr) (bs : List UInt8) (a x : Addr) (p : Nat), vs = [.ref R] ∧ At K d bs a R x H p ∧ Q (.bl (decide (p = bs.length))) H
theorem sc_Reader_at_end : FnScope ["self"] ["self"] (defScope s_Reader_at_end) := ⟨rfl, rfl, rfl, by decide +kernel, rfl, by decide +kernel, by decide +kernel⟩
theorem ok_Reader_at_end (T : Txt K mg d) : OkD P w K mg base CX0 1 d.mReader_at_end ["self"] (spEnd K d) := by
  obtain ⟨fd, F, B⟩ := T.kReader_at_end.ex
  refine ⟨⟨fd, F.ok sc_Reader_at_end (fun vs H Q E h => ?_) (fun cdv A outer s H vs Q E hr h => ?_), B⟩, F.kp⟩
  · obtain ⟨R, bs, a, x, p, rfl, _⟩ := h
    rfl
  · obtain ⟨R, bs, a, x, p, rfl, A1, k⟩ := h
    refine ⟨_, pss_one (ps_ret (pe_cmpR op_eq (pe_fld (pv 0) rfl) (pe_callB call_len_seq (by rfl) T.b_len PySem.boot_len (pa_cons (pe_fld (pv 0) rfl) pa_nil)) (nomark _))), ?_⟩
    refine ⟨_, rfl, R, d.cReader, x, _, _, rfl, A1.hR, T.kReader.cl, T.kReader.no.2.1, lk_pla, ?_⟩
    refine ⟨_, rfl, R, d.cReader, x, _, _, rfl, A1.hR, T.kReader.cl, T.kReader.no.1, lk_num, a, vals bs, rfl, .inl A1.sq, rfl, ?_⟩
    have e : decide (vN p = V.int ((vals bs).length : Int)) = decide (p = bs.length) := by
      rw [vals_len, dec_int, Bool.eq_iff_iff]
      simp
      omega
    rw [e]
    exact k
/-! ### take -/
def preTake (_ : Hp) (us : List V) (par : Nat → Sh.Bytes → Except Nat (Nat × Nat × Sh.Bytes)) : Prop := ∃ lo hi : Nat, us = [vN lo, vN hi] ∧ par = Sh.numAt lo hi Sh.ANY
abbrev spTake (K : PySem.W.Frag) (d : Ad) : Sp := spRd K d preTake RNat
theorem num_end {lo hi x p : Nat} {bs : List UInt8} (h : p = bs.length) : Sh.numAt lo hi x p (bs.drop p) = .error p := by
  rw [h, List.drop_length]
  rfl
theorem drop_at {bs : List UInt8} {p : Nat} (h : p < bs.length) : bs.drop p = bs[p] :: bs.drop (p + 1) := List.drop_eq_getElem_cons h
theorem num_at {lo hi p : Nat} {bs : List UInt8} (h : p < bs.length) : Sh.numAt lo hi Sh.ANY p (bs.drop p) = if bs[p].toNat < lo ∨ hi < bs[p].toNat then .error p else .ok (bs[p].toNat, p + 1, bs.drop (p + 1)) := by
  rw [drop_at h]
  show (if bs[p].toNat < lo ∨ hi < bs[p].toNat ∨ bs[p].toNat = Sh.ANY then _ else _) = _
  have hb : bs[p].toNat < 256 := bs[p].toNat_lt
  have hx : ¬ bs[p].toNat = Sh.ANY := by
    show ¬ bs[p].toNat = 999
    omega
  by_cases c : bs[p].toNat < lo ∨ hi < bs[p].toNat
  · rw [if_pos c, if_pos (c.elim .inl fun z => .inr (.inl z))]
  · rw [if_neg c, if_neg (fun q => q.elim (fun q => c (.inl q)) fun q => q.elim (fun q => c (.inr q)) hx)]
theorem sc_Reader_take : FnScope ["self", "least", "most", "number"] ["self", "least", "most"] (defScope s_Reader_take) := ⟨rfl, rfl, rfl, by decide +kernel, rfl, by decide +kernel, by decide +kernel⟩
theorem ok_Reader_take (T : Txt K mg d) : OkD P w K mg base (L2.CX P w) 3 d.mReader_take ["self", "least", "most"] (spTake K d) := by
  obtain ⟨fd, F, B⟩ := T.kReader_take.ex
  obtain ⟨⟨fdE, GE, BE⟩, _⟩   := ok_Reader_at_end (P := P) (w := w) (base := base) T
  refine ⟨⟨fd, F.okX sc_Reader_take (fun vs H Q E h => ?_) (fun cdv A outer s H vs Q E hr h => ?_), B⟩, F.kp⟩
  · obtain ⟨R, us, bs, a, x, p, par, rfl, _, ⟨lo, hi, rfl, rfl⟩, _⟩ := h
    rfl
  · obtain ⟨R, us, bs, a, x, p, par, rfl, A1, ⟨lo, hi, rfl, rfl⟩, k⟩ := h
    have hr1 : Room 1 _ := hr.mono (by decide)
    refine ⟨_, pss_cons (ps_if (pt_val (pe_meth0 (pv 0) T.kReader.cl T.kReader_at_end.me GE hr1 BE .nil pass0)) (pss_one (ps_raiseLow rfl T.xMisplaced hr takesX (pa_cons (pe_fld (pv 0) rfl) pa_nil))) pss_nil)
      (pss_cons (ps_set (i := 3) sc_Reader_take.nd rfl (Or.inl rfl) (pe_ix ix_list (pe_fld (pv 0) rfl) (pe_fld (pv 0) rfl) (fun _ _ => rfl)))
      (pss_cons (ps_if (PW.pt (pw_or (pt_cmpR op_lt (pv 3) (pv 1) (nomark _)) (pw_or1 (pt_cmpR op_gt (pv 3) (pv 2) (nomark _))))) (pss_one (ps_raiseLow rfl T.xMisplaced hr takesX (pa_cons (pe_fld (pv 0) rfl) pa_nil))) pss_nil)
      (pss_cons (ps_fld (pv 0) (pe_op op_add (pe_fld (pv 0) rfl) pe_int) rfl)
      (pss_one (ps_ret (pv 3)))))), ?_⟩
    refine ⟨_, rfl, R, x, _, rfl, A1.hR, lk_end, R, bs, a, x, p, rfl, A1, _, rfl, ?_⟩
    refine ite2 (fun c => ?_) (fun c => ?_)
    · have c' : p = bs.length := of_decide_eq_true c
      rw [num_end c'] at k
      exact ⟨_, rfl, R, d.cReader, x, _, _, rfl, A1.hR, T.kReader.cl, T.kReader.no.2.1, lk_pla, _, rfl, fun z hz => k z _ upd_same⟩
    · have c' : ¬ p = bs.length := of_decide_eq_false (by simpa using c)
      have hp : p < bs.length := Nat.lt_of_le_of_ne A1.le c'
      rw [num_at hp] at k
      have ev : (vals bs)[p]? = some (vN bs[p].toNat) := by
        unfold vals
        rw [List.getElem?_map, List.getElem?_eq_getElem hp]
        rfl
      refine ⟨_, rfl, R, d.cReader, x, _, _, rfl, A1.hR, T.kReader.cl, T.kReader.no.1, lk_num, ?_⟩
      refine ⟨_, rfl, R, d.cReader, x, _, _, rfl, A1.hR, T.kReader.cl, T.kReader.no.2.1, lk_pla, a, vals bs, _, _, rfl, rfl, A1.sq, atI_nat ev, ?_⟩
      have bad : (bs[p].toNat < lo ∨ hi < bs[p].toNat) → ∀ z : Addr, E (.ref d.xMisplaced) (some z) (upd H z (.xd [(("place" : Str), vN p)])) := fun cc z => by
        rw [if_pos cc] at k
        exact k z _ upd_same
      refine ⟨_, rfl, _, rfl, _, _, rfl, rfl, _, rfl, ?_⟩
      refine ite2 (fun c1 => ?_) (fun c1 => ?_)
      · refine iteT ?_
        have c2 : bs[p].toNat < lo := by have := of_decide_eq_true c1; omega
        exact ⟨_, rfl, R, d.cReader, x, _, _, rfl, A1.hR, T.kReader.cl, T.kReader.no.2.1, lk_pla, _, rfl, fun z hz => bad (.inl c2) z⟩
      · refine ⟨_, rfl, _, rfl, _, _, rfl, rfl, _, rfl, ?_⟩
        refine ite2 (fun c2 => ?_) (fun c2 => ?_)
        · have c3 : hi < bs[p].toNat := by have := of_decide_eq_true c2; omega
          exact ⟨_, rfl, R, d.cReader, x, _, _, rfl, A1.hR, T.kReader.cl, T.kReader.no.2.1, lk_pla, _, rfl, fun z hz => bad (.inr c3) z⟩
        · have c3 : ¬ (bs[p].toNat < lo ∨ hi < bs[p].toNat) := by
            have h1 := of_decide_eq_false (by simpa using c1 : decide ((bs[p].toNat : Int) < (lo : Int)) = false)
            have h2 := of_decide_eq_false (by simpa using c2 : decide ((hi : Int) < (bs[p].toNat : Int)) = false)
            omega
          rw [if_neg c3] at k
          refine ⟨_, rfl, R, d.cReader, x, _, _, rfl, A1.hR, T.kReader.cl, T.kReader.no.2.1, lk_pla, _, _, rfl, rfl, _, rfl, R, d.cReader, x, _, rfl, A1.hR, T.kReader.cl, T.kReader.no.2.1, (by show 2 < 1000; decide), ?_⟩
          have e : putF "place" (V.int ((p : Int) + 1)) ((["numbers", "place"] : List Str).zip [V.ref a, vN p]) = (["numbers", "place"] : List Str).zip [V.ref a, vN (p + 1)] := by
            rw [put_at _ _ _ _ 1 rfl (by decide +kernel)]
            rfl
          refine ⟨_, rfl, k _ _ (fun b o hb ho => ?_) ?_ hp rfl rfl⟩
          · rw [upd_ne hb]
            exact ho
          · rw [upd_same, e]
end
end HC
namespace HC
open PySem PySem.Spec PyProof.Rows L2
section
variable {P : Program} {w : World} {K : PySem.W.Frag} {mg : Str → Option Value} {base : Heap} {d : Ad}
/-! ### numbers -/
theorem num_err {lo hi x p e : Nat} {b : Sh.Bytes} (h : Sh.numAt lo hi Sh.ANY p b = .error e) : Sh.numAt lo hi x p b = .error e := by
  cases b with
  | nil => exact h
  | cons c r =>
    have hb : c.toNat < 256 := c.toNat_lt
    have h' : (if c.toNat < lo ∨ hi < c.toNat ∨ c.toNat = Sh.ANY then (.error p : Except Nat (Nat × Nat × Sh.Bytes)) else .ok (c.toNat, p + 1, r)) = .error e := h
    show (if c.toNat < lo ∨ hi < c.toNat ∨ c.toNat = x then _ else _) = _
    by_cases q : c.toNat < lo ∨ hi < c.toNat ∨ c.toNat = Sh.ANY
    · rw [if_pos q] at h'
      rw [if_pos ?_]
      · exact h'
      · rcases q with q | q | q
        · exact .inl q
        · exact .inr (.inl q)
        · have q' : c.toNat = 999 := q
          omega
    · rw [if_neg q] at h'
      cases h'
theorem num_ok {lo hi x p n q : Nat} {b r : Sh.Bytes} (h : Sh.numAt lo hi Sh.ANY p b = .ok (n, q, r)) : q = p + 1 ∧ lo ≤ n ∧ n ≤ hi ∧ Sh.numAt lo hi x p b = if n = x then .error p else .ok (n, q, r) := by
  cases b with
  | nil => cases h
  | cons c s =>
    have h' : (if c.toNat < lo ∨ hi < c.toNat ∨ c.toNat = Sh.ANY then (.error p : Except Nat (Nat × Nat × Sh.Bytes)) else .ok (c.toNat, p + 1, s)) = .ok (n, q, r) := h
    by_cases z : c.toNat < lo ∨ hi < c.toNat ∨ c.toNat = Sh.ANY
    · rw [if_pos z] at h'
      cases h'
    · rw [if_neg z] at h'
      cases h'
      have z1 : ¬ c.toNat < lo := fun y => z (.inl y)
      have z2 : ¬ hi < c.toNat := fun y => z (.inr (.inl y))
      refine ⟨rfl, by omega, by omega, ?_⟩
      show (if c.toNat < lo ∨ hi < c.toNat ∨ c.toNat = x then _ else _) = _
      by_cases y : c.toNat = x
      · rw [if_pos y, if_pos (.inr (.inr y))]
      · rw [if_neg y, if_neg (fun t => t.elim z1 fun t => t.elim z2 y)]
theorem eqv {n : Nat} {z : Int} (c : decide (vN n = V.int z) = true) : (n : Int) = z := by
  have := of_decide_eq_true c
  injection this
theorem neqv {n : Nat} {z : Int} (c : ¬ decide (vN n = V.int z) = true) : ¬ (n : Int) = z := fun e => c (decide_eq_true (congrArg V.int e))
/-! ### take_tincture_beside -/
def preBes (_ : Hp) (us : List V) (par : Nat → Sh.Bytes → Except Nat (Nat × Nat × Sh.Bytes)) : Prop := ∃ y : Nat, us = [vN y] ∧ par = Sh.numAt 0 8 y
abbrev spBes (K : PySem.W.Frag) (d : Ad) : Sp := spRd K d preBes RNat
theorem sc_Reader_take_tincture_beside : FnScope ["self", "other", "tincture"] ["self", "other"] (defScope s_Reader_take_tincture_beside) := ⟨rfl, rfl, rfl, by decide +kernel, rfl, by decide +kernel, by decide +kernel⟩
theorem ok_Reader_take_tincture_beside (T : Txt K mg d) : OkD P w K mg base (L2.CX P w) 5 d.mReader_take_tincture_beside ["self", "other"] (spBes K d) := by
  obtain ⟨fd, F, B⟩ := T.kReader_take_tincture_beside.ex
  obtain ⟨⟨fd_Reader_take, G_Reader_take, B_Reader_take⟩, kp_Reader_take⟩ := ok_Reader_take (P := P) (w := w) (base := base) T
  obtain ⟨c_LAST_TINCTURE, m_LAST_TINCTURE⟩ := T.nLAST_TINCTURE
  refine ⟨⟨fd, F.okX sc_Reader_take_tincture_beside (fun vs H Q E h => ?_) (fun cdv A outer s H vs Q E hr h => ?_), B⟩, F.kp⟩
  · obtain ⟨R, us, bs, a, x, p, par, rfl, _, ⟨y, rfl, rfl⟩, _⟩ := h
    rfl
  · obtain ⟨R, us, bs, a, x, q0, par, rfl, A0, ⟨y, rfl, rfl⟩, k⟩ := h
    have hr_Reader_take : Room 3 _ := hr.mono (by decide)
    refine ⟨_, pss_cons (ps_set (i := 2) sc_Reader_take_tincture_beside.nd rfl (Or.inl rfl) (pe_meth (pv 0) T.kReader.cl T.kReader_take.me G_Reader_take hr_Reader_take B_Reader_take .nil passX (pa_cons pe_int (pa_cons (pgi m_LAST_TINCTURE) pa_nil))))
      (pss_cons (ps_if (pt_cmpR op_eq (pv 2) (pv 1) (nomark _))
        (pss_one (ps_raiseLow rfl T.xMisplaced hr takesX (pa_cons (pe_op op_sub (pe_fld (pv 0) rfl) pe_int) pa_nil)))
        pss_nil)
      (pss_one (ps_ret (pv 2)))), ?_⟩
    refine ⟨_, rfl, R, x, _, rfl, A0.hR, lk_take, R, _, bs, a, x, q0, _, rfl, A0, ⟨0, 8, rfl, rfl⟩, ?_⟩
    cases e1 : Sh.numAt 0 8 Sh.ANY q0 (bs.drop q0) with
    | error e =>
      rw [num_err e1] at k
      exact k
    | ok z =>
      obtain ⟨n1, q1, r1⟩ := z
      obtain ⟨eq1, _, _, en⟩ := num_ok (x := y) e1
      rw [en] at k
      intro v1 H1 k1 h1 l1 g1 t1
      dsimp only at h1 l1 g1 t1
      cases t1
      refine ⟨_, rfl, _, rfl, rfl, _, rfl, ?_⟩
      refine ite2 (fun c => ?_) (fun c => ?_)
      · have c' : n1 = y := by have := eqv c; omega
        rw [if_pos c'] at k
        refine ⟨_, rfl, R, d.cReader, x, _, _, rfl, h1, T.kReader.cl, T.kReader.no.2.1, lk_pla, _, _, rfl, rfl, _, rfl, fun z hz => k z _ ?_⟩
        have e : (q1 : Int) - 1 = (q0 : Int) := by omega
        rw [upd_same]
        show some (HO.xd [(("place" : Str), V.int ((q1 : Int) - 1))]) = _
        rw [e]
      · have c' : ¬ n1 = y := fun e => neqv c (by rw [e])
        rw [if_neg c'] at k
        exact ⟨_, rfl, k _ _ k1 h1 l1 g1 rfl⟩
/-! ### fields -/
def partedAt (p : Nat) (b : Sh.Bytes) : Except Nat (Sh.Field × Nat × Sh.Bytes) := match Sh.numAt 0 7 Sh.ANY p b with
  | .error e => .error e
  | .ok d => match Sh.numAt 0 5 Sh.ANY d.2.1 d.2.2 with
    | .error e => .error e
    | .ok l => match Sh.twoAt l.2.1 l.2.2 with
      | .error e => .error e
      | .ok t => .ok (.parted d.1 l.1 t.1.1 t.1.2, t.2)
def variedAt (p : Nat) (b : Sh.Bytes) : Except Nat (Sh.Field × Nat × Sh.Bytes) := match Sh.numAt 0 6 Sh.ANY p b with
  | .error e => .error e
  | .ok v => match Sh.numAt 2 24 Sh.ANY v.2.1 v.2.2 with
    | .error e => .error e
    | .ok n => match Sh.numAt 0 (if 5 ≤ v.1 then 0 else 5) Sh.ANY n.2.1 n.2.2 with
      | .error e => .error e
      | .ok l => match Sh.twoAt l.2.1 l.2.2 with
        | .error e => .error e
        | .ok t => .ok (.varied v.1 n.1 l.1 t.1.1 t.1.2, t.2)
/-- handed the reader alone -/
def pre0 {α : Type} (g : Nat → Sh.Bytes → Except Nat (α × Nat × Sh.Bytes)) (_ : Hp) (us : List V) (par : Nat → Sh.Bytes → Except Nat (α × Nat × Sh.Bytes)) : Prop := us = [] ∧ par = g
abbrev spParted (K : PySem.W.Frag) (d : Ad) : Sp := spRd K d (pre0 partedAt) (RField d)
abbrev spVaried (K : PySem.W.Frag) (d : Ad) : Sp := spRd K d (pre0 variedAt) (RField d)
abbrev spField (K : PySem.W.Frag) (d : Ad) : Sp := spRd K d (pre0 Sh.fieldAt) (RField d)
theorem sc_take_parted : FnScope ["reader", "way", "line", "first"] ["reader"] (defScope s_take_parted) := ⟨rfl, rfl, rfl, by decide +kernel, rfl, by decide +kernel, by decide +kernel⟩
theorem ok_take_parted (T : Txt K mg d) : OkD P w K mg base (L2.CX P w) 7 d.f_take_parted ["reader"] (spParted K d) := by
  obtain ⟨fd, F, B⟩ := T.k_take_parted.ex
  obtain ⟨⟨fd_Reader_take, G_Reader_take, B_Reader_take⟩, kp_Reader_take⟩ := ok_Reader_take (P := P) (w := w) (base := base) T
  obtain ⟨⟨fd_Parted, G_Parted, B_Parted⟩, kp_Parted⟩ := ok_Parted_init (P := P) (w := w) (base := base) T
  obtain ⟨⟨fd_Reader_take_tincture_beside, G_Reader_take_tincture_beside, B_Reader_take_tincture_beside⟩, kp_Reader_take_tincture_beside⟩ := ok_Reader_take_tincture_beside (P := P) (w := w) (base := base) T
  obtain ⟨c_LAST_PARTED_WAY, m_LAST_PARTED_WAY⟩ := T.nLAST_PARTED_WAY
  obtain ⟨c_LAST_LINE, m_LAST_LINE⟩ := T.nLAST_LINE
  obtain ⟨c_LAST_TINCTURE, m_LAST_TINCTURE⟩ := T.nLAST_TINCTURE
  refine ⟨⟨fd, F.okX sc_take_parted (fun vs H Q E h => ?_) (fun cdv A outer s H vs Q E hr h => ?_), B⟩, F.kp⟩
  · obtain ⟨R, us, bs, a, x, p, par, rfl, _, ⟨rfl, rfl⟩, _⟩ := h
    rfl
  · obtain ⟨R, us, bs, a, x, q0, par, rfl, A0, ⟨rfl, rfl⟩, k⟩ := h
    have hr_Reader_take : Room 3 _ := hr.mono (by decide)
    have hr_Parted : Room 2 _ := hr.mono (by decide)
    have hr_Reader_take_tincture_beside : Room 5 _ := hr.mono (by decide)
    have K0 : Keep R H H := Keep.refl R H
    refine ⟨_, pss_cons (ps_set (i := 1) sc_take_parted.nd rfl (Or.inl rfl) (pe_meth (pv 0) T.kReader.cl T.kReader_take.me G_Reader_take hr_Reader_take B_Reader_take .nil passX (pa_cons pe_int (pa_cons (pgi m_LAST_PARTED_WAY) pa_nil))))
      (pss_cons (ps_set (i := 2) sc_take_parted.nd rfl (Or.inl rfl) (pe_meth (pv 0) T.kReader.cl T.kReader_take.me G_Reader_take hr_Reader_take B_Reader_take .nil passX (pa_cons pe_int (pa_cons (pgi m_LAST_LINE) pa_nil))))
      (pss_cons (ps_set (i := 3) sc_take_parted.nd rfl (Or.inl rfl) (pe_meth (pv 0) T.kReader.cl T.kReader_take.me G_Reader_take hr_Reader_take B_Reader_take .nil passX (pa_cons pe_int (pa_cons (pgi m_LAST_TINCTURE) pa_nil))))
      (pss_one (ps_ret (pe_make T.kParted.mak G_Parted hr_Parted rfl T.kParted.gl B_Parted .nil pass0 (pa_cons (pv 1) (pa_cons (pv 2) (pa_cons (pv 3) (pa_cons (pe_meth (pv 0) T.kReader.cl T.kReader_take_tincture_beside.me G_Reader_take_tincture_beside hr_Reader_take_tincture_beside B_Reader_take_tincture_beside .nil passX (pa_cons (pv 3) pa_nil)) pa_nil))))))))), ?_⟩
    unfold partedAt at k
    refine ⟨_, rfl, R, x, _, rfl, A0.hR, lk_take, R, _, bs, a, x, q0, _, rfl, A0, ⟨0, 7, rfl, rfl⟩, ?_⟩
    cases e1 : Sh.numAt 0 7 Sh.ANY q0 (bs.drop q0) with
    | error e =>
      rw [e1] at k
      exact k
    | ok y =>
    obtain ⟨n1, q1, r1⟩ := y
    rw [e1] at k
    intro v1 H1 k1 h1 l1 g1 t1
    dsimp only at k h1 l1 g1 t1
    subst g1
    have K1 : Keep R H H1 := K0.trans k1
    have A1 := A0.step k1 h1 l1
    cases t1
    refine ⟨_, rfl, R, x, _, rfl, A1.hR, lk_take, R, _, bs, a, x, q1, _, rfl, A1, ⟨0, 5, rfl, rfl⟩, ?_⟩
    cases e2 : Sh.numAt 0 5 Sh.ANY q1 (bs.drop q1) with
    | error e =>
      rw [e2] at k
      exact k
    | ok y =>
    obtain ⟨n2, q2, r2⟩ := y
    rw [e2] at k
    intro v2 H2 k2 h2 l2 g2 t2
    dsimp only at k h2 l2 g2 t2
    subst g2
    have K2 : Keep R H H2 := K1.trans k2
    have A2 := A1.step k2 h2 l2
    cases t2
    unfold Sh.twoAt at k
    refine ⟨_, rfl, R, x, _, rfl, A2.hR, lk_take, R, _, bs, a, x, q2, _, rfl, A2, ⟨0, 8, rfl, rfl⟩, ?_⟩
    cases e3 : Sh.numAt 0 8 Sh.ANY q2 (bs.drop q2) with
    | error e =>
      rw [e3] at k
      exact k
    | ok y =>
    obtain ⟨n3, q3, r3⟩ := y
    rw [e3] at k
    intro v3 H3 k3 h3 l3 g3 t3
    dsimp only at k h3 l3 g3 t3
    subst g3
    have K3 : Keep R H H3 := K2.trans k3
    have A3 := A2.step k3 h3 l3
    cases t3
    refine ⟨_, rfl, _, rfl, _, rfl, _, rfl, R, x, _, rfl, A3.hR, lk_bes, _, rfl, R, _, bs, a, x, q3, _, rfl, A3, ⟨n3, rfl, rfl⟩, ?_⟩
    cases e4 : Sh.numAt 0 8 n3 q3 (bs.drop q3) with
    | error e =>
      rw [e4] at k
      exact k
    | ok y =>
    obtain ⟨n4, q4, r4⟩ := y
    rw [e4] at k
    intro v4 H4 k4 h4 l4 g4 t4
    dsimp only at k h4 l4 g4 t4
    subst g4
    have K4 : Keep R H H4 := K3.trans k4
    have A4 := A3.step k4 h4 l4
    cases t4
    refine made rfl fun y dy H5 ny s5 hy => ?_
    exact k _ H5 (K4.trans (Keep.of s5)) (s5 _ _ h4) l4 rfl ⟨y, dy, rfl, K4.free h4 ny, hy⟩
theorem sc_take_varied : FnScope ["reader", "way", "pieces", "line", "first"] ["reader"] (defScope s_take_varied) := ⟨rfl, rfl, rfl, by decide +kernel, rfl, by decide +kernel, by decide +kernel⟩
theorem ok_take_varied (T : Txt K mg d) : OkD P w K mg base (L2.CX P w) 7 d.f_take_varied ["reader"] (spVaried K d) := by
  obtain ⟨fd, F, B⟩ := T.k_take_varied.ex
  obtain ⟨⟨fd_Reader_take, G_Reader_take, B_Reader_take⟩, kp_Reader_take⟩ := ok_Reader_take (P := P) (w := w) (base := base) T
  obtain ⟨⟨fd_Varied, G_Varied, B_Varied⟩, kp_Varied⟩ := ok_Varied_init (P := P) (w := w) (base := base) T
  obtain ⟨⟨fd_Reader_take_tincture_beside, G_Reader_take_tincture_beside, B_Reader_take_tincture_beside⟩, kp_Reader_take_tincture_beside⟩ := ok_Reader_take_tincture_beside (P := P) (w := w) (base := base) T
  obtain ⟨c_LAST_VARIED_WAY, m_LAST_VARIED_WAY⟩ := T.nLAST_VARIED_WAY
  obtain ⟨c_FEWEST_PIECES, m_FEWEST_PIECES⟩ := T.nFEWEST_PIECES
  obtain ⟨c_MOST_PIECES, m_MOST_PIECES⟩ := T.nMOST_PIECES
  obtain ⟨c_LAST_TINCTURE, m_LAST_TINCTURE⟩ := T.nLAST_TINCTURE
  obtain ⟨c_LAST_LINE, m_LAST_LINE⟩ := T.nLAST_LINE
  obtain ⟨c_FIRST_STRAIGHT_WAY, m_FIRST_STRAIGHT_WAY⟩ := T.nFIRST_STRAIGHT_WAY
  refine ⟨⟨fd, F.okX sc_take_varied (fun vs H Q E h => ?_) (fun cdv A outer s H vs Q E hr h => ?_), B⟩, F.kp⟩
  · obtain ⟨R, us, bs, a, x, p, par, rfl, _, ⟨rfl, rfl⟩, _⟩ := h
    rfl
  · obtain ⟨R, us, bs, a, x, q0, par, rfl, A0, ⟨rfl, rfl⟩, k⟩ := h
    have hr_Reader_take : Room 3 _ := hr.mono (by decide)
    have hr_Varied : Room 2 _ := hr.mono (by decide)
    have hr_Reader_take_tincture_beside : Room 5 _ := hr.mono (by decide)
    have K0 : Keep R H H := Keep.refl R H
    refine ⟨_, pss_cons (ps_set (i := 1) sc_take_varied.nd rfl (Or.inl rfl) (pe_meth (pv 0) T.kReader.cl T.kReader_take.me G_Reader_take hr_Reader_take B_Reader_take .nil passX (pa_cons pe_int (pa_cons (pgi m_LAST_VARIED_WAY) pa_nil))))
      (pss_cons (ps_set (i := 2) sc_take_varied.nd rfl (Or.inl rfl) (pe_meth (pv 0) T.kReader.cl T.kReader_take.me G_Reader_take hr_Reader_take B_Reader_take .nil passX (pa_cons (pgi m_FEWEST_PIECES) (pa_cons (pgi m_MOST_PIECES) pa_nil))))
      (pss_cons (ps_set (i := 3) sc_take_varied.nd rfl (Or.inl rfl) (pe_meth (pv 0) T.kReader.cl T.kReader_take.me G_Reader_take hr_Reader_take B_Reader_take .nil passX (pa_cons pe_int (pa_cons (pe_ifExp (pt_cmpR op_lt (pv 1) (pgi m_FIRST_STRAIGHT_WAY) (nomark _)) (pgi m_LAST_LINE) pe_int) pa_nil))))
      (pss_cons (ps_set (i := 4) sc_take_varied.nd rfl (Or.inl rfl) (pe_meth (pv 0) T.kReader.cl T.kReader_take.me G_Reader_take hr_Reader_take B_Reader_take .nil passX (pa_cons pe_int (pa_cons (pgi m_LAST_TINCTURE) pa_nil))))
      (pss_one (ps_ret (pe_make T.kVaried.mak G_Varied hr_Varied rfl T.kVaried.gl B_Varied .nil pass0 (pa_cons (pv 1) (pa_cons (pv 2) (pa_cons (pv 3) (pa_cons (pv 4) (pa_cons (pe_meth (pv 0) T.kReader.cl T.kReader_take_tincture_beside.me G_Reader_take_tincture_beside hr_Reader_take_tincture_beside B_Reader_take_tincture_beside .nil passX (pa_cons (pv 4) pa_nil)) pa_nil))))))))))), ?_⟩
    unfold variedAt at k
    refine ⟨_, rfl, R, x, _, rfl, A0.hR, lk_take, R, _, bs, a, x, q0, _, rfl, A0, ⟨0, 6, rfl, rfl⟩, ?_⟩
    cases e1 : Sh.numAt 0 6 Sh.ANY q0 (bs.drop q0) with
    | error e =>
      rw [e1] at k
      exact k
    | ok y =>
    obtain ⟨n1, q1, r1⟩ := y
    rw [e1] at k
    intro v1 H1 k1 h1 l1 g1 t1
    dsimp only at k h1 l1 g1 t1
    subst g1
    have K1 : Keep R H H1 := K0.trans k1
    have A1 := A0.step k1 h1 l1
    cases t1
    refine ⟨_, rfl, R, x, _, rfl, A1.hR, lk_take, R, _, bs, a, x, q1, _, rfl, A1, ⟨2, 24, rfl, rfl⟩, ?_⟩
    cases e2 : Sh.numAt 2 24 Sh.ANY q1 (bs.drop q1) with
    | error e =>
      rw [e2] at k
      exact k
    | ok y =>
    obtain ⟨n2, q2, r2⟩ := y
    rw [e2] at k
    intro v2 H2 k2 h2 l2 g2 t2
    dsimp only at k h2 l2 g2 t2
    subst g2
    have K2 : Keep R H H2 := K1.trans k2
    have A2 := A1.step k2 h2 l2
    cases t2
    refine ⟨_, rfl, R, x, _, rfl, A2.hR, lk_take, _, rfl, _, _, rfl, rfl, _, rfl, ?_⟩
    refine ite2 (fun c => ?_) (fun c => ?_)
    · have c' : ¬ 5 ≤ n1 := by have := of_decide_eq_true c; omega
      rw [if_neg c'] at k
      refine ⟨R, _, bs, a, x, q2, _, rfl, A2, ⟨0, 5, rfl, rfl⟩, ?_⟩
      cases e3 : Sh.numAt 0 5 Sh.ANY q2 (bs.drop q2) with
      | error e =>
        rw [e3] at k
        exact k
      | ok y =>
      obtain ⟨n3, q3, r3⟩ := y
      rw [e3] at k
      intro v3 H3 k3 h3 l3 g3 t3
      dsimp only at k h3 l3 g3 t3
      subst g3
      have K3 : Keep R H H3 := K2.trans k3
      have A3 := A2.step k3 h3 l3
      cases t3
      unfold Sh.twoAt at k
      refine ⟨_, rfl, R, x, _, rfl, A3.hR, lk_take, R, _, bs, a, x, q3, _, rfl, A3, ⟨0, 8, rfl, rfl⟩, ?_⟩
      cases e4 : Sh.numAt 0 8 Sh.ANY q3 (bs.drop q3) with
      | error e =>
        rw [e4] at k
        exact k
      | ok y =>
      obtain ⟨n4, q4, r4⟩ := y
      rw [e4] at k
      intro v4 H4 k4 h4 l4 g4 t4
      dsimp only at k h4 l4 g4 t4
      subst g4
      have K4 : Keep R H H4 := K3.trans k4
      have A4 := A3.step k4 h4 l4
      cases t4
      refine ⟨_, rfl, _, rfl, _, rfl, _, rfl, _, rfl, R, x, _, rfl, A4.hR, lk_bes, _, rfl, R, _, bs, a, x, q4, _, rfl, A4, ⟨n4, rfl, rfl⟩, ?_⟩
      cases e5 : Sh.numAt 0 8 n4 q4 (bs.drop q4) with
      | error e =>
        rw [e5] at k
        exact k
      | ok y =>
      obtain ⟨n5, q5, r5⟩ := y
      rw [e5] at k
      intro v5 H5 k5 h5 l5 g5 t5
      dsimp only at k h5 l5 g5 t5
      subst g5
      have K5 : Keep R H H5 := K4.trans k5
      have A5 := A4.step k5 h5 l5
      cases t5
      refine made rfl fun y dy H6 ny s6 hy => ?_
      exact k _ H6 (K5.trans (Keep.of s6)) (s6 _ _ h5) l5 rfl ⟨y, dy, rfl, K5.free h5 ny, hy⟩
    · have c' : 5 ≤ n1 := by
        have := of_decide_eq_false (by simpa using c : decide ((n1 : Int) < 5) = false)
        omega
      rw [if_pos c'] at k
      refine ⟨R, _, bs, a, x, q2, _, rfl, A2, ⟨0, 0, rfl, rfl⟩, ?_⟩
      cases e3 : Sh.numAt 0 0 Sh.ANY q2 (bs.drop q2) with
      | error e =>
        rw [e3] at k
        exact k
      | ok y =>
      obtain ⟨n3, q3, r3⟩ := y
      rw [e3] at k
      intro v3 H3 k3 h3 l3 g3 t3
      dsimp only at k h3 l3 g3 t3
      subst g3
      have K3 : Keep R H H3 := K2.trans k3
      have A3 := A2.step k3 h3 l3
      cases t3
      unfold Sh.twoAt at k
      refine ⟨_, rfl, R, x, _, rfl, A3.hR, lk_take, R, _, bs, a, x, q3, _, rfl, A3, ⟨0, 8, rfl, rfl⟩, ?_⟩
      cases e4 : Sh.numAt 0 8 Sh.ANY q3 (bs.drop q3) with
      | error e =>
        rw [e4] at k
        exact k
      | ok y =>
      obtain ⟨n4, q4, r4⟩ := y
      rw [e4] at k
      intro v4 H4 k4 h4 l4 g4 t4
      dsimp only at k h4 l4 g4 t4
      subst g4
      have K4 : Keep R H H4 := K3.trans k4
      have A4 := A3.step k4 h4 l4
      cases t4
      refine ⟨_, rfl, _, rfl, _, rfl, _, rfl, _, rfl, R, x, _, rfl, A4.hR, lk_bes, _, rfl, R, _, bs, a, x, q4, _, rfl, A4, ⟨n4, rfl, rfl⟩, ?_⟩
      cases e5 : Sh.numAt 0 8 n4 q4 (bs.drop q4) with
      | error e =>
        rw [e5] at k
        exact k
      | ok y =>
      obtain ⟨n5, q5, r5⟩ := y
      rw [e5] at k
      intro v5 H5 k5 h5 l5 g5 t5
      dsimp only at k h5 l5 g5 t5
      subst g5
      have K5 : Keep R H H5 := K4.trans k5
      have A5 := A4.step k5 h5 l5
      cases t5
      refine made rfl fun y dy H6 ny s6 hy => ?_
      exact k _ H6 (K5.trans (Keep.of s6)) (s6 _ _ h5) l5 rfl ⟨y, dy, rfl, K5.free h5 ny, hy⟩
end
end HC

namespace HC
open PySem PySem.Spec PyProof.Rows L2
section
variable {P : Program} {w : World} {K : PySem.W.Frag} {mg : Str → Option Value} {base : Heap} {d : Ad}
theorem sc_take_field : FnScope ["reader", "kind"] ["reader"] (defScope s_take_field) := ⟨rfl, rfl, rfl, by decide +kernel, rfl, by decide +kernel, by decide +kernel⟩
theorem ok_take_field (T : Txt K mg d) : OkD P w K mg base (L2.CX P w) 9 d.f_take_field ["reader"] (spField K d) := by
  obtain ⟨fd, F, B⟩ := T.k_take_field.ex
  obtain ⟨⟨fd_Reader_take, G_Reader_take, B_Reader_take⟩, kp_Reader_take⟩ := ok_Reader_take (P := P) (w := w) (base := base) T
  obtain ⟨⟨fd_take_varied, G_take_varied, B_take_varied⟩, kp_take_varied⟩ := ok_take_varied (P := P) (w := w) (base := base) T
  obtain ⟨⟨fd_Plain, G_Plain, B_Plain⟩, kp_Plain⟩ := ok_Plain_init (P := P) (w := w) (base := base) T
  obtain ⟨⟨fd_take_parted, G_take_parted, B_take_parted⟩, kp_take_parted⟩ := ok_take_parted (P := P) (w := w) (base := base) T
  obtain ⟨c_LAST_TINCTURE, m_LAST_TINCTURE⟩ := T.nLAST_TINCTURE
  refine ⟨⟨fd, F.okX sc_take_field (fun vs H Q E h => ?_) (fun cdv A outer s H vs Q E hr h => ?_), B⟩, F.kp⟩
  · obtain ⟨R, us, bs, a, x, p, par, rfl, _, ⟨rfl, rfl⟩, _⟩ := h
    rfl
  · obtain ⟨R, us, bs, a, x, q0, par, rfl, A0, ⟨rfl, rfl⟩, k⟩ := h
    have hr_Reader_take : Room 3 _ := hr.mono (by decide)
    have hr_take_varied : Room 7 _ := hr.mono (by decide)
    have hr_Plain : Room 2 _ := hr.mono (by decide)
    have hr_take_parted : Room 7 _ := hr.mono (by decide)
    have K0 : Keep R H H := Keep.refl R H
    refine ⟨_, pss_cons (ps_set (i := 1) sc_take_field.nd rfl (Or.inl rfl) (pe_meth (pv 0) T.kReader.cl T.kReader_take.me G_Reader_take hr_Reader_take B_Reader_take .nil passX (pa_cons pe_int (pa_cons pe_int pa_nil))))
      (pss_cons (ps_if (pt_cmpR op_eq (pv 1) pe_int (nomark _))
        (pss_one (ps_ret (pe_make T.kPlain.mak G_Plain hr_Plain rfl T.kPlain.gl B_Plain .nil pass0 (pa_cons (pe_meth (pv 0) T.kReader.cl T.kReader_take.me G_Reader_take hr_Reader_take B_Reader_take .nil passX (pa_cons pe_int (pa_cons (pgi m_LAST_TINCTURE) pa_nil))) pa_nil))))
        pss_nil)
      (pss_cons (ps_if (pt_cmpR op_eq (pv 1) pe_int (nomark _))
        (pss_one (ps_ret (pe_call G_take_parted hr_take_parted rfl T.k_take_parted.gl kp_take_parted B_take_parted .nil passX (pa_cons (pv 0) pa_nil))))
        pss_nil)
      (pss_one (ps_ret (pe_call G_take_varied hr_take_varied rfl T.k_take_varied.gl kp_take_varied B_take_varied .nil passX (pa_cons (pv 0) pa_nil)))))), ?_⟩
    unfold Sh.fieldAt at k
    refine ⟨_, rfl, R, x, _, rfl, A0.hR, lk_take, R, _, bs, a, x, q0, _, rfl, A0, ⟨0, 2, rfl, rfl⟩, ?_⟩
    cases e1 : Sh.numAt 0 2 Sh.ANY q0 (bs.drop q0) with
    | error e =>
      rw [e1] at k
      exact k
    | ok y =>
    obtain ⟨n1, q1, r1⟩ := y
    rw [e1] at k
    intro v1 H1 k1 h1 l1 g1 t1
    dsimp only at k h1 l1 g1 t1
    subst g1
    have K1 : Keep R H H1 := K0.trans k1
    have A1 := A0.step k1 h1 l1
    cases t1
    refine ⟨_, rfl, rfl, _, rfl, ?_⟩
    refine ite2 (fun c => ?_) (fun c => ?_)
    · have c' : n1 = 0 := by have := eqv c; omega
      rw [if_pos c'] at k
      refine ⟨_, rfl, R, x, _, rfl, A1.hR, lk_take, R, _, bs, a, x, q1, _, rfl, A1, ⟨0, 8, rfl, rfl⟩, ?_⟩
      cases e2 : Sh.numAt 0 8 Sh.ANY q1 (bs.drop q1) with
      | error e =>
        rw [e2] at k
        exact k
      | ok y =>
      obtain ⟨n2, q2, r2⟩ := y
      rw [e2] at k
      intro v2 H2 k2 h2 l2 g2 t2
      dsimp only at k h2 l2 g2 t2
      subst g2
      have K2 : Keep R H H2 := K1.trans k2
      have A2 := A1.step k2 h2 l2
      cases t2
      refine made rfl fun y dy H3 ny s3 hy => ?_
      exact k _ H3 (K2.trans (Keep.of s3)) (s3 _ _ h2) l2 rfl ⟨y, dy, rfl, K2.free h2 ny, hy⟩
    · have c' : ¬ n1 = 0 := fun e => neqv c (by rw [e]; rfl)
      rw [if_neg c'] at k
      refine ⟨_, rfl, rfl, _, rfl, ?_⟩
      refine ite2 (fun c1 => ?_) (fun c1 => ?_)
      · have c2 : n1 = 1 := by have := eqv c1; omega
        rw [if_pos c2] at k
        have k' : Give d bs a R x (RField d) H Q E (partedAt q1 (bs.drop q1)) := k
        refine ⟨_, rfl, R, _, bs, a, x, q1, _, rfl, A1, ⟨rfl, rfl⟩, ?_⟩
        exact Give.up K1 h1 (fun _ _ _ _ _ m z => RField.mv z m) k'
      · have c2 : ¬ n1 = 1 := fun e => neqv c1 (by rw [e]; rfl)
        rw [if_neg c2] at k
        have k' : Give d bs a R x (RField d) H Q E (variedAt q1 (bs.drop q1)) := k
        refine ⟨_, rfl, R, _, bs, a, x, q1, _, rfl, A1, ⟨rfl, rfl⟩, ?_⟩
        exact Give.up K1 h1 (fun _ _ _ _ _ m z => RField.mv z m) k'
/-! ### fills, layers -/
def preFill {α : Type} (d : Ad) (g : Sh.Field → Nat → Sh.Bytes → Except Nat (α × Nat × Sh.Bytes)) (H : Hp) (us : List V) (par : Nat → Sh.Bytes → Except Nat (α × Nat × Sh.Bytes)) : Prop :=
  ∃ (v : V) (f : Sh.Field) (H0 : Hp), us = [v] ∧ RField d H0 H v f ∧ par = g f
abbrev spFill (K : PySem.W.Frag) (d : Ad) : Sp := spRd K d (preFill d Sh.fillAt) (RFill d)
abbrev spLayer (K : PySem.W.Frag) (d : Ad) : Sp := spRd K d (preFill d Sh.layerAt) (RLayer d)
/-- isinstance(field, Plain) -/
theorem isPlain (T : Txt K mg d) {H0 H : Hp} {v : V} {f : Sh.Field} (h : RField d H0 H v f) : ∃ t, TyX K H v t ∧ PySem.W.kitOne K t (.ref d.cPlain) = some (!f.two.isSome) := by
  cases f with
  | plain t =>
    obtain ⟨b, dx, rfl, _, o⟩ := h
    exact ⟨_, .base (.ins o T.kPlain.cl T.kPlain.cla T.gs T.tk T.kPlain.mro), T.iPlain_Plain⟩
  | parted w l a c =>
    obtain ⟨b, dx, rfl, _, o⟩ := h
    exact ⟨_, .base (.ins o T.kParted.cl T.kParted.cla T.gs T.tk T.kParted.mro), T.iParted_Plain⟩
  | varied w n l a c =>
    obtain ⟨b, dx, rfl, _, o⟩ := h
    exact ⟨_, .base (.ins o T.kVaried.cl T.kVaried.cla T.gs T.tk T.kVaried.mro), T.iVaried_Plain⟩
theorem sc_take_fill : FnScope ["reader", "field", "counterchanged"] ["reader", "field"] (defScope s_take_fill) := ⟨rfl, rfl, rfl, by decide +kernel, rfl, by decide +kernel, by decide +kernel⟩
theorem ok_take_fill (T : Txt K mg d) : OkD P w K mg base (L2.CX P w) 11 d.f_take_fill ["reader", "field"] (spFill K d) := by
  obtain ⟨fd, F, B⟩ := T.k_take_fill.ex
  obtain ⟨⟨fd_Reader_take, G_Reader_take, B_Reader_take⟩, kp_Reader_take⟩ := ok_Reader_take (P := P) (w := w) (base := base) T
  obtain ⟨⟨fd_take_field, G_take_field, B_take_field⟩, kp_take_field⟩ := ok_take_field (P := P) (w := w) (base := base) T
  refine ⟨⟨fd, F.okX sc_take_fill (fun vs H Q E h => ?_) (fun cdv A outer s H vs Q E hr h => ?_), B⟩, F.kp⟩
  · obtain ⟨R, us, bs, a, x, p, par, rfl, _, ⟨v, f, H0, rfl, _, rfl⟩, _⟩ := h
    rfl
  · obtain ⟨R, us, bs, a, x, q0, par, rfl, A0, ⟨v, f, H0, rfl, hf, rfl⟩, k⟩ := h
    have hr_Reader_take : Room 3 _ := hr.mono (by decide)
    have hr_take_field : Room 9 _ := hr.mono (by decide)
    have K0 : Keep R H H := Keep.refl R H
    refine ⟨_, pss_cons (ps_set (i := 2) sc_take_fill.nd rfl (Or.inl rfl) (pe_meth (pv 0) T.kReader.cl T.kReader_take.me G_Reader_take hr_Reader_take B_Reader_take .nil passX (pa_cons pe_int (pa_cons (pe_ifExp (pt_val (pe_callB call_isi (by rfl) T.b_isinstance (by decide +kernel) (pa_cons (pv 1) (pa_cons (pe_glob (v := .ref d.cPlain) rfl T.kPlain.gl rfl) pa_nil)))) pe_int pe_int) pa_nil))))
      (pss_cons (ps_if (pt_cmpR op_eq (pv 2) pe_int (nomark _))
        (pss_one (ps_ret pe_non))
        pss_nil)
      (pss_one (ps_ret (pe_call G_take_field hr_take_field rfl T.k_take_field.gl kp_take_field B_take_field .nil passX (pa_cons (pv 0) pa_nil))))), ?_⟩
    unfold Sh.fillAt at k
    obtain ⟨ty, h1, h2⟩ := isPlain T hf
    refine ⟨_, rfl, R, x, _, rfl, A0.hR, lk_take, _, rfl, _, _, ty, _, _, rfl, ClsV.own _, h1, h2, _, rfl, ?_⟩
    refine ite2 (fun c => ?_) (fun c => ?_)
    · have c' : ¬ f.two.isSome = true := by
        intro z
        rw [z] at c
        cases c
      rw [if_neg c'] at k
      refine ⟨R, _, bs, a, x, q0, _, rfl, A0, ⟨0, 0, rfl, rfl⟩, ?_⟩
      cases e1 : Sh.numAt 0 0 Sh.ANY q0 (bs.drop q0) with
      | error e =>
        rw [e1] at k
        exact k
      | ok y =>
      obtain ⟨n1, q1, r1⟩ := y
      rw [e1] at k
      intro v1 H1 k1 h1 l1 g1 t1
      dsimp only at k h1 l1 g1 t1
      subst g1
      have K1 : Keep R H H1 := K0.trans k1
      have A1 := A0.step k1 h1 l1
      cases t1
      have b1 := (num_ok (x := 0) e1).2.2.1
      have c2 : ¬ n1 = 1 := by omega
      rw [if_neg c2] at k
      refine ⟨_, rfl, rfl, _, rfl, ?_⟩
      refine ite2 (fun c3 => absurd (eqv c3) (by omega)) (fun _ => ?_)
      refine ⟨_, rfl, R, _, bs, a, x, q1, _, rfl, A1, ⟨rfl, rfl⟩, ?_⟩
      cases e2 : Sh.fieldAt q1 (bs.drop q1) with
      | error e =>
        rw [e2] at k
        exact k
      | ok y =>
      obtain ⟨n2, q2, r2⟩ := y
      rw [e2] at k
      intro v2 H2 k2 h2 l2 g2 t2
      dsimp only at k h2 l2 g2 t2
      subst g2
      have K2 : Keep R H H2 := K1.trans k2
      have A2 := A1.step k2 h2 l2
      exact k _ H2 K2 h2 l2 rfl (RField.mv t2 (K1.mv h1))
    · have c' : f.two.isSome = true := by
        cases z : f.two.isSome with
        | true => rfl
        | false =>
          rw [z] at c
          exact absurd rfl c
      rw [if_pos c'] at k
      refine ⟨R, _, bs, a, x, q0, _, rfl, A0, ⟨0, 1, rfl, rfl⟩, ?_⟩
      cases e1 : Sh.numAt 0 1 Sh.ANY q0 (bs.drop q0) with
      | error e =>
        rw [e1] at k
        exact k
      | ok y =>
      obtain ⟨n1, q1, r1⟩ := y
      rw [e1] at k
      intro v1 H1 k1 h1 l1 g1 t1
      dsimp only at k h1 l1 g1 t1
      subst g1
      have K1 : Keep R H H1 := K0.trans k1
      have A1 := A0.step k1 h1 l1
      cases t1
      refine ⟨_, rfl, rfl, _, rfl, ?_⟩
      refine ite2 (fun c3 => ?_) (fun c3 => ?_)
      · have c4 : n1 = 1 := by have := eqv c3; omega
        rw [if_pos c4] at k
        exact k _ H1 K1 h1 l1 rfl rfl
      · have c4 : ¬ n1 = 1 := fun e => neqv c3 (by rw [e]; rfl)
        rw [if_neg c4] at k
        refine ⟨_, rfl, R, _, bs, a, x, q1, _, rfl, A1, ⟨rfl, rfl⟩, ?_⟩
        cases e2 : Sh.fieldAt q1 (bs.drop q1) with
        | error e =>
          rw [e2] at k
          exact k
        | ok y =>
        obtain ⟨n2, q2, r2⟩ := y
        rw [e2] at k
        intro v2 H2 k2 h2 l2 g2 t2
        dsimp only at k h2 l2 g2 t2
        subst g2
        have K2 : Keep R H H2 := K1.trans k2
        have A2 := A1.step k2 h2 l2
        exact k _ H2 K2 h2 l2 rfl (RField.mv t2 (K1.mv h1))
theorem sc_take_layer : FnScope ["reader", "field", "kind", "figure", "line", "charge", "many", "manner", "size"] ["reader", "field"] (defScope s_take_layer) := ⟨rfl, rfl, rfl, by decide +kernel, rfl, by decide +kernel, by decide +kernel⟩
theorem ok_take_layer (T : Txt K mg d) : OkD P w K mg base (L2.CX P w) 13 d.f_take_layer ["reader", "field"] (spLayer K d) := by
  obtain ⟨fd, F, B⟩ := T.k_take_layer.ex
  obtain ⟨⟨fd_Reader_take, G_Reader_take, B_Reader_take⟩, kp_Reader_take⟩ := ok_Reader_take (P := P) (w := w) (base := base) T
  obtain ⟨⟨fd_Group, G_Group, B_Group⟩, kp_Group⟩ := ok_Group_init (P := P) (w := w) (base := base) T
  obtain ⟨⟨fd_Ordinary, G_Ordinary, B_Ordinary⟩, kp_Ordinary⟩ := ok_Ordinary_init (P := P) (w := w) (base := base) T
  obtain ⟨⟨fd_take_fill, G_take_fill, B_take_fill⟩, kp_take_fill⟩ := ok_take_fill (P := P) (w := w) (base := base) T
  obtain ⟨c_LAST_CHARGE, m_LAST_CHARGE⟩ := T.nLAST_CHARGE
  obtain ⟨c_LAST_MANNER, m_LAST_MANNER⟩ := T.nLAST_MANNER
  obtain ⟨c_LAST_ORDINARY, m_LAST_ORDINARY⟩ := T.nLAST_ORDINARY
  obtain ⟨c_LAST_LINE, m_LAST_LINE⟩ := T.nLAST_LINE
  refine ⟨⟨fd, F.okX sc_take_layer (fun vs H Q E h => ?_) (fun cdv A outer s H vs Q E hr h => ?_), B⟩, F.kp⟩
  · obtain ⟨R, us, bs, a, x, p, par, rfl, _, ⟨v, f, H0, rfl, _, rfl⟩, _⟩ := h
    rfl
  · obtain ⟨R, us, bs, a, x, q0, par, rfl, A0, ⟨v, f, HF, rfl, hf, rfl⟩, k⟩ := h
    have hr_Reader_take : Room 3 _ := hr.mono (by decide)
    have hr_Group : Room 2 _ := hr.mono (by decide)
    have hr_Ordinary : Room 2 _ := hr.mono (by decide)
    have hr_take_fill : Room 11 _ := hr.mono (by decide)
    have K0 : Keep R H H := Keep.refl R H
    refine ⟨_, pss_cons (ps_set (i := 2) sc_take_layer.nd rfl (Or.inl rfl) (pe_meth (pv 0) T.kReader.cl T.kReader_take.me G_Reader_take hr_Reader_take B_Reader_take .nil passX (pa_cons pe_int (pa_cons pe_int pa_nil))))
      (pss_cons (ps_if (pt_cmpR op_eq (pv 2) pe_int (nomark _))
        (pss_cons (ps_set (i := 3) sc_take_layer.nd rfl (Or.inl rfl) (pe_meth (pv 0) T.kReader.cl T.kReader_take.me G_Reader_take hr_Reader_take B_Reader_take .nil passX (pa_cons pe_int (pa_cons (pgi m_LAST_ORDINARY) pa_nil))))
      (pss_cons (ps_set (i := 4) sc_take_layer.nd rfl (Or.inl rfl) (pe_meth (pv 0) T.kReader.cl T.kReader_take.me G_Reader_take hr_Reader_take B_Reader_take .nil passX (pa_cons pe_int (pa_cons (pgi m_LAST_LINE) pa_nil))))
      (pss_one (ps_ret (pe_make T.kOrdinary.mak G_Ordinary hr_Ordinary rfl T.kOrdinary.gl B_Ordinary .nil pass0 (pa_cons (pv 3) (pa_cons (pv 4) (pa_cons (pe_call G_take_fill hr_take_fill rfl T.k_take_fill.gl kp_take_fill B_take_fill .nil passX (pa_cons (pv 0) (pa_cons (pv 1) pa_nil))) pa_nil))))))))
        pss_nil)
      (pss_cons (ps_set (i := 5) sc_take_layer.nd rfl (Or.inl rfl) (pe_meth (pv 0) T.kReader.cl T.kReader_take.me G_Reader_take hr_Reader_take B_Reader_take .nil passX (pa_cons pe_int (pa_cons (pgi m_LAST_CHARGE) pa_nil))))
      (pss_cons (ps_set (i := 6) sc_take_layer.nd rfl (Or.inl rfl) (pe_meth (pv 0) T.kReader.cl T.kReader_take.me G_Reader_take hr_Reader_take B_Reader_take .nil passX (pa_cons pe_int (pa_cons pe_int pa_nil))))
      (pss_cons (ps_set (i := 7) sc_take_layer.nd rfl (Or.inl rfl) (pe_meth (pv 0) T.kReader.cl T.kReader_take.me G_Reader_take hr_Reader_take B_Reader_take .nil passX (pa_cons pe_int (pa_cons (pgi m_LAST_MANNER) pa_nil))))
      (pss_cons (ps_set (i := 8) sc_take_layer.nd rfl (Or.inl rfl) (pe_meth (pv 0) T.kReader.cl T.kReader_take.me G_Reader_take hr_Reader_take B_Reader_take .nil passX (pa_cons pe_int (pa_cons pe_int pa_nil))))
      (pss_one (ps_ret (pe_make T.kGroup.mak G_Group hr_Group rfl T.kGroup.gl B_Group .nil pass0 (pa_cons (pv 5) (pa_cons (pv 6) (pa_cons (pv 7) (pa_cons (pv 8) (pa_cons (pe_call G_take_fill hr_take_fill rfl T.k_take_fill.gl kp_take_fill B_take_fill .nil passX (pa_cons (pv 0) (pa_cons (pv 1) pa_nil))) pa_nil))))))))))))), ?_⟩
    unfold Sh.layerAt at k
    refine ⟨_, rfl, R, x, _, rfl, A0.hR, lk_take, R, _, bs, a, x, q0, _, rfl, A0, ⟨0, 1, rfl, rfl⟩, ?_⟩
    cases e1 : Sh.numAt 0 1 Sh.ANY q0 (bs.drop q0) with
    | error e =>
      rw [e1] at k
      exact k
    | ok y =>
    obtain ⟨n1, q1, r1⟩ := y
    rw [e1] at k
    intro v1 H1 k1 h1 l1 g1 t1
    dsimp only at k h1 l1 g1 t1
    subst g1
    have K1 : Keep R H H1 := K0.trans k1
    have A1 := A0.step k1 h1 l1
    cases t1
    refine ⟨_, rfl, rfl, _, rfl, ?_⟩
    refine ite2 (fun c => ?_) (fun c => ?_)
    · have c' : n1 = 0 := by have := eqv c; omega
      rw [if_pos c'] at k
      refine ⟨_, rfl, R, x, _, rfl, A1.hR, lk_take, R, _, bs, a, x, q1, _, rfl, A1, ⟨0, 12, rfl, rfl⟩, ?_⟩
      cases e2 : Sh.numAt 0 12 Sh.ANY q1 (bs.drop q1) with
      | error e =>
        rw [e2] at k
        exact k
      | ok y =>
      obtain ⟨n2, q2, r2⟩ := y
      rw [e2] at k
      intro v2 H2 k2 h2 l2 g2 t2
      dsimp only at k h2 l2 g2 t2
      subst g2
      have K2 : Keep R H H2 := K1.trans k2
      have A2 := A1.step k2 h2 l2
      cases t2
      refine ⟨_, rfl, R, x, _, rfl, A2.hR, lk_take, R, _, bs, a, x, q2, _, rfl, A2, ⟨0, 5, rfl, rfl⟩, ?_⟩
      cases e3 : Sh.numAt 0 5 Sh.ANY q2 (bs.drop q2) with
      | error e =>
        rw [e3] at k
        exact k
      | ok y =>
      obtain ⟨n3, q3, r3⟩ := y
      rw [e3] at k
      intro v3 H3 k3 h3 l3 g3 t3
      dsimp only at k h3 l3 g3 t3
      subst g3
      have K3 : Keep R H H3 := K2.trans k3
      have A3 := A2.step k3 h3 l3
      cases t3
      refine ⟨_, rfl, _, rfl, _, rfl, _, rfl, R, _, bs, a, x, q3, _, rfl, A3, ⟨v, f, HF, rfl, hf.stay A0.hR K3, rfl⟩, ?_⟩
      cases e4 : Sh.fillAt f q3 (bs.drop q3) with
      | error e =>
        rw [e4] at k
        exact k
      | ok y =>
      obtain ⟨n4, q4, r4⟩ := y
      rw [e4] at k
      intro v4 H4 k4 h4 l4 g4 t4
      dsimp only at k h4 l4 g4 t4
      subst g4
      have K4 : Keep R H H4 := K3.trans k4
      have A4 := A3.step k4 h4 l4
      refine made rfl fun y dy H5 ny s5 hy => ?_
      exact k _ H5 (K4.trans (Keep.of s5)) (s5 _ _ h4) l4 rfl ⟨v4, ⟨y, dy, rfl, K4.free h4 ny, hy⟩, RFill.mv t4 ((K3.mv h3).same s5)⟩
    · have c' : ¬ n1 = 0 := fun e => neqv c (by rw [e]; rfl)
      rw [if_neg c'] at k
      refine ⟨_, rfl, R, x, _, rfl, A1.hR, lk_take, R, _, bs, a, x, q1, _, rfl, A1, ⟨0, 15, rfl, rfl⟩, ?_⟩
      cases e2 : Sh.numAt 0 15 Sh.ANY q1 (bs.drop q1) with
      | error e =>
        rw [e2] at k
        exact k
      | ok y =>
      obtain ⟨n2, q2, r2⟩ := y
      rw [e2] at k
      intro v2 H2 k2 h2 l2 g2 t2
      dsimp only at k h2 l2 g2 t2
      subst g2
      have K2 : Keep R H H2 := K1.trans k2
      have A2 := A1.step k2 h2 l2
      cases t2
      refine ⟨_, rfl, R, x, _, rfl, A2.hR, lk_take, R, _, bs, a, x, q2, _, rfl, A2, ⟨1, 10, rfl, rfl⟩, ?_⟩
      cases e3 : Sh.numAt 1 10 Sh.ANY q2 (bs.drop q2) with
      | error e =>
        rw [e3] at k
        exact k
      | ok y =>
      obtain ⟨n3, q3, r3⟩ := y
      rw [e3] at k
      intro v3 H3 k3 h3 l3 g3 t3
      dsimp only at k h3 l3 g3 t3
      subst g3
      have K3 : Keep R H H3 := K2.trans k3
      have A3 := A2.step k3 h3 l3
      cases t3
      refine ⟨_, rfl, R, x, _, rfl, A3.hR, lk_take, R, _, bs, a, x, q3, _, rfl, A3, ⟨0, 6, rfl, rfl⟩, ?_⟩
      cases e4 : Sh.numAt 0 6 Sh.ANY q3 (bs.drop q3) with
      | error e =>
        rw [e4] at k
        exact k
      | ok y =>
      obtain ⟨n4, q4, r4⟩ := y
      rw [e4] at k
      intro v4 H4 k4 h4 l4 g4 t4
      dsimp only at k h4 l4 g4 t4
      subst g4
      have K4 : Keep R H H4 := K3.trans k4
      have A4 := A3.step k4 h4 l4
      cases t4
      refine ⟨_, rfl, R, x, _, rfl, A4.hR, lk_take, R, _, bs, a, x, q4, _, rfl, A4, ⟨1, 4, rfl, rfl⟩, ?_⟩
      cases e5 : Sh.numAt 1 4 Sh.ANY q4 (bs.drop q4) with
      | error e =>
        rw [e5] at k
        exact k
      | ok y =>
      obtain ⟨n5, q5, r5⟩ := y
      rw [e5] at k
      intro v5 H5 k5 h5 l5 g5 t5
      dsimp only at k h5 l5 g5 t5
      subst g5
      have K5 : Keep R H H5 := K4.trans k5
      have A5 := A4.step k5 h5 l5
      cases t5
      refine ⟨_, rfl, _, rfl, _, rfl, _, rfl, _, rfl, _, rfl, R, _, bs, a, x, q5, _, rfl, A5, ⟨v, f, HF, rfl, hf.stay A0.hR K5, rfl⟩, ?_⟩
      cases e6 : Sh.fillAt f q5 (bs.drop q5) with
      | error e =>
        rw [e6] at k
        exact k
      | ok y =>
      obtain ⟨n6, q6, r6⟩ := y
      rw [e6] at k
      intro v6 H6 k6 h6 l6 g6 t6
      dsimp only at k h6 l6 g6 t6
      subst g6
      have K6 : Keep R H H6 := K5.trans k6
      have A6 := A5.step k6 h6 l6
      refine made rfl fun y dy H7 ny s7 hy => ?_
      exact k _ H7 (K6.trans (Keep.of s7)) (s7 _ _ h6) l6 rfl ⟨v6, ⟨y, dy, rfl, K6.free h6 ny, hy⟩, RFill.mv t6 ((K5.mv h5).same s7)⟩
end
end HC

namespace HC
open PySem PySem.Spec PyProof.Rows L2
section
variable {P : Program} {w : World} {K : PySem.W.Frag} {mg : Str → Option Value} {base : Heap} {d : Ad}
/-! ### so many things, one behind another -/
abbrev Par (α : Type) := Nat → Sh.Bytes → Except Nat (α × Nat × Sh.Bytes)
def many {α : Type} (one : Par α) : Nat → Par (List α)
  | 0, p, b => .ok ([], p, b)
  | n + 1, p, b => match one p b with
    | .error e => .error e
    | .ok x => match many one n x.2.1 x.2.2 with
      | .error e => .error e
      | .ok l => .ok (x.1 :: l.1, l.2)
theorem layers_many (f : Sh.Field) : ∀ (n p : Nat) (b : Sh.Bytes), Sh.layersFrom f n p b = many (Sh.layerAt f) n p b
  | 0, _, _ => rfl
  | n + 1, p, b => by
    unfold Sh.layersFrom many
    cases Sh.layerAt f p b with
    | error e => rfl
    | ok x =>
      simp only [layers_many f n]
      cases many (Sh.layerAt f) n x.2.1 x.2.2 <;> rfl
def markAt : Par (Nat × Nat) := fun p b => match Sh.numAt 0 127 Sh.ANY p b with
  | .error e => .error e
  | .ok g => match Sh.numAt 1 255 Sh.ANY g.2.1 g.2.2 with
    | .error e => .error e
    | .ok k => .ok ((g.1, k.1), k.2)
theorem marks_many : ∀ (n p : Nat) (b : Sh.Bytes), ShMarsh.marksFrom n p b = many markAt n p b
  | 0, _, _ => rfl
  | n + 1, p, b => by
    unfold ShMarsh.marksFrom many
    rw [show markAt p b = (match Sh.numAt 0 127 Sh.ANY p b with
      | .error e => .error e
      | .ok g => match Sh.numAt 1 255 Sh.ANY g.2.1 g.2.2 with
        | .error e => .error e
        | .ok k => .ok ((g.1, k.1), k.2)) from rfl]
    cases Sh.numAt 0 127 Sh.ANY p b with
    | error e => rfl
    | ok g =>
      dsimp only
      cases Sh.numAt 1 255 Sh.ANY g.2.1 g.2.2 with
      | error e => rfl
      | ok k =>
        simp only [marks_many n]
        cases many markAt n k.2.1 k.2.2 <;> rfl
theorem several_many (one : Par ShMarsh.Coat) : ∀ (n p : Nat) (b : Sh.Bytes), ShMarsh.several one n p b = many one n p b
  | 0, _, _ => rfl
  | n + 1, p, b => by
    unfold ShMarsh.several many
    cases one p b with
    | error e => rfl
    | ok x =>
      simp only [several_many one n]
      cases many one n x.2.1 x.2.2 <;> rfl
/-- with these ahead -/
def ahead {α : Type} (xs : List α) : Except Nat (List α × Nat × Sh.Bytes) → Except Nat (List α × Nat × Sh.Bytes)
  | .error e => .error e
  | .ok y => .ok (xs ++ y.1, y.2)
theorem ahead_nil {α : Type} (r : Except Nat (List α × Nat × Sh.Bytes)) : r = ahead [] r := by cases r <;> rfl
theorem ahead_err {α : Type} {one : Par α} {xs : List α} {m q e : Nat} {b : Sh.Bytes} (h : one q b = .error e) : ahead xs (many one (m + 1) q b) = .error e := by
  unfold many
  rw [h]
  rfl
theorem ahead_ok {α : Type} {one : Par α} {xs : List α} {m q q' : Nat} {b b' : Sh.Bytes} {y : α} (h : one q b = .ok (y, q', b')) : ahead xs (many one (m + 1) q b) = ahead (xs ++ [y]) (many one m q' b') := by
  rw [show many one (m + 1) q b = (match one q b with
    | .error e => .error e
    | .ok x => match many one m x.2.1 x.2.2 with
      | .error e => .error e
      | .ok l => .ok (x.1 :: l.1, l.2)) from rfl, h]
  dsimp only
  cases many one m q' b' with
  | error e => rfl
  | ok l =>
    show Except.ok (xs ++ y :: l.1, l.2) = Except.ok (xs ++ [y] ++ l.1, l.2)
    rw [List.append_assoc]
    rfl
/-! ### a list that grows in a loop, at l; H2 the heap ahead of the loop -/
/-- the bytes are not at l, or they are of the text -/
def Far (K : PySem.W.Frag) (bs : List UInt8) (a l : Addr) : Prop := a ≠ l ∨ ∀ H, SqL K H a (vals bs)
theorem At.far {bs : List UInt8} {a R x l : Addr} {H : Hp} {p : Nat} (A : At K d bs a R x H p) (nl : H l = none) : Far K bs a l := by
  rcases A.sq with (z | ⟨o, z⟩) | z
  · exact .inl (ne_of_none z nl)
  · exact .inl (ne_of_none z nl)
  · exact .inr fun H => .inr z
theorem At.off {bs : List UInt8} {a R x l : Addr} {H : Hp} {p : Nat} {o : HO} (A : At K d bs a R x H p) (f : Far K bs a l) (n : R ≠ l) : At K d bs a R x (upd H l o) p := by
  refine ⟨by rw [upd_ne n]; exact A.hR, ?_, A.le⟩
  rcases f with f | f
  · rcases A.sq with (z | ⟨o', z⟩) | z
    · exact .inl (.inl (by rw [upd_ne f]; exact z))
    · exact .inl (.inr ⟨o', by rw [upd_ne f]; exact z⟩)
    · exact .inr z
  · exact f _
structure Lp {α : Type} (K : PySem.W.Frag) (d : Ad) (bs : List UInt8) (a R x l : Addr) (R1 : Hp → Hp → V → α → Prop) (one : Par α) (n p : Nat) (H2 : Hp) (i : Nat) (Hc : Hp) (q : Nat) (us : List V) (xs : List α) : Prop where
  kp : ∀ b o, b ≠ R → b ≠ l → H2 b = some o → Hc b = some o
  hl : Hc l = some (.lst us)
  at_ : At K d bs a R x Hc q
  all : All2 (R1 H2 Hc) us xs
  len : us.length = i
  far : Far K bs a l
  eq : many one n p (bs.drop p) = ahead xs (many one (n - i) q (bs.drop q))
theorem Lp.start {α : Type} {bs : List UInt8} {a R x l : Addr} {R1 : Hp → Hp → V → α → Prop} {one : Par α} {n p : Nat} {H2 : Hp} (hl : H2 l = some (.lst [])) (A : At K d bs a R x H2 p) (f : Far K bs a l) : Lp K d bs a R x l R1 one n p H2 0 H2 p [] [] :=
  ⟨fun _ _ _ _ h => h, hl, A, .nil, rfl, f, ahead_nil _⟩
/-- the second start: the reader has gone on since the list was made -/
theorem Lp.ne {α : Type} {bs : List UInt8} {a R x l : Addr} {R1 : Hp → Hp → V → α → Prop} {one : Par α} {n p i q : Nat} {H2 Hc : Hp} {us : List V} {xs : List α} (L : Lp K d bs a R x l R1 one n p H2 i Hc q us xs) : l ≠ R := ne_of L.hl L.at_.hR (by intro z; cases z)
theorem Lp.free {α : Type} {bs : List UInt8} {a R x l : Addr} {R1 : Hp → Hp → V → α → Prop} {one : Par α} {n p i q : Nat} {H2 Hc : Hp} {us : List V} {xs : List α} (L : Lp K d bs a R x l R1 one n p H2 i Hc q us xs) {b : Addr} (h : Hc b = none) : H2 b = none := by
  cases e : H2 b with
  | none => rfl
  | some o =>
    have h1 : b ≠ R := fun z => by rw [z, L.at_.hR] at h; cases h
    have h2 : b ≠ l := fun z => by rw [z, L.hl] at h; cases h
    rw [L.kp b o h1 h2 e] at h
    cases h
theorem Lp.turn {α : Type} {bs : List UInt8} {a R x l : Addr} {R1 : Hp → Hp → V → α → Prop} (mv : ∀ (H0 H H0' H' : Hp) (v : V) (y : α), Mv H0 H H0' H' → R1 H0 H v y → R1 H0' H' v y) {one : Par α} {n p i q q' : Nat} {H2 Hc H' : Hp} {us : List V} {xs : List α} {o oR : HO}
    (h2R : H2 R = some oR) (h2l : H2 l = some o) (L : Lp K d bs a R x l R1 one n p H2 i Hc q us xs) (hi : i < n) {y : α} {v : V} (e : one q (bs.drop q) = .ok (y, q', bs.drop q')) (k : Keep R Hc H') (hR : H' R = some (rdr d x a q')) (hq : q' ≤ bs.length) (r : R1 Hc H' v y) :
    Lp K d bs a R x l R1 one n p H2 (i + 1) (upd H' l (.lst (us ++ [v]))) q' (us ++ [v]) (xs ++ [y]) := by
  have nlR := L.ne
  have old : Mv H2 Hc H2 (upd H' l (.lst (us ++ [v]))) := ⟨fun _ h => h, fun b o' n h => by
    rw [upd_ne (fun z => by rw [z, h2l] at n; cases n)]
    exact k b o' (fun z => by rw [z, h2R] at n; cases n) h⟩
  have new : Mv Hc H' H2 (upd H' l (.lst (us ++ [v]))) := ⟨fun b h => L.free h, fun b o' n h => by
    rw [upd_ne (fun z => by rw [z, L.hl] at n; cases n)]
    exact h⟩
  refine ⟨fun b o' h1 h2 h => ?_, upd_same, ?_, ?_, ?_, L.far, ?_⟩
  · rw [upd_ne h2]
    exact k b o' h1 (L.kp b o' h1 h2 h)
  · exact (L.at_.step k hR hq).off L.far nlR.symm
  · exact (L.all.mono fun v' y' z => mv _ _ _ _ _ _ old z).snoc (mv _ _ _ _ _ _ new r)
  · rw [List.length_append, L.len]
    rfl
  · have e1 : n - i = (n - (i + 1)) + 1 := by omega
    rw [L.eq, e1, ahead_ok e]
/-! ### arms -/
abbrev spArms (K : PySem.W.Frag) (d : Ad) : Sp := spRd K d (pre0 ShMarsh.armsFrom) (RArms d)
theorem sc_take_arms : FnScope ["reader", "field", "layers", "k"] ["reader"] (defScope s_take_arms) := ⟨rfl, rfl, rfl, by decide +kernel, rfl, by decide +kernel, by decide +kernel⟩
theorem ok_take_arms (T : Txt K mg d) : OkD P w K mg base (L2.CX P w) 15 d.f_take_arms ["reader"] (spArms K d) := by
  obtain ⟨fd, F, B⟩ := T.k_take_arms.ex
  obtain ⟨⟨fd_take_field, G_take_field, B_take_field⟩, kp_take_field⟩ := ok_take_field (P := P) (w := w) (base := base) T
  obtain ⟨⟨fd_Arms, G_Arms, B_Arms⟩, kp_Arms⟩ := ok_Arms_init (P := P) (w := w) (base := base) T
  obtain ⟨⟨fd_Reader_take, G_Reader_take, B_Reader_take⟩, kp_Reader_take⟩ := ok_Reader_take (P := P) (w := w) (base := base) T
  obtain ⟨⟨fd_take_layer, G_take_layer, B_take_layer⟩, kp_take_layer⟩ := ok_take_layer (P := P) (w := w) (base := base) T
  obtain ⟨c_MOST_LAYERS, m_MOST_LAYERS⟩ := T.nMOST_LAYERS
  refine ⟨⟨fd, F.okX sc_take_arms (fun vs H Q E h => ?_) (fun cdv A outer s H vs Q E hr h => ?_), B⟩, F.kp⟩
  · obtain ⟨R, us, bs, a, x, p, par, rfl, _, ⟨rfl, rfl⟩, _⟩ := h
    rfl
  · obtain ⟨R, us, bs, a, x, q0, par, rfl, A0, ⟨rfl, rfl⟩, k⟩ := h
    have hr_take_field : Room 9 _ := hr.mono (by decide)
    have hr_Arms : Room 2 _ := hr.mono (by decide)
    have hr_Reader_take : Room 3 _ := hr.mono (by decide)
    have hr_take_layer : Room 13 _ := hr.mono (by decide)
    have K0 : Keep R H H := Keep.refl R H
    refine ⟨_, pss_cons (ps_set (i := 1) sc_take_arms.nd rfl (Or.inl rfl) (pe_call G_take_field hr_take_field rfl T.k_take_field.gl kp_take_field B_take_field .nil passX (pa_cons (pv 0) pa_nil)))
      (pss_cons (ps_set (i := 2) sc_take_arms.nd rfl (Or.inl rfl) (pe_lst pa_nil))
      (pss_cons (ps_for ownX rfl (pi_range1 rfl T.b_range (pa_cons (pe_meth (pv 0) T.kReader.cl T.kReader_take.me G_Reader_take hr_Reader_take B_Reader_take .nil passX (pa_cons pe_int (pa_cons (pgi m_MOST_LAYERS) pa_nil))) pa_nil)) (pg_name (i := 3) sc_take_arms.nd rfl (Or.inl rfl))
        (pss_one (ps_expr (pe_bm PySem.F.plainAttrs_list PySem.F.slot_list_append PySem.F.type_list_append mt_append (pv 2) (pa_cons (pe_call G_take_layer hr_take_layer rfl T.k_take_layer.gl kp_take_layer B_take_layer .nil passX (pa_cons (pv 0) (pa_cons (pv 1) pa_nil))) pa_nil)))))
      (pss_one (ps_ret (pe_make T.kArms.mak G_Arms hr_Arms rfl T.kArms.gl B_Arms .nil pass0 (pa_cons (pv 1) (pa_cons (pv 2) pa_nil))))))), ?_⟩
    unfold ShMarsh.armsFrom at k
    refine ⟨_, rfl, R, _, bs, a, x, q0, _, rfl, A0, ⟨rfl, rfl⟩, ?_⟩
    cases e1 : Sh.fieldAt q0 (bs.drop q0) with
    | error e =>
      rw [e1] at k
      exact k
    | ok y =>
    obtain ⟨n1, q1, r1⟩ := y
    rw [e1] at k
    intro v1 H1 k1 h1 l1 g1 t1
    dsimp only at k h1 l1 g1 t1
    subst g1
    have K1 : Keep R H H1 := K0.trans k1
    have A1 := A0.step k1 h1 l1
    refine ⟨Nat.zero_le _, fun l nl => ?_⟩
    have nlR : l ≠ R := (ne_of_none h1 nl).symm
    have A2 : At K d bs a R x (upd H1 l (.lst [])) q1 := A1.off (A1.far nl) nlR.symm
    have far := A1.far nl
    have nlH : H l = none := K1.free h1 nl
    have K2 : Keep R H (upd H1 l (.lst [])) := fun b o nb hb => by
      rw [upd_ne (ne_of_none hb nlH)]
      exact K1 b o nb hb
    refine ⟨_, rfl, R, x, _, rfl, A2.hR, lk_take, R, _, bs, a, x, q1, _, rfl, A2, ⟨0, Sh.MOST, rfl, rfl⟩, ?_⟩
    cases e3 : Sh.numAt 0 Sh.MOST Sh.ANY q1 (bs.drop q1) with
    | error e =>
      rw [e3] at k
      exact k
    | ok y =>
    obtain ⟨n3, q3, r3⟩ := y
    rw [e3] at k
    have b3 := (num_ok (x := 0) e3).2.2.1
    have b4 : n3 ≤ 8 := b3
    intro v3 H3 k3 h3 l3 g3 t3
    dsimp only at k h3 l3 g3 t3
    subst g3
    cases t3
    have A3 := A2.step k3 h3 l3
    have h3l : H3 l = some (.lst []) := k3 l _ nlR upd_same
    have K3 : Keep R H H3 := K2.trans k3
    have t3 : RField d H H3 v1 n1 := RField.mv t1 ⟨fun _ h => h, fun b o n h => k3 b o (fun z => by rw [z, A0.hR] at n; cases n) (by rw [upd_ne (ne_of_none h nl)]; exact h)⟩
    rw [layers_many] at k
    refine ⟨_, rfl, by omega, by omega, ?_⟩
    refine for_range (lo := 0) (n := n3) (fun i σ Hc => ∃ (q : Nat) (us : List V) (xs : List Sh.Layer) (v : Option V), σ = [some (.ref R), some v1, some (.ref l), v] ∧ Lp K d bs a R x l (RLayer d) (Sh.layerAt n1) n3 q3 H3 i Hc q us xs)
      ⟨q3, [], [], none, rfl, Lp.start h3l A3 far⟩ ?_ ?_
    · rintro i σ Hc hi ⟨q, us, xs, v, rfl, L⟩
      have fc : RField d H Hc v1 n1 := RField.ins t3 fun b C dx fs n h => L.kp b _ (fun z => by rw [z, A0.hR] at n; cases n) (fun z => by rw [z, h3l] at h; cases h) h
      refine ⟨_, rfl, .inl ⟨rfl, _, SqL.of L.hl⟩, _, rfl, _, rfl, R, _, bs, a, x, q, _, rfl, L.at_, ⟨v1, n1, H, rfl, fc, rfl⟩, ?_⟩
      cases e5 : Sh.layerAt n1 q (bs.drop q) with
      | error e =>
        have e6 : n3 - i = (n3 - (i + 1)) + 1 := by omega
        rw [L.eq, e6, ahead_err e5] at k
        exact k
      | ok y =>
        obtain ⟨n5, q5, r5⟩ := y
        intro v5 H5 k5 h5 l5 g5 t5
        dsimp only at h5 l5 g5 t5
        subst g5
        refine ⟨l, us, v5, rfl, rfl, k5 l _ L.ne L.hl, ?_, ?_⟩
        · rw [L.len]
          exact Nat.lt_of_lt_of_le hi (Nat.le_trans b4 (by decide))
        · exact ⟨q5, _, _, _, rfl, Lp.turn (R1 := RLayer d) (fun _ _ _ _ _ _ m z => RLayer.mv z m) h3 h3l L hi e5 k5 h5 l5 t5⟩
    · rintro σ Hc ⟨q, us, xs, v, rfl, L⟩
      refine ⟨_, rfl, _, rfl, ?_⟩
      refine made rfl fun y dy H7 ny s7 hy => ?_
      have ee : many (Sh.layerAt n1) n3 q3 (bs.drop q3) = .ok (xs, q, bs.drop q) := by
        rw [L.eq, Nat.sub_self]
        show Except.ok (xs ++ [], q, bs.drop q) = _
        rw [List.append_nil]
      rw [ee] at k
      have kc : Keep R H Hc := fun b o nb hb => L.kp b o nb (ne_of_none hb nlH) (K3 b o nb hb)
      have fc : RField d H Hc v1 n1 := RField.ins t3 fun b C dx fs n h => L.kp b _ (fun z => by rw [z, A0.hR] at n; cases n) (fun z => by rw [z, h3l] at h; cases h) h
      refine k _ H7 (kc.trans (Keep.of s7)) (s7 _ _ L.at_.hR) L.at_.le rfl ⟨v1, l, us, ⟨y, dy, rfl, kc.free L.at_.hR ny, hy⟩, fc.mv (Mv.here s7), ⟨nlH, s7 _ _ L.hl⟩, ?_⟩
      exact L.all.mono fun _ _ z => RLayer.mv z ⟨fun b h => K3.free h3 h, fun b o _ h => s7 b o h⟩
end
end HC

namespace HC
open PySem PySem.Spec PyProof.Rows L2
section
variable {P : Program} {w : World} {K : PySem.W.Frag} {mg : Str → Option Value} {base : Heap} {d : Ad}
theorem Mv.keep {R : Addr} {H0 H H0' H' H2 : Hp} {o : HO} (m : Mv H0 H H0' H') (hR : H0 R = some o) (k : Keep R H' H2) : Mv H0 H H0' H2 :=
  ⟨m.nw, fun b u n h => k b u (fun z => by rw [z, hR] at n; cases n) (m.st b u n h)⟩
theorem Mv.id (H0 H : Hp) : Mv H0 H H0 H := ⟨fun _ h => h, fun _ _ _ h => h⟩
/-! ### marks -/
def marksAt : Par (List (Nat × Nat)) := fun p b => match Sh.numAt 0 ShMarsh.MARKS Sh.ANY p b with
  | .error e => .error e
  | .ok n => ShMarsh.marksFrom n.1 n.2.1 n.2.2
abbrev spMarks (K : PySem.W.Frag) (d : Ad) : Sp := spRd K d (pre0 marksAt) (RMarks d)
theorem sc_take_marks : FnScope ["reader", "marks", "slot", "g"] ["reader"] (defScope s_take_marks) := ⟨rfl, rfl, rfl, by decide +kernel, rfl, by decide +kernel, by decide +kernel⟩
theorem ok_take_marks (T : Txt K mg d) : OkD P w K mg base (L2.CX P w) 7 d.f_take_marks ["reader"] (spMarks K d) := by
  obtain ⟨fd, F, B⟩ := T.k_take_marks.ex
  obtain ⟨⟨fd_Reader_take, G_Reader_take, B_Reader_take⟩, kp_Reader_take⟩ := ok_Reader_take (P := P) (w := w) (base := base) T
  obtain ⟨⟨fd_Mark, G_Mark, B_Mark⟩, kp_Mark⟩ := ok_Mark_init (P := P) (w := w) (base := base) T
  obtain ⟨c_MOST_MARKS, m_MOST_MARKS⟩ := T.nMOST_MARKS
  obtain ⟨c_MOST_G, m_MOST_G⟩ := T.nMOST_G
  obtain ⟨c_LEAST_K, m_LEAST_K⟩ := T.nLEAST_K
  obtain ⟨c_MOST_K, m_MOST_K⟩ := T.nMOST_K
  refine ⟨⟨fd, F.okX sc_take_marks (fun vs H Q E h => ?_) (fun cdv A outer s H vs Q E hr h => ?_), B⟩, F.kp⟩
  · obtain ⟨R, us, bs, a, x, p, par, rfl, _, ⟨rfl, rfl⟩, _⟩ := h
    rfl
  · obtain ⟨R, us, bs, a, x, q0, par, rfl, A0, ⟨rfl, rfl⟩, k⟩ := h
    have hr_Reader_take : Room 3 _ := hr.mono (by decide)
    have hr_Mark : Room 2 _ := hr.mono (by decide)
    have K0 : Keep R H H := Keep.refl R H
    refine ⟨_, pss_cons (ps_set (i := 1) sc_take_marks.nd rfl (Or.inl rfl) (pe_lst pa_nil))
      (pss_cons (ps_for ownX rfl (pi_range1 rfl T.b_range (pa_cons (pe_meth (pv 0) T.kReader.cl T.kReader_take.me G_Reader_take hr_Reader_take B_Reader_take .nil passX (pa_cons pe_int (pa_cons (pgi m_MOST_MARKS) pa_nil))) pa_nil)) (pg_name (i := 2) sc_take_marks.nd rfl (Or.inl rfl))
        (pss_cons (ps_set (i := 3) sc_take_marks.nd rfl (Or.inl rfl) (pe_meth (pv 0) T.kReader.cl T.kReader_take.me G_Reader_take hr_Reader_take B_Reader_take .nil passX (pa_cons pe_int (pa_cons (pgi m_MOST_G) pa_nil))))
      (pss_one (ps_expr (pe_bm PySem.F.plainAttrs_list PySem.F.slot_list_append PySem.F.type_list_append mt_append (pv 1) (pa_cons (pe_make T.kMark.mak G_Mark hr_Mark rfl T.kMark.gl B_Mark .nil pass0 (pa_cons (pv 3) (pa_cons (pe_meth (pv 0) T.kReader.cl T.kReader_take.me G_Reader_take hr_Reader_take B_Reader_take .nil passX (pa_cons (pgi m_LEAST_K) (pa_cons (pgi m_MOST_K) pa_nil))) pa_nil))) pa_nil))))))
      (pss_one (ps_ret (pv 1)))), ?_⟩
    unfold marksAt at k
    refine ⟨Nat.zero_le _, fun l nl => ?_⟩
    have nlR : l ≠ R := (ne_of_none A0.hR nl).symm
    have far := A0.far nl
    have A2 : At K d bs a R x (upd H l (.lst [])) q0 := A0.off far nlR.symm
    have K2 : Keep R H (upd H l (.lst [])) := fun b o nb hb => by
      rw [upd_ne (ne_of_none hb nl)]
      exact hb
    refine ⟨_, rfl, R, x, _, rfl, A2.hR, lk_take, R, _, bs, a, x, q0, _, rfl, A2, ⟨0, ShMarsh.MARKS, rfl, rfl⟩, ?_⟩
    cases e3 : Sh.numAt 0 ShMarsh.MARKS Sh.ANY q0 (bs.drop q0) with
    | error e =>
      rw [e3] at k
      exact k
    | ok y =>
    obtain ⟨n3, q3, r3⟩ := y
    rw [e3] at k
    have b3 := (num_ok (x := 0) e3).2.2.1
    have b4 : n3 ≤ 60 := b3
    intro v3 H3 k3 h3 l3 g3 t3
    dsimp only at k h3 l3 g3 t3
    subst g3
    cases t3
    have A3 := A2.step k3 h3 l3
    have h3l : H3 l = some (.lst []) := k3 l _ nlR upd_same
    have K3 : Keep R H H3 := K2.trans k3
    rw [marks_many] at k
    refine ⟨_, rfl, by omega, by omega, ?_⟩
    refine for_range (lo := 0) (n := n3) (fun i σ Hc => ∃ (q : Nat) (us : List V) (xs : List (Nat × Nat)) (v g : Option V), σ = [some (.ref R), some (.ref l), v, g] ∧ Lp K d bs a R x l (RMark d) markAt n3 q3 H3 i Hc q us xs)
      ⟨q3, [], [], none, none, rfl, Lp.start h3l A3 far⟩ ?_ ?_
    · rintro i σ Hc hi ⟨q, us, xs, v, g, rfl, L⟩
      have e6 : n3 - i = (n3 - (i + 1)) + 1 := by omega
      refine ⟨_, rfl, R, x, _, rfl, L.at_.hR, lk_take, R, _, bs, a, x, q, _, rfl, L.at_, ⟨0, 127, rfl, rfl⟩, ?_⟩
      cases e4 : Sh.numAt 0 127 Sh.ANY q (bs.drop q) with
      | error e =>
        have e5 : markAt q (bs.drop q) = .error e := by
          unfold markAt
          rw [e4]
        rw [L.eq, e6, ahead_err e5] at k
        exact k
      | ok y =>
      obtain ⟨n4, q4, r4⟩ := y
      intro v4 H4 k4 h4 l4 g4 t4
      dsimp only at h4 l4 g4 t4
      subst g4
      cases t4
      have A4 := L.at_.step k4 h4 l4
      refine ⟨_, rfl, .inl ⟨rfl, _, SqL.of (k4 l _ L.ne L.hl)⟩, _, rfl, _, rfl, R, x, _, rfl, A4.hR, lk_take, R, _, bs, a, x, q4, _, rfl, A4, ⟨1, 255, rfl, rfl⟩, ?_⟩
      cases e7 : Sh.numAt 1 255 Sh.ANY q4 (bs.drop q4) with
      | error e =>
        have e5 : markAt q (bs.drop q) = .error e := by
          unfold markAt
          rw [e4]
          dsimp only
          rw [e7]
        rw [L.eq, e6, ahead_err e5] at k
        exact k
      | ok y =>
      obtain ⟨n7, q7, r7⟩ := y
      intro v7 H7 k7 h7 l7 g7 t7
      dsimp only at h7 l7 g7 t7
      subst g7
      cases t7
      have e5 : markAt q (bs.drop q) = .ok ((n4, n7), q7, bs.drop q7) := by
        unfold markAt
        rw [e4]
        dsimp only
        rw [e7]
      have K7 : Keep R Hc H7 := k4.trans k7
      refine made rfl fun y dy H8 ny s8 hy => ?_
      have K8 : Keep R Hc H8 := K7.trans (Keep.of s8)
      refine ⟨l, us, _, rfl, rfl, K8 l _ L.ne L.hl, ?_, ?_⟩
      · rw [L.len]
        exact Nat.lt_of_lt_of_le hi (Nat.le_trans b4 (by decide))
      · exact ⟨q7, _, _, _, _, rfl, Lp.turn (R1 := RMark d) (fun _ _ _ _ _ _ m z => RMark.mv z m) h3 h3l L hi e5 K8 (s8 _ _ h7) l7 ⟨y, dy, rfl, K7.free h7 ny, hy⟩⟩
    · rintro σ Hc ⟨q, us, xs, v, g, rfl, L⟩
      have ee : many markAt n3 q3 (bs.drop q3) = .ok (xs, q, bs.drop q) := by
        rw [L.eq, Nat.sub_self]
        show Except.ok (xs ++ [], q, bs.drop q) = _
        rw [List.append_nil]
      rw [ee] at k
      have kc : Keep R H Hc := fun b o nb hb => L.kp b o nb (ne_of_none hb nl) (K3 b o nb hb)
      refine ⟨_, rfl, k _ Hc kc L.at_.hR L.at_.le rfl ⟨l, us, rfl, ⟨nl, L.hl⟩, ?_⟩⟩
      exact L.all.mono fun _ _ z => RMark.mv z ⟨fun b h => K3.free h3 h, fun b o _ h => h⟩
/-! ### marked arms -/
abbrev spMarked (K : PySem.W.Frag) (d : Ad) : Sp := spRd K d (pre0 ShMarsh.markedFrom) (RMarked d)
theorem sc_take_marked : FnScope ["reader", "arms", "canton"] ["reader"] (defScope s_take_marked) := ⟨rfl, rfl, rfl, by decide +kernel, rfl, by decide +kernel, by decide +kernel⟩
theorem ok_take_marked (T : Txt K mg d) : OkD P w K mg base (L2.CX P w) 17 d.f_take_marked ["reader"] (spMarked K d) := by
  obtain ⟨fd, F, B⟩ := T.k_take_marked.ex
  obtain ⟨⟨fd_take_arms, G_take_arms, B_take_arms⟩, kp_take_arms⟩ := ok_take_arms (P := P) (w := w) (base := base) T
  obtain ⟨⟨fd_Marked, G_Marked, B_Marked⟩, kp_Marked⟩ := ok_Marked_init (P := P) (w := w) (base := base) T
  obtain ⟨⟨fd_Reader_take, G_Reader_take, B_Reader_take⟩, kp_Reader_take⟩ := ok_Reader_take (P := P) (w := w) (base := base) T
  obtain ⟨⟨fd_take_marks, G_take_marks, B_take_marks⟩, kp_take_marks⟩ := ok_take_marks (P := P) (w := w) (base := base) T
  refine ⟨⟨fd, F.okX sc_take_marked (fun vs H Q E h => ?_) (fun cdv A outer s H vs Q E hr h => ?_), B⟩, F.kp⟩
  · obtain ⟨R, us, bs, a, x, p, par, rfl, _, ⟨rfl, rfl⟩, _⟩ := h
    rfl
  · obtain ⟨R, us, bs, a, x, q0, par, rfl, A0, ⟨rfl, rfl⟩, k⟩ := h
    have hr_take_arms : Room 15 _ := hr.mono (by decide)
    have hr_Marked : Room 2 _ := hr.mono (by decide)
    have hr_Reader_take : Room 3 _ := hr.mono (by decide)
    have hr_take_marks : Room 7 _ := hr.mono (by decide)
    have K0 : Keep R H H := Keep.refl R H
    refine ⟨_, pss_cons (ps_set (i := 1) sc_take_marked.nd rfl (Or.inl rfl) (pe_call G_take_arms hr_take_arms rfl T.k_take_arms.gl kp_take_arms B_take_arms .nil passX (pa_cons (pv 0) pa_nil)))
      (pss_cons (ps_set (i := 2) sc_take_marked.nd rfl (Or.inl rfl) pe_non)
      (pss_cons (ps_if (pt_cmpR op_eq (pe_meth (pv 0) T.kReader.cl T.kReader_take.me G_Reader_take hr_Reader_take B_Reader_take .nil passX (pa_cons pe_int (pa_cons pe_int pa_nil))) pe_int (nomark _))
        (pss_one (ps_set (i := 2) sc_take_marked.nd rfl (Or.inl rfl) (pe_call G_take_arms hr_take_arms rfl T.k_take_arms.gl kp_take_arms B_take_arms .nil passX (pa_cons (pv 0) pa_nil))))
        pss_nil)
      (pss_one (ps_ret (pe_make T.kMarked.mak G_Marked hr_Marked rfl T.kMarked.gl B_Marked .nil pass0 (pa_cons (pv 1) (pa_cons (pv 2) (pa_cons (pe_call G_take_marks hr_take_marks rfl T.k_take_marks.gl kp_take_marks B_take_marks .nil passX (pa_cons (pv 0) pa_nil)) pa_nil)))))))), ?_⟩
    unfold ShMarsh.markedFrom at k
    refine ⟨_, rfl, R, _, bs, a, x, q0, _, rfl, A0, ⟨rfl, rfl⟩, ?_⟩
    cases e1 : ShMarsh.armsFrom q0 (bs.drop q0) with
    | error e =>
      rw [e1] at k
      exact k
    | ok y =>
    obtain ⟨n1, q1, r1⟩ := y
    rw [e1] at k
    intro v1 H1 k1 h1 l1 g1 t1
    dsimp only at k h1 l1 g1 t1
    subst g1
    have K1 : Keep R H H1 := K0.trans k1
    have A1 := A0.step k1 h1 l1
    refine ⟨_, rfl, R, x, _, rfl, A1.hR, lk_take, R, _, bs, a, x, q1, _, rfl, A1, ⟨0, 1, rfl, rfl⟩, ?_⟩
    cases e2 : Sh.numAt 0 1 Sh.ANY q1 (bs.drop q1) with
    | error e =>
      rw [e2] at k
      exact k
    | ok y =>
    obtain ⟨n2, q2, r2⟩ := y
    rw [e2] at k
    intro v2 H2 k2 h2 l2 g2 t2
    dsimp only at k h2 l2 g2 t2
    subst g2
    have K2 : Keep R H H2 := K1.trans k2
    have A2 := A1.step k2 h2 l2
    cases t2
    refine ⟨rfl, _, rfl, ?_⟩
    refine ite2 (fun c => ?_) (fun c => ?_)
    · have c' : ¬ n2 = 0 := by have := eqv c; omega
      rw [if_neg c'] at k
      refine ⟨_, rfl, R, _, bs, a, x, q2, _, rfl, A2, ⟨rfl, rfl⟩, ?_⟩
      cases e3 : ShMarsh.armsFrom q2 (bs.drop q2) with
      | error e =>
        rw [e3] at k
        exact k
      | ok y =>
      obtain ⟨n3, q3, r3⟩ := y
      rw [e3] at k
      intro v3 H3 k3 h3 l3 g3 t3
      dsimp only [Except.map] at k h3 l3 g3 t3
      subst g3
      have K3 : Keep R H H3 := K2.trans k3
      have A3 := A2.step k3 h3 l3
      refine ⟨_, rfl, _, rfl, _, rfl, R, _, bs, a, x, q3, _, rfl, A3, ⟨rfl, rfl⟩, ?_⟩
      cases e4 : marksAt q3 (bs.drop q3) with
      | error e =>
        unfold marksAt at e4
        cases e5 : Sh.numAt 0 ShMarsh.MARKS Sh.ANY q3 (bs.drop q3) with
        | error e' =>
          rw [e5] at e4 k
          cases e4
          exact k
        | ok n =>
          rw [e5] at e4 k
          dsimp only at e4 k
          rw [e4] at k
          exact k
      | ok y =>
      obtain ⟨n4, q4, r4⟩ := y
      intro v4 H4 k4 h4 l4 g4 t4
      dsimp only at h4 l4 g4 t4
      subst g4
      have K4 : Keep R H H4 := K3.trans k4
      refine made rfl fun y dy H5 ny s5 hy => ?_
      have k' : Give d bs a R x (RMarked d) H Q E (.ok (⟨n1, some n3, n4⟩, q4, bs.drop q4)) := by
        unfold marksAt at e4
        cases e5 : Sh.numAt 0 ShMarsh.MARKS Sh.ANY q3 (bs.drop q3) with
        | error e' =>
          rw [e5] at e4
          cases e4
        | ok n =>
          rw [e5] at e4 k
          dsimp only at e4 k
          rw [e4] at k
          exact k
      refine k' _ H5 (K4.trans (Keep.of s5)) (s5 _ _ h4) l4 rfl ⟨v1, v3, v4, ⟨y, dy, rfl, K4.free h4 ny, hy⟩, ?_, ?_, ?_⟩
      · exact RArms.mv t1 ((((Mv.id H H1).keep A0.hR k2).keep A0.hR k3).keep A0.hR (k4.trans (Keep.of s5)))
      · exact RArms.mv t3 (((K2.mv h2).keep h2 k4).same s5)
      · exact RMarks.mv t4 ((K3.mv h3).same s5)
    · have b2 := (num_ok (x := 0) e2).2.2.1
      have c' : n2 = 0 := by
        have := neqv c
        omega
      rw [if_pos c'] at k
      dsimp only at k
      refine ⟨_, rfl, _, rfl, _, rfl, R, _, bs, a, x, q2, _, rfl, A2, ⟨rfl, rfl⟩, ?_⟩
      cases e4 : marksAt q2 (bs.drop q2) with
      | error e =>
        unfold marksAt at e4
        cases e5 : Sh.numAt 0 ShMarsh.MARKS Sh.ANY q2 (bs.drop q2) with
        | error e' =>
          rw [e5] at e4 k
          cases e4
          exact k
        | ok n =>
          rw [e5] at e4 k
          dsimp only at e4 k
          rw [e4] at k
          exact k
      | ok y =>
      obtain ⟨n4, q4, r4⟩ := y
      intro v4 H4 k4 h4 l4 g4 t4
      dsimp only at h4 l4 g4 t4
      subst g4
      have K4 : Keep R H H4 := K2.trans k4
      refine made rfl fun y dy H5 ny s5 hy => ?_
      have k' : Give d bs a R x (RMarked d) H Q E (.ok (⟨n1, none, n4⟩, q4, bs.drop q4)) := by
        unfold marksAt at e4
        cases e5 : Sh.numAt 0 ShMarsh.MARKS Sh.ANY q2 (bs.drop q2) with
        | error e' =>
          rw [e5] at e4
          cases e4
        | ok n =>
          rw [e5] at e4 k
          dsimp only at e4 k
          rw [e4] at k
          exact k
      refine k' _ H5 (K4.trans (Keep.of s5)) (s5 _ _ h4) l4 rfl ⟨v1, .non, v4, ⟨y, dy, rfl, K4.free h4 ny, hy⟩, ?_, rfl, ?_⟩
      · exact RArms.mv t1 (((Mv.id H H1).keep A0.hR k2).keep A0.hR (k4.trans (Keep.of s5)))
      · exact RMarks.mv t4 ((K2.mv h2).same s5)
end
end HC

namespace HC
open PySem PySem.Spec PyProof.Rows L2
section
variable {P : Program} {w : World} {K : PySem.W.Frag} {mg : Str → Option Value} {base : Heap} {d : Ad}
/-! ### coats -/
/-- a coat n deep at most, at the depth 5 - n -/
def preCoat (n : Nat) (_ : Hp) (us : List V) (par : Par ShMarsh.Coat) : Prop := ∃ z : Int, us = [.int z] ∧ z = 5 - (n : Int) ∧ 0 < n ∧ par = ShMarsh.coatFrom n
abbrev spCoat (K : PySem.W.Frag) (d : Ad) (n : Nat) : Sp := spRd K d (preCoat n) (RC d)
def quartAt (n : Nat) : Par ShMarsh.Coat := fun p b => match Sh.numAt 2 ShMarsh.QUARTERS Sh.ANY p b with
  | .error e => .error e
  | .ok m => match ShMarsh.several (ShMarsh.coatFrom n) m.1 m.2.1 m.2.2 with
    | .error e => .error e
    | .ok l => .ok (.quarters l.1, l.2)
def preQuart (n : Nat) (_ : Hp) (us : List V) (par : Par ShMarsh.Coat) : Prop := ∃ z : Int, us = [.int z] ∧ z + 1 = 5 - (n : Int) ∧ 0 < n ∧ par = quartAt n
abbrev spQuart (K : PySem.W.Frag) (d : Ad) (n : Nat) : Sp := spRd K d (preQuart n) (RC d)
def lc : Nat → Nat
  | 0 => 18
  | n + 1 => lc n + 1 + 1
theorem lc_le : ∀ n, 18 ≤ lc n
  | 0 => Nat.le_refl _
  | n + 1 => by
    have := lc_le n
    show 18 ≤ lc n + 1 + 1
    omega
theorem sc_take_quarterly : FnScope ["reader", "depth", "coats", "k"] ["reader", "depth"] (defScope s_take_quarterly) := ⟨rfl, rfl, rfl, by decide +kernel, rfl, by decide +kernel, by decide +kernel⟩
theorem ok_take_quarterly (T : Txt K mg d) {n : Nat} (hC : OkD P w K mg base (L2.CX P w) (lc n) d.f_take_coat ["reader", "depth"] (spCoat K d n)) : OkD P w K mg base (L2.CX P w) (lc n + 1) d.f_take_quarterly ["reader", "depth"] (spQuart K d n) := by
  obtain ⟨fd, F, B⟩ := T.k_take_quarterly.ex
  obtain ⟨⟨fd_take_coat, G_take_coat, B_take_coat⟩, kp_take_coat⟩ := hC
  obtain ⟨⟨fd_Reader_take, G_Reader_take, B_Reader_take⟩, kp_Reader_take⟩ := ok_Reader_take (P := P) (w := w) (base := base) T
  obtain ⟨⟨fd_Quarterly, G_Quarterly, B_Quarterly⟩, kp_Quarterly⟩ := ok_Quarterly_init (P := P) (w := w) (base := base) T
  obtain ⟨c_FEWEST_QUARTERS, m_FEWEST_QUARTERS⟩ := T.nFEWEST_QUARTERS
  obtain ⟨c_MOST_QUARTERS, m_MOST_QUARTERS⟩ := T.nMOST_QUARTERS
  refine ⟨⟨fd, F.okX sc_take_quarterly (fun vs H Q E h => ?_) (fun cdv A outer s H vs Q E hr h => ?_), B⟩, F.kp⟩
  · obtain ⟨R, us, bs, a, x, p, par, rfl, _, ⟨z, rfl, _⟩, _⟩ := h
    rfl
  · obtain ⟨R, us, bs, a, x, q0, par, rfl, A0, ⟨z, rfl, hz, hn, rfl⟩, k⟩ := h
    have hlc := lc_le n
    have hr_take_coat : Room (lc n) _ := hr
    have hr_Reader_take : Room 3 _ := hr.mono (by omega)
    have hr_Quarterly : Room 2 _ := hr.mono (by omega)
    refine ⟨_, pss_cons (ps_set (i := 2) sc_take_quarterly.nd rfl (Or.inl rfl) (pe_lst pa_nil))
      (pss_cons (ps_for ownX rfl (pi_range1 rfl T.b_range (pa_cons (pe_meth (pv 0) T.kReader.cl T.kReader_take.me G_Reader_take hr_Reader_take B_Reader_take .nil passX (pa_cons (pgi m_FEWEST_QUARTERS) (pa_cons (pgi m_MOST_QUARTERS) pa_nil))) pa_nil)) (pg_name (i := 3) sc_take_quarterly.nd rfl (Or.inl rfl))
        (pss_one (ps_expr (pe_bm PySem.F.plainAttrs_list PySem.F.slot_list_append PySem.F.type_list_append mt_append (pv 2) (pa_cons (pe_call G_take_coat hr_take_coat rfl T.k_take_coat.gl kp_take_coat B_take_coat .nil passX (pa_cons (pv 0) (pa_cons (pe_op op_add (pv 1) pe_int) pa_nil))) pa_nil)))))
      (pss_one (ps_ret (pe_make T.kQuarterly.mak G_Quarterly hr_Quarterly rfl T.kQuarterly.gl B_Quarterly .nil pass0 (pa_cons (pv 2) pa_nil))))), ?_⟩
    unfold quartAt at k
    refine ⟨Nat.zero_le _, fun l nl => ?_⟩
    have nlR : l ≠ R := (ne_of_none A0.hR nl).symm
    have far := A0.far nl
    have A2 : At K d bs a R x (upd H l (.lst [])) q0 := A0.off far nlR.symm
    have K2 : Keep R H (upd H l (.lst [])) := fun b o nb hb => by
      rw [upd_ne (ne_of_none hb nl)]
      exact hb
    refine ⟨_, rfl, R, x, _, rfl, A2.hR, lk_take, R, _, bs, a, x, q0, _, rfl, A2, ⟨2, ShMarsh.QUARTERS, rfl, rfl⟩, ?_⟩
    cases e3 : Sh.numAt 2 ShMarsh.QUARTERS Sh.ANY q0 (bs.drop q0) with
    | error e =>
      rw [e3] at k
      exact k
    | ok y =>
    obtain ⟨n3, q3, r3⟩ := y
    rw [e3] at k
    have b3 := (num_ok (x := 0) e3).2.2.1
    have b4 : n3 ≤ 9 := b3
    intro v3 H3 k3 h3 l3 g3 t3
    dsimp only at k h3 l3 g3 t3
    subst g3
    cases t3
    have A3 := A2.step k3 h3 l3
    have h3l : H3 l = some (.lst []) := k3 l _ nlR upd_same
    have K3 : Keep R H H3 := K2.trans k3
    rw [several_many] at k
    refine ⟨_, rfl, by omega, by omega, ?_⟩
    refine for_range (lo := 0) (n := n3) (fun i σ Hc => ∃ (q : Nat) (us : List V) (xs : List ShMarsh.Coat) (v : Option V), σ = [some (.ref R), some (.int z), some (.ref l), v] ∧ Lp K d bs a R x l (RC d) (ShMarsh.coatFrom n) n3 q3 H3 i Hc q us xs)
      ⟨q3, [], [], none, rfl, Lp.start h3l A3 far⟩ ?_ ?_
    · rintro i σ Hc hi ⟨q, us, xs, v, rfl, L⟩
      refine ⟨_, rfl, .inl ⟨rfl, _, SqL.of L.hl⟩, _, rfl, _, rfl, _, _, rfl, rfl, R, _, bs, a, x, q, _, rfl, L.at_, ⟨_, rfl, hz, hn, rfl⟩, ?_⟩
      cases e5 : ShMarsh.coatFrom n q (bs.drop q) with
      | error e =>
        have e6 : n3 - i = (n3 - (i + 1)) + 1 := by omega
        rw [L.eq, e6, ahead_err e5] at k
        exact k
      | ok y =>
        obtain ⟨n5, q5, r5⟩ := y
        intro v5 H5 k5 h5 l5 g5 t5
        dsimp only at h5 l5 g5 t5
        subst g5
        refine ⟨l, us, v5, rfl, rfl, k5 l _ L.ne L.hl, ?_, ?_⟩
        · rw [L.len]
          exact Nat.lt_of_lt_of_le hi (Nat.le_trans b4 (by decide))
        · exact ⟨q5, _, _, _, rfl, Lp.turn (R1 := RC d) (fun _ _ _ _ _ _ m z => RC.mv z m) h3 h3l L hi e5 k5 h5 l5 t5⟩
    · rintro σ Hc ⟨q, us, xs, v, rfl, L⟩
      refine ⟨_, rfl, ?_⟩
      refine made rfl fun y dy H7 ny s7 hy => ?_
      have ee : many (ShMarsh.coatFrom n) n3 q3 (bs.drop q3) = .ok (xs, q, bs.drop q) := by
        rw [L.eq, Nat.sub_self]
        show Except.ok (xs ++ [], q, bs.drop q) = _
        rw [List.append_nil]
      rw [ee] at k
      have kc : Keep R H Hc := fun b o nb hb => L.kp b o nb (ne_of_none hb nl) (K3 b o nb hb)
      refine k _ H7 (kc.trans (Keep.of s7)) (s7 _ _ L.at_.hR) L.at_.le rfl ⟨l, us, ⟨y, dy, rfl, kc.free L.at_.hR ny, hy⟩, ⟨nl, s7 _ _ L.hl⟩, ?_⟩
      exact rcoats_of (L.all.mono fun _ _ z => RC.mv z ⟨fun b h => K3.free h3 h, fun b o _ h => s7 b o h⟩)
theorem sc_take_coat : FnScope ["reader", "depth", "kind", "first", "second"] ["reader", "depth"] (defScope s_take_coat) := ⟨rfl, rfl, rfl, by decide +kernel, rfl, by decide +kernel, by decide +kernel⟩
theorem ok_take_coat (T : Txt K mg d) : ∀ n : Nat, OkD P w K mg base (L2.CX P w) (lc n) d.f_take_coat ["reader", "depth"] (spCoat K d n)
  | 0 => by
    obtain ⟨fd, F, B⟩ := T.k_take_coat.ex
    refine ⟨⟨fd, ?_, B⟩, F.kp⟩
    refine F.okX (k := 17) sc_take_coat (fun vs H Q E h => ?_) (fun cdv A outer s H vs Q E hr h => ?_)
    · obtain ⟨R, us, bs, a, x, p, par, rfl, _, ⟨z, rfl, _⟩, _⟩ := h
      rfl
    · obtain ⟨R, us, bs, a, x, p, par, rfl, _, ⟨z, rfl, _, hn, _⟩, _⟩ := h
      exact absurd hn (Nat.lt_irrefl _)
  | n + 1 => by
    have hC := ok_take_coat T n
    obtain ⟨⟨fd_take_quarterly, G_take_quarterly, B_take_quarterly⟩, kp_take_quarterly⟩ := ok_take_quarterly T hC
    obtain ⟨⟨fd_take_coat, G_take_coat, B_take_coat⟩, kp_take_coat⟩ := hC
    obtain ⟨fd, F, B⟩ := T.k_take_coat.ex
    obtain ⟨⟨fd_Reader_take, G_Reader_take, B_Reader_take⟩, kp_Reader_take⟩ := ok_Reader_take (P := P) (w := w) (base := base) T
    obtain ⟨⟨fd_take_marked, G_take_marked, B_take_marked⟩, kp_take_marked⟩ := ok_take_marked (P := P) (w := w) (base := base) T
    obtain ⟨⟨fd_Impaled, G_Impaled, B_Impaled⟩, kp_Impaled⟩ := ok_Impaled_init (P := P) (w := w) (base := base) T
    obtain ⟨⟨fd_Pretence, G_Pretence, B_Pretence⟩, kp_Pretence⟩ := ok_Pretence_init (P := P) (w := w) (base := base) T
    obtain ⟨c_MOST_DEEP, m_MOST_DEEP⟩ := T.nMOST_DEEP
    refine ⟨⟨fd, ?_, B⟩, F.kp⟩
    refine F.okX (k := lc n + 1) sc_take_coat (fun vs H Q E h => ?_) (fun cdv A outer s H vs Q E hr h => ?_)
    · obtain ⟨R, us, bs, a, x, p, par, rfl, _, ⟨z, rfl, _⟩, _⟩ := h
      rfl
    · obtain ⟨R, us, bs, a, x, q0, par, rfl, A0, ⟨z, rfl, hz, hn, rfl⟩, k⟩ := h
      have hlc := lc_le n
      have hr_take_quarterly : Room (lc n + 1) _ := hr
      have hr_take_coat : Room (lc n) _ := hr.mono (Nat.le_succ _)
      have hr_Reader_take : Room 3 _ := hr.mono (by omega)
      have hr_take_marked : Room 17 _ := hr.mono (by omega)
      have hr_Impaled : Room 2 _ := hr.mono (by omega)
      have hr_Pretence : Room 2 _ := hr.mono (by omega)
      have K0 : Keep R H H := Keep.refl R H
      refine ⟨_, pss_cons (ps_set (i := 2) sc_take_coat.nd rfl (Or.inl rfl) (pe_meth (pv 0) T.kReader.cl T.kReader_take.me G_Reader_take hr_Reader_take B_Reader_take .nil passX (pa_cons pe_int (pa_cons (pe_ifExp (pt_cmpR op_lt (pv 1) (pgi m_MOST_DEEP) (nomark _)) pe_int pe_int) pa_nil))))
      (pss_cons (ps_if (pt_cmpR op_eq (pv 2) pe_int (nomark _))
        (pss_one (ps_ret (pe_call G_take_marked hr_take_marked rfl T.k_take_marked.gl kp_take_marked B_take_marked .nil passX (pa_cons (pv 0) pa_nil))))
        pss_nil)
      (pss_cons (ps_if (pt_cmpR op_eq (pv 2) pe_int (nomark _))
        (pss_one (ps_ret (pe_call G_take_quarterly hr_take_quarterly rfl T.k_take_quarterly.gl kp_take_quarterly B_take_quarterly .nil passX (pa_cons (pv 0) (pa_cons (pv 1) pa_nil)))))
        pss_nil)
      (pss_cons (ps_set (i := 3) sc_take_coat.nd rfl (Or.inl rfl) (pe_call G_take_coat hr_take_coat rfl T.k_take_coat.gl kp_take_coat B_take_coat .nil passX (pa_cons (pv 0) (pa_cons (pe_op op_add (pv 1) pe_int) pa_nil))))
      (pss_cons (ps_set (i := 4) sc_take_coat.nd rfl (Or.inl rfl) (pe_call G_take_coat hr_take_coat rfl T.k_take_coat.gl kp_take_coat B_take_coat .nil passX (pa_cons (pv 0) (pa_cons (pe_op op_add (pv 1) pe_int) pa_nil))))
      (pss_cons (ps_if (pt_cmpR op_eq (pv 2) pe_int (nomark _))
        (pss_one (ps_ret (pe_make T.kImpaled.mak G_Impaled hr_Impaled rfl T.kImpaled.gl B_Impaled .nil pass0 (pa_cons (pv 3) (pa_cons (pv 4) pa_nil)))))
        pss_nil)
      (pss_one (ps_ret (pe_make T.kPretence.mak G_Pretence hr_Pretence rfl T.kPretence.gl B_Pretence .nil pass0 (pa_cons (pv 3) (pa_cons (pv 4) pa_nil)))))))))), ?_⟩
      unfold ShMarsh.coatFrom at k
      refine ⟨_, rfl, R, x, _, rfl, A0.hR, lk_take, _, rfl, _, _, rfl, rfl, _, rfl, ?_⟩
      refine ite2 (fun c => ?_) (fun c => ?_)
      · have c' : ¬ n = 0 := by
          have := of_decide_eq_true c
          omega
        rw [if_neg c'] at k
        have hn' : 0 < n := Nat.pos_of_ne_zero c'
        have hz' : z + 1 = 5 - (n : Int) := by omega
        refine ⟨R, _, bs, a, x, q0, _, rfl, A0, ⟨0, 3, rfl, rfl⟩, ?_⟩
        cases e1 : Sh.numAt 0 3 Sh.ANY q0 (bs.drop q0) with
        | error e =>
          rw [e1] at k
          exact k
        | ok y =>
        obtain ⟨n1, q1, r1⟩ := y
        rw [e1] at k
        intro v1 H1 k1 h1 l1 g1 t1
        dsimp only at k h1 l1 g1 t1
        subst g1
        have K1 : Keep R H H1 := K0.trans k1
        have A1 := A0.step k1 h1 l1
        cases t1
        refine ⟨_, rfl, rfl, _, rfl, ?_⟩
        refine ite2 (fun c1 => ?_) (fun c1 => ?_)
        · have c2 : n1 = 0 := by have := eqv c1; omega
          rw [if_pos c2] at k
          refine ⟨_, rfl, R, _, bs, a, x, q1, _, rfl, A1, ⟨rfl, rfl⟩, ?_⟩
          cases e2 : ShMarsh.markedFrom q1 (bs.drop q1) with
          | error e =>
            rw [e2] at k
            exact k
          | ok y =>
          obtain ⟨n2, q2, r2⟩ := y
          rw [e2] at k
          intro v2 H2 k2 h2 l2 g2 t2
          dsimp only at k h2 l2 g2 t2
          subst g2
          have K2 : Keep R H H2 := K1.trans k2
          have A2 := A1.step k2 h2 l2
          exact k _ H2 K2 h2 l2 rfl (RMarked.mv t2 (K1.mv h1))
        · have c2 : ¬ n1 = 0 := fun e => neqv c1 (by rw [e]; rfl)
          rw [if_neg c2] at k
          refine ⟨_, rfl, rfl, _, rfl, ?_⟩
          refine ite2 (fun c3 => ?_) (fun c3 => ?_)
          · have c4 : n1 = 1 := by have := eqv c3; omega
            rw [if_pos c4] at k
            have k' : Give d bs a R x (RC d) H Q E (quartAt n q1 (bs.drop q1)) := k
            refine ⟨_, rfl, _, rfl, R, _, bs, a, x, q1, _, rfl, A1, ⟨z, rfl, hz', hn', rfl⟩, ?_⟩
            exact Give.up K1 h1 (fun _ _ _ _ _ m z => RC.mv z m) k'
          · have c4 : ¬ n1 = 1 := fun e => neqv c3 (by rw [e]; rfl)
            rw [if_neg c4] at k
            refine ⟨_, rfl, _, rfl, _, _, rfl, rfl, R, _, bs, a, x, q1, _, rfl, A1, ⟨_, rfl, hz', hn', rfl⟩, ?_⟩
            cases e2 : ShMarsh.coatFrom n q1 (bs.drop q1) with
            | error e =>
              rw [e2] at k
              exact k
            | ok y =>
            obtain ⟨n2, q2, r2⟩ := y
            rw [e2] at k
            intro v2 H2 k2 h2 l2 g2 t2
            dsimp only at k h2 l2 g2 t2
            subst g2
            have K2 : Keep R H H2 := K1.trans k2
            have A2 := A1.step k2 h2 l2
            refine ⟨_, rfl, _, rfl, _, _, rfl, rfl, R, _, bs, a, x, q2, _, rfl, A2, ⟨_, rfl, hz', hn', rfl⟩, ?_⟩
            cases e3 : ShMarsh.coatFrom n q2 (bs.drop q2) with
            | error e =>
              rw [e3] at k
              exact k
            | ok y =>
            obtain ⟨n3, q3, r3⟩ := y
            rw [e3] at k
            intro v3 H3 k3 h3 l3 g3 t3
            dsimp only at k h3 l3 g3 t3
            subst g3
            have K3 : Keep R H H3 := K2.trans k3
            have A3 := A2.step k3 h3 l3
            refine ⟨_, rfl, rfl, _, rfl, ?_⟩
            refine ite2 (fun c5 => ?_) (fun c5 => ?_)
            · have c6 : n1 = 2 := by have := eqv c5; omega
              rw [if_pos c6] at k
              refine ⟨_, rfl, _, rfl, ?_⟩
              refine made rfl fun y dy H4 ny s4 hy => ?_
              refine k _ H4 (K3.trans (Keep.of s4)) (s4 _ _ h3) l3 rfl ⟨v2, v3, ⟨y, dy, rfl, K3.free h3 ny, hy⟩, ?_, ?_⟩
              · exact RC.mv t2 (((K1.mv h1).keep h1 k3).same s4)
              · exact RC.mv t3 ((K2.mv h2).same s4)
            · have c6 : ¬ n1 = 2 := fun e => neqv c5 (by rw [e]; rfl)
              rw [if_neg c6] at k
              refine ⟨_, rfl, _, rfl, ?_⟩
              refine made rfl fun y dy H4 ny s4 hy => ?_
              refine k _ H4 (K3.trans (Keep.of s4)) (s4 _ _ h3) l3 rfl ⟨v2, v3, ⟨y, dy, rfl, K3.free h3 ny, hy⟩, ?_, ?_⟩
              · exact RC.mv t2 (((K1.mv h1).keep h1 k3).same s4)
              · exact RC.mv t3 ((K2.mv h2).same s4)
      · have c' : n = 0 := by
          have := of_decide_eq_false (by simpa using c : decide (z < 4) = false)
          omega
        rw [if_pos c'] at k
        refine ⟨R, _, bs, a, x, q0, _, rfl, A0, ⟨0, 0, rfl, rfl⟩, ?_⟩
        cases e1 : Sh.numAt 0 0 Sh.ANY q0 (bs.drop q0) with
        | error e =>
          rw [e1] at k
          exact k
        | ok y =>
        obtain ⟨n1, q1, r1⟩ := y
        rw [e1] at k
        intro v1 H1 k1 h1 l1 g1 t1
        dsimp only at k h1 l1 g1 t1
        subst g1
        have K1 : Keep R H H1 := K0.trans k1
        have A1 := A0.step k1 h1 l1
        cases t1
        have b1 := (num_ok (x := 0) e1).2.2.1
        have c2 : n1 = 0 := by omega
        rw [if_pos c2] at k
        refine ⟨_, rfl, rfl, _, rfl, ?_⟩
        refine ite2 (fun c1 => ?_) (fun c1 => absurd (by rw [c2]; rfl) (neqv c1))
        refine ⟨_, rfl, R, _, bs, a, x, q1, _, rfl, A1, ⟨rfl, rfl⟩, ?_⟩
        cases e2 : ShMarsh.markedFrom q1 (bs.drop q1) with
        | error e =>
          rw [e2] at k
          exact k
        | ok y =>
        obtain ⟨n2, q2, r2⟩ := y
        rw [e2] at k
        intro v2 H2 k2 h2 l2 g2 t2
        dsimp only at k h2 l2 g2 t2
        subst g2
        have K2 : Keep R H H2 := K1.trans k2
        have A2 := A1.step k2 h2 l2
        exact k _ H2 K2 h2 l2 rfl (RMarked.mv t2 (K1.mv h1))
/-! ### decode -/
def spDecode (K : PySem.W.Frag) (d : Ad) : Sp := fun vs H Q E => ∃ (a : Addr) (bs : List UInt8), vs = [.ref a] ∧ SqL K H a (vals bs) ∧
  match ShMarsh.readCoat bs with
  | .error e => Err d E e
  | .ok c => ∀ v H', Same H H' → RC d H H' v c → Q v H'
theorem sc_decode : FnScope ["numbers", "reader", "coat"] ["numbers"] (defScope s_decode) := ⟨rfl, rfl, rfl, by decide +kernel, rfl, by decide +kernel, by decide +kernel⟩
theorem ok_decode (T : Txt K mg d) : OkD P w K mg base (L2.CX P w) 28 d.f_decode ["numbers"] (spDecode K d) := by
  obtain ⟨fd, F, B⟩ := T.k_decode.ex
  obtain ⟨⟨fd_Reader, G_Reader, B_Reader⟩, kp_Reader⟩ := ok_Reader_init (P := P) (w := w) (base := base) T
  obtain ⟨⟨fd_take_coat, G_take_coat, B_take_coat⟩, kp_take_coat⟩ := ok_take_coat (P := P) (w := w) (base := base) T 4
  obtain ⟨⟨fd_Reader_at_end, G_Reader_at_end, B_Reader_at_end⟩, kp_Reader_at_end⟩ := ok_Reader_at_end (P := P) (w := w) (base := base) T
  refine ⟨⟨fd, F.okX sc_decode (fun vs H Q E h => ?_) (fun cdv A outer s H vs Q E hr h => ?_), B⟩, F.kp⟩
  · obtain ⟨a, bs, rfl, _⟩ := h
    rfl
  · obtain ⟨a, bs, rfl, hS, k⟩ := h
    have hr_take_coat : Room (lc 4) _ := hr.mono (by decide)
    have hr_Reader : Room 2 _ := hr.mono (by decide)
    have hr_Reader_at_end : Room 1 _ := hr.mono (by decide)
    refine ⟨_, pss_cons (ps_set (i := 1) sc_decode.nd rfl (Or.inl rfl) (pe_make T.kReader.mak G_Reader hr_Reader rfl T.kReader.gl B_Reader .nil pass0 (pa_cons (pv 0) pa_nil)))
      (pss_cons (ps_set (i := 2) sc_decode.nd rfl (Or.inl rfl) (pe_call G_take_coat hr_take_coat rfl T.k_take_coat.gl kp_take_coat B_take_coat .nil passX (pa_cons (pv 1) (pa_cons pe_int pa_nil))))
      (pss_cons (ps_if (pt_not (pt_val (pe_meth0 (pv 1) T.kReader.cl T.kReader_at_end.me G_Reader_at_end hr_Reader_at_end B_Reader_at_end .nil pass0)))
        (pss_one (ps_raiseLow rfl T.xMisplaced hr takesX (pa_cons (pe_fld (pv 1) rfl) pa_nil)))
        pss_nil)
      (pss_one (ps_ret (pv 2))))), ?_⟩
    refine ⟨_, rfl, ?_⟩
    intro R x nR nx ne
    refine ⟨R, x, a, rfl, upd_same, fun H1 hb hR => ⟨rfl, ?_⟩⟩
    have s1 : Same H H1 := fun b o e => by
      rw [hb b (ne_of_none e nR), upd_ne (ne_of_none e nR), upd_ne (ne_of_none e nx)]
      exact e
    have A1 : At K d bs a R x H1 0 := ⟨hR, s1.seq hS, Nat.zero_le _⟩
    refine ⟨_, rfl, R, _, bs, a, x, 0, _, rfl, A1, ⟨_, rfl, by decide, by decide, rfl⟩, ?_⟩
    unfold ShMarsh.readCoat at k
    cases e2 : ShMarsh.coatFrom 4 0 (bs.drop 0) with
    | error e =>
      have e3 : ShMarsh.coatFrom ShMarsh.DEEP 0 bs = .error e := e2
      rw [e3] at k
      exact k
    | ok y =>
    obtain ⟨n2, q2, r2⟩ := y
    have e3 : ShMarsh.coatFrom ShMarsh.DEEP 0 bs = .ok (n2, q2, r2) := e2
    rw [e3] at k
    intro v2 H2 k2 h2 l2 g2 t2
    dsimp only at k h2 l2 g2 t2
    subst g2
    have A2 := A1.step k2 h2 l2
    refine ⟨_, rfl, R, x, _, rfl, A2.hR, lk_end, R, bs, a, x, q2, rfl, A2, _, rfl, ?_⟩
    by_cases c : q2 = bs.length
    · rw [decide_eq_true c]
      have c' : bs.drop q2 = [] := by rw [c, List.drop_length]
      rw [if_pos c'] at k
      refine iteF ?_
      refine ⟨_, rfl, k v2 H2 (fun b o e => k2 b o (ne_of_none e nR) (s1 b o e)) (RC.mv t2 ⟨fun b h => s1.free h, fun _ _ _ h => h⟩)⟩
    · rw [decide_eq_false c]
      have c' : ¬ bs.drop q2 = [] := fun z => c (by
        have := List.drop_eq_nil_iff.mp z
        omega)
      rw [if_neg c'] at k
      refine iteT ?_
      exact ⟨_, rfl, R, d.cReader, x, _, _, rfl, h2, T.kReader.cl, T.kReader.no.2.1, lk_pla, _, rfl, fun z hz => k z _ upd_same⟩
/-- return [-1, fault.place], fault the error that the suite holds at a (class cls, dict x), in slot i -/
def t_fault (d : Ad) (i : Nat) : Addr → Value → Option Addr → TS := fun a cls x => tRet (tLst (tCons (tUn (rU fun i => .int (-i)) (tC (.int 1))) (tCons (tByLow d.xMisplaced a cls x (tVar i)) tNil)))
end
end HC

namespace HC
open PySem L2
/-- the bytes that are handed in -/
def bytesOf (ns : List Int) : List UInt8 := ns.map fun n => UInt8.ofNat n.toNat
def Byt (ns : List Int) : Prop := ∀ n ∈ ns, 0 ≤ n ∧ n ≤ 255
theorem text_some {ns : List Int} (h : Byt ns) : CoatNeutral.text? ns = some (bytesOf ns) := by
  unfold CoatNeutral.text?
  rw [if_pos]
  · rfl
  · unfold NeutralIO.bytes
    rw [List.all_eq_true]
    intro n hn
    have := h n hn
    simp
    omega
theorem vals_of : ∀ {ns : List Int}, Byt ns → vals (bytesOf ns) = ns.map V.int
  | [], _ => rfl
  | n :: ns, h => by
    have h1 := h n List.mem_cons_self
    have ih := vals_of (ns := ns) fun m hm => h m (List.mem_cons_of_mem _ hm)
    show V.int ((UInt8.ofNat n.toNat).toNat : Int) :: vals (bytesOf ns) = V.int n :: ns.map V.int
    rw [ih]
    have e : ((UInt8.ofNat n.toNat).toNat : Int) = n := by
      rw [UInt8.toNat_ofNat']
      omega
    rw [e]
theorem f_of {c : CoatNeutral.Call} {x : ShCoats.Call} (h : CoatNeutral.callOf c = some x) : CoatNeutral.f c = (ShCoats.answer x).ret :: (((ShCoats.answer x).nums.map fun (n : Nat) => (n : Int)) ++ (ShCoats.answer x).bytes.map fun (b : UInt8) => (b.toNat : Int)) := by
  unfold CoatNeutral.f
  rw [h]
theorem check_is {ns : List Int} (h : Byt ns) : PyWqaqbh.check ns = match ShMarsh.readCoat (bytesOf ns) with
    | .error e => [-1, (e : Int)]
    | .ok _ => [0] := by
  have hc : CoatNeutral.callOf [[1], ns] = some (.check (bytesOf ns)) := by
    show (CoatNeutral.text? ns).map ShCoats.Call.check = _
    rw [text_some h]
    rfl
  show CoatNeutral.f [[1], ns] = _
  rw [f_of hc]
  unfold ShCoats.answer ShCoats.ofCoat
  dsimp only
  cases ShMarsh.readCoat (bytesOf ns) with
  | error e => rfl
  | ok c => rfl
theorem byt_of {l : List Int} (q : l.all (PySem.W.Codec.inInt 0 255) = true) : Byt l := by
  intro n hn
  have h := List.all_eq_true.mp q n hn
  unfold PySem.W.Codec.inInt at h
  simp at h
  omega
end HC
namespace HC
open PySem PySem.Spec PyProof.Rows L2 LamX NdefX
section
variable {P : Program} {w : World} {K : PySem.W.Frag} {mg : Str → Option Value} {base : Heap} {d : Ad}
/-! ### answered: the coat is taken in and handed on -/
def spAns (K : PySem.W.Frag) (d : Ad) (f : Addr) (sp : Sp) : Sp := fun vs H Q _ => ∃ (a : Addr) (bs : List UInt8), vs = [.ref a, .ref f] ∧ SqL K H a (vals bs) ∧ IsF H f ∧
  match ShMarsh.readCoat bs with
  | .error e => ∀ (H' : Hp) (q : Addr), H' q = some (.lst [.int (-1), vN e]) → Q (.ref q) H'
  | .ok c => ∀ v H', Same H H' → RC d H H' v c → sp [v] H' Q E0
theorem sc_answered : FnScope ["c", "tell", "coat", "fault"] ["c", "tell"] (defScope s_answered) := ⟨rfl, rfl, rfl, by decide +kernel, rfl, by decide +kernel, by decide +kernel⟩
theorem ok_answered (T : Txt K mg d) : ∃ fd, GivOk P w K mg base 40 39 d.f_answered fd ["c", "tell"] (spAns K d) ∧ Binds K fd ["c", "tell"] [] ∧ PySem.W.keepIn K (.ref d.f_answered) = true := by
  obtain ⟨fd, F, B⟩ := T.k_answered.ex
  obtain ⟨⟨fd_decode, G_decode, B_decode⟩, kp_decode⟩ := ok_decode (P := P) (w := w) (base := base) T
  refine ⟨fd, giv_of F sc_answered (fun f sp vs H Q E h => ?_) (fun cdv A outer s H vs Q f sp hr TL h => ?_), B, F.kp⟩
  · obtain ⟨a, bs, rfl, _⟩ := h
    rfl
  · obtain ⟨a, bs, rfl, hS, hF, k⟩ := h
    have hr_decode : Room 28 _ := hr.mono (by decide)
    refine ⟨_, pss_cons (ps_try_as (i := 3) (tb := fun W => tAsg (tCallS (spDecode K d) (WE W) (tCons (tVar 0) tNil)) (gName 2)) (ts := t_fault d 3) (Wout := fun _ _ _ _ => False) rfl rfl sc_answered.nd rfl rfl ⟨rfl, by decide, Or.inl T.xMisplaced.gC⟩ L2.takes0
        (fun W pn xe tk _ => pss_one (ps_set (i := 2) sc_answered.nd rfl (Or.inl rfl) (by exact (pe_callS G_decode hr_decode rfl T.k_decode.gl kp_decode B_decode (fun σ => passAt tk σ) (by exact (pa_cons (pv 0) pa_nil))))))
        (fun a oe cls x pn hz hf => pss_one (ps_ret (by exact (pe_lst (pa_cons (pe_un un_neg pe_int) (pa_cons (pe_byLow T.xMisplaced hz hf (pv 3)) pa_nil)))))))
      (pss_one (ps_ret (pe_tell (i := 1) (f := f) (sp := sp) TL rfl hr rfl (Or.inl rfl) (pa_cons (pv 2) pa_nil)))), ?_⟩
    refine ⟨_, rfl, a, bs, rfl, hS, ?_⟩
    cases e : ShMarsh.readCoat bs with
    | error e' =>
      rw [e] at k
      intro x H1 hx
      refine ⟨true, T.xMisplaced.te, fun _ a0 _ => ?_, fun q => Bool.noConfusion q⟩
      refine ⟨_, rfl, _, rfl, rfl, rfl, x, _, rfl, hx, ?_⟩
      exact ⟨(by show 2 ≤ sizeLine; decide), fun q hq => k _ q upd_same⟩
    | ok c =>
      rw [e] at k
      intro v H1 s1 t1
      exact ⟨rfl, hF.same s1, _, rfl, hF.same s1, k v H1 s1 t1⟩
/-- a call of one list of bytes -/
def spOne (g : List Int → List Int) (K : PySem.W.Frag) (cs : List (Addr × Addr)) : Sp := fun vs H Q _ => ∃ (a : Addr) (ns : List Int), vs = [.ref a] ∧ (∀ p ∈ cs, H p.2 = some (.tbl #[])) ∧ SqL K H a (ns.map V.int) ∧ Byt ns ∧
  ∀ (H' : Hp) (p : Addr), H' p = some (.lst ((g ns).map V.int)) → Q (.ref p) H'
end
end HC

namespace HC
open PySem PySem.Spec PyProof.Rows L2 LamX NdefX
section
variable {P : Program} {w : World} {K : PySem.W.Frag} {mg : Str → Option Value} {base : Heap} {d : Ad}
/-! ### check -/
abbrev spTop := spOne PyWqaqbh.check
abbrev mainTabs (d : Ad) : List (Addr × Addr) := [(d.c_check, d.t_check)]
theorem sc_check : FnScope ["c"] ["c"] (defScope s_check) := ⟨rfl, rfl, rfl, by decide +kernel, rfl, by decide +kernel, by decide +kernel⟩
theorem ok_top (T : Txt K mg d) (TB : ∀ p ∈ mainTabs d, TabB base mg p.1 p.2) {fd : FuncData} (F : Fun K "check" "check" s_check d.f_check fd) : FnOk P w K mg base CX0 42 d.f_check fd ["c"] (spTop K (mainTabs d)) := by
  obtain ⟨fd_a, G_a, B_a, kp_a⟩ := ok_answered (P := P) (w := w) (base := base) T
  have TB1 := TB _ List.mem_cons_self
  refine mak_ok F T.m_check sc_check (fun vs H Q E h => ?_) (fun A outer s H vs Q E hr h => ?_)
  · obtain ⟨a, ns, rfl, _⟩ := h
    rfl
  · obtain ⟨a, ns, rfl, hT, hS, hb, k⟩ := h
    have hT1 := hT _ List.mem_cons_self
    have hr_a : Room 40 _ := hr.mono (by decide)
    refine ⟨_, pss_one (ps_ret (pe_givL G_a hr_a rfl T.k_answered.gl kp_a B_a (pa_cons (pv 0) (pa_cons (pe_lam TB1 rfl rfl (ndef_free (sc := defScope s_check) (fr := []) (by decide +kernel))) pa_nil)))), ?_⟩
    rw [← vals_of hb] at hS
    rw [check_is hb] at k
    refine ⟨_, rfl, TabN.nil hT1, fun f c' H1 ext nf h1 h2 => ?_⟩
    refine lam_given (sp := fun vs _ Q _ => ∃ v, vs = [v] ∧ ∀ (H' : Hp) (p : Addr), H' p = some (.lst [.int 0]) → Q (.ref p) H') h1 (LOk.mono (k := 2) (lok_of (N := ["coat"]) (ps := ["coat"]) (nscope_by (by kernel_rfl)) rfl (fun _ _ _ us hl => match us, hl with | [_], _ => rfl) ?_ ?_) (by decide)) ⟨a, bytesOf ns, rfl, extN_seq ext.1 hS, .inr ⟨_, _, h1⟩, ?_⟩
    · rintro vs H Q E ⟨v, rfl, _⟩
      rfl
    · rintro A outer s H vs Q hr ⟨v, rfl, q⟩
      refine ⟨_, pe_lst (pa_cons pe_int pa_nil), (by show 1 ≤ sizeLine; decide), fun p hp => q _ p upd_same⟩
    · cases e : ShMarsh.readCoat (bytesOf ns) with
      | error e' =>
        rw [e] at k
        exact fun H' q hq => k H' q hq
      | ok c =>
        rw [e] at k
        exact fun v H' s1 t1 => ⟨s1 _ _ h1, s1 _ _ h2, v, rfl, fun H' p hp => k H' p hp⟩
end
end HC

namespace HC
open PySem PySem.Spec PyProof.Rows L2
/-! ### the head by facts: a Hook of one's own over He's words (nothing of the heap is written out) -/
def excB (K : PySem.W.Frag) (C : Addr) : Bool := match K.lookup C with
  | some ⟨.type t, _, .cls cd, sl⟩ => decide (t = "type") && (decide (cd.mro = .ref C :: PySem.ESX.exTail) && (cd.hasDict && (!cd.hasDel && (match sl.toList with
    | [_, _, _, _, some (.builtin n), _] => decide (n = "Exception.__new__")
    | _ => false))))
  | _ => false
theorem excB_ok {K : PySem.W.Frag} {C : Addr} (hq : excB K C = true) : ∃ nm q N bs sn sub ab col dd k0 k1 k2 k3 k5, K.lookup C = some (excClassObj nm q C N bs PySem.ESX.exTail true sn sub ab col dd k0 k1 k2 k3 k5 "Exception.__new__") := by
  unfold excB at hq
  split at hq
  · rename_i t dd cd sl ho
    simp only [Bool.and_eq_true, decide_eq_true_eq, Bool.not_eq_true'] at hq
    obtain ⟨e1, e2, e3, e4, e5⟩ := hq
    split at e5
    · rename_i k0 k1 k2 k3 n k5 hs
      have e6 : n = "Exception.__new__" := of_decide_eq_true e5
      obtain ⟨nm, bs, mro, ns, qn, hd, sn, sub, ab, col, del⟩ := cd
      dsimp only at e2 e3 e4
      subst e1 e2 e3 e4 e6
      have hsl : sl = #[k0, k1, k2, k3, some (.builtin "Exception.__new__"), k5] := by
        obtain ⟨l⟩ := sl
        simp only at hs
        rw [hs]
      subst hsl
      exact ⟨nm, qn, ns, bs, sn, sub, ab, col, dd, k0, k1, k2, k3, k5, ho⟩
    · cases e5
  · cases hq
/-- the tuple at a is of these -/
def tupAtB (K : PySem.W.Frag) (a : Addr) (vs : List V) : Bool := match K.lookup a with
  | some ⟨.type c, _, .seq its _, _⟩ => decide (c = "tuple") && (decide (its.size ≤ sizeLine) && He.relAll vs its.toList)
  | _ => false
theorem tupAtB_ok {K : PySem.W.Frag} {a : Addr} {vs : List V} (hq : tupAtB K a vs = true) : TupK K a vs := by
  unfold tupAtB at hq
  split at hq
  · rename_i c dd its n sl ho
    simp only [Bool.and_eq_true, decide_eq_true_eq] at hq
    obtain ⟨e1, e2, e3⟩ := hq
    subst e1
    exact tup_mk ho e2 (He.relAll_ok e3)
  · cases hq
/-- the i-th item of the tuple that the module's name x stands for -/
def itemOf (K : PySem.W.Frag) (x : Str) (i : Nat) : Addr := match K.lookup (He.ga K x) with
  | some ⟨_, _, .seq its _, _⟩ => (match its.toList[i]? with
    | some (.ref b) => b
    | _ => 0)
  | _ => 0
abbrev AlH : Type := Bool × List He.FnV
def obsH (fa : List He.Fa) (ex : PySem.W.Frag → List Bool) (fn : List He.FnD) (K : PySem.W.Frag) : AlH := ((fa.all fun f => f.ok K) && ((ex K).all id && fn.all fun d => (He.Fa.code d.at_ d.qual).ok K), fn.map fun d => He.fnObs K d.at_)
def valH (fn : List He.FnD) : AlH := (true, fn.map He.FnD.val)
/-- no table of code objects -/
def noTab : Obj → Bool
  | ⟨.none, _, .fields _, _⟩ => false
  | _ => true
/-- the objects from a on, so many, without the tables -/
def frR (g : Addr → Option Obj) : Nat → Nat → PySem.W.Frag
  | _, 0 => []
  | a, m + 1 => match g a with
    | some o => (match noTab o with
      | true => (a, o) :: frR g (a + 1) m
      | false => frR g (a + 1) m)
    | none => frR g (a + 1) m
def frA (g : Addr → Option Obj) (a m : Nat) : PySem.W.Frag := match g mainGlobals with
  | some o => (match noTab o with
    | true => (mainGlobals, o) :: frR g a m
    | false => frR g a m)
  | none => frR g a m
theorem frR_at {g : Addr → Option Obj} {b : Addr} {o : Obj} : ∀ (m a : Nat), (frR g a m).lookup b = some o → g b = some o ∧ noTab o = true
  | 0, _, e => nomatch (show (none : Option Obj) = some o from e)
  | m + 1, a, e => by
    unfold frR at e
    cases ga : g a with
    | none =>
      rw [ga] at e
      exact frR_at m _ e
    | some u =>
      rw [ga] at e
      cases hn : noTab u with
      | false =>
        simp only [hn] at e
        exact frR_at m _ e
      | true =>
        simp only [hn, List.lookup] at e
        cases q : (b == a) with
        | true =>
          rw [q] at e
          cases e
          rw [beq_iff_eq.mp q]
          exact ⟨ga, hn⟩
        | false =>
          rw [q] at e
          exact frR_at m _ e
theorem frA_at {g : Addr → Option Obj} {b : Addr} {o : Obj} {a m : Nat} (e : (frA g a m).lookup b = some o) : g b = some o ∧ noTab o = true := by
  unfold frA at e
  cases ga : g mainGlobals with
  | none =>
    rw [ga] at e
    exact frR_at m _ e
  | some u =>
    rw [ga] at e
    cases hn : noTab u with
    | false =>
      simp only [hn] at e
      exact frR_at m _ e
    | true =>
      simp only [hn, List.lookup] at e
      cases q : (b == mainGlobals) with
      | true =>
        rw [q] at e
        cases e
        rw [beq_iff_eq.mp q]
        exact ⟨ga, hn⟩
      | false =>
        rw [q] at e
        exact frR_at m _ e
/-- the code object of the def x, its table -/
def codeOf (K : PySem.W.Frag) (x : Str) : Addr := match K.lookup (He.ga K x) with
  | some ⟨_, _, .func fd, _⟩ => (match fd.code with
    | .ref c => c
    | _ => 0)
  | _ => 0
def tabOf (K : PySem.W.Frag) (x : Str) : Addr := match K.lookup (codeOf K x) with
  | some ⟨_, _, .fields vs, _⟩ => (match (vs[11]? : Option Value) with
    | some (.ref t) => t
    | _ => 0)
  | _ => 0
def isTab0 : Option Obj → Bool
  | some ⟨.none, none, .fields vs, sl⟩ => vs.isEmpty && sl.isEmpty
  | _ => false
theorem isTab0_ok {o : Option Obj} (h : isTab0 o = true) : o = some tab0 := by
  unfold isTab0 at h
  split at h
  · rename_i vs sl
    rw [Bool.and_eq_true, Array.isEmpty_iff, Array.isEmpty_iff] at h
    rw [h.1, h.2]
  · cases h
/-- a def that makes functions: its code object is known, its table is empty -/
def makB (K : PySem.W.Frag) (x : Str) : Bool := (match K.lookup (He.ga K x) with
  | some ⟨_, _, .func fd, _⟩ => (match fd.code with
    | .ref _ => true
    | _ => false)
  | _ => false) && PySem.W.codeHdIn K (codeOf K x) (tabOf K x)
def tabsB (g : Addr → Option Obj) (K : PySem.W.Frag) (tb : List Str) : Bool := tb.all fun x => isTab0 (g (tabOf K x))
/-- a part of the facts: one run of the top shows one part -/
structure Fx where
  fa : List He.Fa
  ex : PySem.W.Frag → List Bool
  fn : List He.FnD
  tb : List Str
def Fx.ob (x : Fx) (a m : Nat) (g : Addr → Option Obj) : Bool × AlH := (tabsB g (frA g a m) x.tb, obsH x.fa x.ex x.fn (frA g a m))
def Fx.val (x : Fx) : Bool × AlH := (true, valH x.fn)
/-- what is known of the heap: its part without the tables, and that these are empty -/
structure SaysT (ps : List Fx) (K : PySem.W.Frag) (h : Heap) : Prop where
  kin : K.In h
  ob : ∀ x ∈ ps, obsH x.fa x.ex x.fn K = valH x.fn
  tab : ∀ x ∈ ps, ∀ y ∈ x.tb, h.get? (tabOf K y) = some tab0 ∧ K.lookup (tabOf K y) = none
theorem ob_each {ps : List Fx} {a m : Nat} {g : Addr → Option Obj} (e : (ps.map fun x => x.ob a m g) = ps.map Fx.val) : ∀ x ∈ ps, x.ob a m g = x.val := by
  induction ps with
  | nil => intro x hx; cases hx
  | cons y r ih =>
    rw [List.map_cons, List.map_cons] at e
    injection e with e1 e2
    intro x hx
    rcases List.mem_cons.mp hx with z | z
    · rw [z]
      exact e1
    · exact ih e2 x z
def hookT (a m : Nat) (ps : List Fx) : PySem.W.Hook where
  α := List (Bool × AlH)
  obs := fun s => ps.map fun x => x.ob a m s.heap.get?
  val := fun _ => ps.map Fx.val
  says := fun _ h => ∃ K : PySem.W.Frag, SaysT ps K h
  of := fun _ s e => ⟨frA s.heap.get? a m, fun _ _ z => (frA_at z).1, fun x hx => congrArg (fun y => y.2) (ob_each e x hx), fun x hx y hy => by
    have e1 : tabsB s.heap.get? (frA s.heap.get? a m) x.tb = true := congrArg (fun y => y.1) (ob_each e x hx)
    have e2 := isTab0_ok (List.all_eq_true.mp e1 y hy)
    refine ⟨e2, ?_⟩
    cases q : (frA s.heap.get? a m).lookup (tabOf (frA s.heap.get? a m) y) with
    | none => rfl
    | some o =>
      obtain ⟨z1, z2⟩ := frA_at q
      rw [e2] at z1
      cases z1
      cases z2⟩
  keeps := fun _ _ _ ⟨K, c⟩ kp => ⟨K, PySem.W.Frag.In.keeps c.kin kp, c.ob, fun x hx y hy => ⟨kp _ _ (c.tab x hx y hy).1, (c.tab x hx y hy).2⟩⟩
def obT (a m : Nat) (ps : List Fx) (g : Addr → Option Obj) : List (Bool × AlH) := ps.map fun x => x.ob a m g
theorem obT_eq {a m : Nat} {ps : List Fx} {g : Addr → Option Obj} {s : Shared} (hh : ∀ b, g b = s.heap.get? b) : obT a m ps g = (hookT a m ps).obs s := by
  obtain rfl : g = s.heap.get? := funext hh
  rfl
/-- the runs, one for each part, put together -/
theorem runs_join {S A B : Type} {o : Option S} {f : S → A} {g : S → B} {u : A} {v : B} {ps : List Fx} {a m : Nat} {t : S → Addr → Option Obj} (h0 : o.map (fun s => (f s, g s)) = some (u, v)) (h : ∀ x ∈ ps, o.map (fun s => x.ob a m (t s)) = some x.val) :
    o.map (fun s => (f s, g s, obT a m ps (t s))) = some (u, v, ps.map Fx.val) := by
  cases o with
  | none => cases h0
  | some z =>
    have e0 : (f z, g z) = (u, v) := Option.some.inj h0
    have e1 : obT a m ps (t z) = ps.map Fx.val := List.map_congr_left fun x hx => Option.some.inj (h x hx)
    have e2 : f z = u := congrArg Prod.fst e0
    have e3 : g z = v := congrArg Prod.snd e0
    show some (f z, g z, obT a m ps (t z)) = _
    rw [e1, e2, e3]
section
variable {fa : List He.Fa} {ex : PySem.W.Frag → List Bool} {fn : List He.FnD} {K : PySem.W.Frag} (c : obsH fa ex fn K = valH fn)
include c
theorem h_all : (fa.all fun f => f.ok K) = true ∧ (ex K).all id = true ∧ (fn.all fun d => (He.Fa.code d.at_ d.qual).ok K) = true := by
  have e : ((fa.all fun f => f.ok K) && ((ex K).all id && fn.all fun d => (He.Fa.code d.at_ d.qual).ok K)) = true := congrArg (fun z : AlH => z.1) c
  rw [Bool.and_eq_true, Bool.and_eq_true] at e
  exact e
theorem h_fact (i : Nat) {f : He.Fa} (hi : fa[i]? = some f) : f.ok K = true := List.all_eq_true.mp (h_all c).1 f (List.mem_of_getElem? hi)
theorem h_ex (i : Nat) {b : Bool} (hi : (ex K)[i]? = some b) : b = true := List.all_eq_true.mp (h_all c).2.1 b (List.mem_of_getElem? hi)
theorem h_def (i : Nat) {d : He.FnD} (hi : fn[i]? = some d) :
    ∃ oc od osl kV doc pm an cdv ct, K.lookup (He.fAd K d.at_) = some ⟨oc, od, .func (PySem.W.fnOf d.name d.qual d.params d.body d.scope .none kV doc pm an cdv ct), osl⟩ ∧ PySem.W.codeIn K cdv d.qual = true := by
  have e : fn.map (fun d => He.fnObs K d.at_) = fn.map He.FnD.val := congrArg (fun z : AlH => z.2) c
  have e2 : (fn.map fun d => He.fnObs K d.at_)[i]? = (fn.map He.FnD.val)[i]? := by rw [e]
  rw [List.getElem?_map, List.getElem?_map, hi] at e2
  exact He.fn_ok (Option.some.inj e2) (List.all_eq_true.mp (h_all c).2.2 d (List.mem_of_getElem? hi))
end
/-- what is known of a def's object -/
abbrev FnAtK (K : PySem.W.Frag) (f : Addr) (x qual : Str) (st : Stmt) : Prop :=
  ∃ oc od osl kV doc pm an cdv ct, K.lookup f = some ⟨oc, od, .func (PySem.W.fnOf x qual (defArgs st) (defBody st) (defScope st) .none kV doc pm an cdv ct), osl⟩ ∧ PySem.W.codeIn K cdv qual = true
abbrev BindK (x qual : Str) (st : Stmt) (ps : List Str) : Prop :=
  ∀ (kV doc pm : Value) (an : Option Addr) (cdv ct : Value) (us : List Value), us.length = ps.length → bindArgs (PySem.W.fnOf x qual (defArgs st) (defBody st) (defScope st) .none kV doc pm an cdv ct) ⟨us, []⟩ = pure (ps.zip us)
section
variable {K : PySem.W.Frag} {h : Heap} {mg : Str → Option Value}
theorem cls_h {x qual : Str} {ns : List Str} {st : Stmt} {ps : List Str} (X : K.In h) (G : h.Ns mainGlobals mg) (g : (He.Fa.glo x).ok K = true) (cl : (He.Fa.cls x).ok K = true) (mk : (He.Fa.mkr x).ok K = true) (me : (He.Fa.meth x "__init__").ok K = true)
    (no : NoAll K (He.ga K x) ns) (cla : He.eqO (PySem.W.findIn K (.ref (He.ga K x)) "__class__") (some (some (.builtin "object.__class__"))) = true) (mro : decide (PySem.W.mroIn K (He.ga K x) (.type "object") = some true) = true)
    (fn : FnAtK K (He.ma K (He.ga K x) "__init__") "__init__" qual st) (b : BindK "__init__" qual st ps) : ClsT K mg x qual (He.ga K x) (He.ma K (He.ga K x) "__init__") ns st ps := by
  obtain ⟨oc, od, osl, kV, doc, pm, an, cdv, ct, lk, cd⟩ := fn
  have kp := (He.meth_ok me).kp
  exact ⟨He.cls_ok cl, no, He.mkr_ok mk, He.glo_ok X G g, ⟨_, fun_mk (st := st) lk cd kp, (fun_mk (st := st) lk cd kp).binds b⟩, He.eqO_ok cla, of_decide_eq_true mro⟩
theorem met_h {x m qual : Str} {st : Stmt} {ps : List Str} (me : (He.Fa.meth x m).ok K = true) (fn : FnAtK K (He.ma K (He.ga K x) m) m qual st) (b : BindK m qual st ps) : MetT K (He.ga K x) m qual st (He.ma K (He.ga K x) m) ps := by
  obtain ⟨oc, od, osl, kV, doc, pm, an, cdv, ct, lk, cd⟩ := fn
  have kp := (He.meth_ok me).kp
  exact ⟨⟨_, fun_mk (st := st) lk cd kp, (fun_mk (st := st) lk cd kp).binds b⟩, He.meth_ok me⟩
theorem def_h {x : Str} {st : Stmt} {ps : List Str} (X : K.In h) (G : h.Ns mainGlobals mg) (g : (He.Fa.glo x).ok K = true) (kp : (He.Fa.keep x).ok K = true) (fn : FnAtK K (He.ga K x) x x st) (b : BindK x x st ps) : DefT K mg x st (He.ga K x) ps := by
  obtain ⟨oc, od, osl, kV, doc, pm, an, cdv, ct, lk, cd⟩ := fn
  exact ⟨⟨_, fun_mk (st := st) lk cd kp, (fun_mk (st := st) lk cd kp).binds b⟩, He.glo_ok X G g⟩
theorem low_h {p1 p2 q1 q2 q3 q4 : Pos} (X : K.In h) (G : h.Ns mainGlobals mg) (g : (He.Fa.glo "Misplaced").ok K = true) (kp : (He.Fa.keep "Misplaced").ok K = true) (ec : excB K (He.ga K "Misplaced") = true) (em : (He.Fa.exm "Misplaced" "Misplaced" true).ok K = true) (np : (He.Fa.noat "Misplaced" "place").ok K = true)
    (sa : He.eqO (PySem.W.findIn K (.ref (He.ga K "Misplaced")) "__setattr__") (some (some (.builtin "object.__setattr__"))) = true) (gt : He.eqO (PySem.W.findIn K (.ref (He.ga K "Misplaced")) "__getattribute__") (some (some (.builtin "BaseException.__getattribute__"))) = true)
    (gg : He.eqO (PySem.W.findIn K (.ref (He.ga K "Misplaced")) "__getattr__") (some none) = true) (me : (He.Fa.meth "Misplaced" "__init__").ok K = true) (sb : decide (PySem.W.subIn K (.ref (He.ga K "Misplaced")) (.type "BaseException") = some true) = true)
    (ty : decide (PySem.W.typeIn K (.ref (He.ga K "Misplaced")) = some (.type "type")) = true) (hd : PySem.W.hasDictIn K (He.ga K "Misplaced") = true)
    (fn : ∃ oc od osl kV doc pm an cdv ct, K.lookup (He.ma K (He.ga K "Misplaced") "__init__") = some ⟨oc, od, .func (PySem.W.fnOf "__init__" "Misplaced.__init__" (PySem.LowX.iA p1 p2) (PySem.LowX.iB q1 q2 q3 q4) PySem.LowX.iS .none kV doc pm an cdv ct), osl⟩ ∧ PySem.W.codeIn K cdv "Misplaced.__init__" = true)
    (kn : (match K.lookup (He.ma K (He.ga K "Misplaced") "__init__") with
      | some ⟨_, _, .func fd, _⟩ => decide (fd.kwdefaults = .none)
      | _ => false) = true) : PySem.LowX.LowTxt K mg (He.ga K "Misplaced") (He.ma K (He.ga K "Misplaced") "__init__") := by
  obtain ⟨oc, od, osl, kV, doc, pm, an, cdv, ct, lk, cd⟩ := fn
  have mm := He.meth_ok me
  rw [lk] at kn
  have ek : kV = .none := of_decide_eq_true kn
  subst ek
  exact ⟨He.glo_ok X G g, excB_ok ec, He.eqO_ok sa, He.eqO_ok gt, He.eqO_ok gg, He.noat_ok np, mm.at_, beq_iff_eq.mp mm.fn, He.keep_ok kp, of_decide_eq_true sb, of_decide_eq_true ty, hd, He.exm_ok em, oc, od, doc, pm, an, cdv, ct, osl, p1, p2, q1, q2, q3, q4, lk, cd⟩
end
theorem mak_h {K : PySem.W.Frag} {x : Str} {st : Stmt} (fn : FnAtK K (He.ga K x) x x st) (mb : makB K x = true) : MakT K x st (He.ga K x) (codeOf K x) (tabOf K x) := by
  obtain ⟨oc, od, osl, kV, doc, pm, an, cdv, ct, lk, cd⟩ := fn
  unfold makB at mb
  rw [Bool.and_eq_true] at mb
  obtain ⟨m1, m2⟩ := mb
  have hc : cdv = .ref (codeOf K x) := by
    rw [lk] at m1
    unfold codeOf
    rw [lk]
    dsimp only at m1 ⊢
    cases cdv with
    | ref c => rfl
    | _ => cases m1
  subst hc
  exact ⟨⟨oc, od, kV, doc, pm, an, ct, osl, lk, cd⟩, m2⟩
end HC
namespace HC
open PySem PySem.Spec PyProof.Rows L2
def hfa0_0 : List He.Fa := [.glo "Plain",
  .cls "Plain",
  .mkr "Plain",
  .meth "Plain" "__init__",
  .noat "Plain" "tincture",
  .glo "Parted",
  .cls "Parted",
  .mkr "Parted",
  .meth "Parted" "__init__",
  .noat "Parted" "way",
  .noat "Parted" "line",
  .noat "Parted" "first",
  .noat "Parted" "second",
  .glo "Varied",
  .cls "Varied",
  .mkr "Varied",
  .meth "Varied" "__init__",
  .noat "Varied" "way",
  .noat "Varied" "pieces",
  .noat "Varied" "line",
  .noat "Varied" "first",
  .noat "Varied" "second",
  .glo "Ordinary",
  .cls "Ordinary",
  .mkr "Ordinary",
  .meth "Ordinary" "__init__",
  .noat "Ordinary" "figure",
  .noat "Ordinary" "line",
  .noat "Ordinary" "fill",
  .glo "Group"]
def hfa0_1 : List He.Fa := [.cls "Group",
  .mkr "Group",
  .meth "Group" "__init__",
  .noat "Group" "charge",
  .noat "Group" "many",
  .noat "Group" "manner",
  .noat "Group" "size",
  .noat "Group" "fill",
  .glo "Arms",
  .cls "Arms",
  .mkr "Arms",
  .meth "Arms" "__init__",
  .noat "Arms" "field",
  .noat "Arms" "layers",
  .glo "Mark",
  .cls "Mark",
  .mkr "Mark",
  .meth "Mark" "__init__",
  .noat "Mark" "g",
  .noat "Mark" "k",
  .glo "Marked",
  .cls "Marked",
  .mkr "Marked",
  .meth "Marked" "__init__",
  .noat "Marked" "arms",
  .noat "Marked" "canton",
  .noat "Marked" "marks",
  .glo "Quarterly",
  .cls "Quarterly",
  .mkr "Quarterly"]
def hfa0_2 : List He.Fa := [.meth "Quarterly" "__init__",
  .noat "Quarterly" "coats",
  .glo "Impaled",
  .cls "Impaled",
  .mkr "Impaled",
  .meth "Impaled" "__init__",
  .noat "Impaled" "dexter",
  .noat "Impaled" "sinister",
  .glo "Pretence",
  .cls "Pretence",
  .mkr "Pretence",
  .meth "Pretence" "__init__",
  .noat "Pretence" "below",
  .noat "Pretence" "upon",
  .glo "Reader",
  .cls "Reader",
  .mkr "Reader",
  .meth "Reader" "__init__",
  .noat "Reader" "numbers",
  .noat "Reader" "place",
  .meth "Reader" "take",
  .meth "Reader" "take_tincture_beside",
  .meth "Reader" "at_end",
  .glo "Misplaced",
  .keep "Misplaced",
  .exm "Misplaced" "Misplaced" true,
  .noat "Misplaced" "place",
  .meth "Misplaced" "__init__",
  .glo "take_field",
  .keep "take_field"]
def hfa0_3 : List He.Fa := [.glo "take_parted",
  .keep "take_parted",
  .glo "take_varied",
  .keep "take_varied",
  .glo "take_fill",
  .keep "take_fill",
  .glo "take_layer",
  .keep "take_layer",
  .glo "take_arms",
  .keep "take_arms",
  .glo "take_marks",
  .keep "take_marks",
  .glo "take_marked",
  .keep "take_marked",
  .glo "take_coat",
  .keep "take_coat",
  .glo "take_quarterly",
  .keep "take_quarterly",
  .glo "decode",
  .keep "decode",
  .glo "answered",
  .keep "answered",
  .glo "check",
  .keep "check",
  .int "FEWEST_PIECES" 2,
  .int "MOST_PIECES" 24,
  .int "FIRST_STRAIGHT_WAY" 5,
  .int "MOST_LAYERS" 8,
  .int "MOST_MARKS" 60,
  .int "MOST_G" 127]
def hfa0_4 : List He.Fa := [.int "LEAST_K" 1,
  .int "MOST_K" 255,
  .int "FEWEST_QUARTERS" 2,
  .int "MOST_QUARTERS" 9,
  .int "MOST_DEEP" 4,
  .int "LAST_TINCTURE" 8,
  .int "LAST_LINE" 5,
  .int "LAST_PARTED_WAY" 7,
  .int "LAST_VARIED_WAY" 6,
  .int "LAST_ORDINARY" 12,
  .int "LAST_CHARGE" 15,
  .int "LAST_MANNER" 6,
  .free "len",
  .free "range",
  .free "isinstance"]
def hfa0_ : List He.Fa := hfa0_0 ++ (hfa0_1 ++ (hfa0_2 ++ (hfa0_3 ++ (hfa0_4))))
def hex0_0 (K : PySem.W.Frag) : List Bool := [He.eqO (PySem.W.findIn K (.ref (He.ga K "Plain")) "__class__") (some (some (.builtin "object.__class__"))),
  decide (PySem.W.mroIn K (He.ga K "Plain") (.type "object") = some true),
  He.eqO (PySem.W.findIn K (.ref (He.ga K "Parted")) "__class__") (some (some (.builtin "object.__class__"))),
  decide (PySem.W.mroIn K (He.ga K "Parted") (.type "object") = some true),
  He.eqO (PySem.W.findIn K (.ref (He.ga K "Varied")) "__class__") (some (some (.builtin "object.__class__"))),
  decide (PySem.W.mroIn K (He.ga K "Varied") (.type "object") = some true),
  He.eqO (PySem.W.findIn K (.ref (He.ga K "Ordinary")) "__class__") (some (some (.builtin "object.__class__"))),
  decide (PySem.W.mroIn K (He.ga K "Ordinary") (.type "object") = some true),
  He.eqO (PySem.W.findIn K (.ref (He.ga K "Group")) "__class__") (some (some (.builtin "object.__class__"))),
  decide (PySem.W.mroIn K (He.ga K "Group") (.type "object") = some true),
  He.eqO (PySem.W.findIn K (.ref (He.ga K "Arms")) "__class__") (some (some (.builtin "object.__class__"))),
  decide (PySem.W.mroIn K (He.ga K "Arms") (.type "object") = some true),
  He.eqO (PySem.W.findIn K (.ref (He.ga K "Mark")) "__class__") (some (some (.builtin "object.__class__"))),
  decide (PySem.W.mroIn K (He.ga K "Mark") (.type "object") = some true),
  He.eqO (PySem.W.findIn K (.ref (He.ga K "Marked")) "__class__") (some (some (.builtin "object.__class__"))),
  decide (PySem.W.mroIn K (He.ga K "Marked") (.type "object") = some true),
  He.eqO (PySem.W.findIn K (.ref (He.ga K "Quarterly")) "__class__") (some (some (.builtin "object.__class__"))),
  decide (PySem.W.mroIn K (He.ga K "Quarterly") (.type "object") = some true),
  He.eqO (PySem.W.findIn K (.ref (He.ga K "Impaled")) "__class__") (some (some (.builtin "object.__class__"))),
  decide (PySem.W.mroIn K (He.ga K "Impaled") (.type "object") = some true),
  He.eqO (PySem.W.findIn K (.ref (He.ga K "Pretence")) "__class__") (some (some (.builtin "object.__class__"))),
  decide (PySem.W.mroIn K (He.ga K "Pretence") (.type "object") = some true),
  He.eqO (PySem.W.findIn K (.ref (He.ga K "Reader")) "__class__") (some (some (.builtin "object.__class__"))),
  decide (PySem.W.mroIn K (He.ga K "Reader") (.type "object") = some true),
  excB K (He.ga K "Misplaced"),
  He.eqO (PySem.W.findIn K (.ref (He.ga K "Misplaced")) "__setattr__") (some (some (.builtin "object.__setattr__"))),
  He.eqO (PySem.W.findIn K (.ref (He.ga K "Misplaced")) "__getattribute__") (some (some (.builtin "BaseException.__getattribute__"))),
  He.eqO (PySem.W.findIn K (.ref (He.ga K "Misplaced")) "__getattr__") (some none),
  decide (PySem.W.subIn K (.ref (He.ga K "Misplaced")) (.type "BaseException") = some true),
  decide (PySem.W.typeIn K (.ref (He.ga K "Misplaced")) = some (.type "type"))]
def hex0_1 (K : PySem.W.Frag) : List Bool := [PySem.W.hasDictIn K (He.ga K "Misplaced"),
  (match K.lookup (He.ma K (He.ga K "Misplaced") "__init__") with
      | some ⟨_, _, .func fd, _⟩ => decide (fd.kwdefaults = .none)
      | _ => false),
  makB K "check",
  He.eqO (PySem.W.specialIn K (.builtin "object.__class__") "__get__") (some (some (.builtin "getset_descriptor.__get__"))),
  decide (PySem.W.takesIn K (.builtin "object.__class__") = some true),
  decide (PySem.W.kitOne K (.ref (He.ga K "Plain")) (.ref (He.ga K "Plain")) = some true),
  decide (PySem.W.kitOne K (.ref (He.ga K "Parted")) (.ref (He.ga K "Plain")) = some false),
  decide (PySem.W.kitOne K (.ref (He.ga K "Varied")) (.ref (He.ga K "Plain")) = some false)]
def hex0_ (K : PySem.W.Frag) : List Bool := hex0_0 K ++ (hex0_1 K)
def hfn0_0 : List He.FnD := [⟨("Plain", some "__init__"), "__init__", "Plain.__init__", defArgs s_Plain_init, defBody s_Plain_init, defScope s_Plain_init⟩,
  ⟨("Parted", some "__init__"), "__init__", "Parted.__init__", defArgs s_Parted_init, defBody s_Parted_init, defScope s_Parted_init⟩,
  ⟨("Varied", some "__init__"), "__init__", "Varied.__init__", defArgs s_Varied_init, defBody s_Varied_init, defScope s_Varied_init⟩,
  ⟨("Ordinary", some "__init__"), "__init__", "Ordinary.__init__", defArgs s_Ordinary_init, defBody s_Ordinary_init, defScope s_Ordinary_init⟩,
  ⟨("Group", some "__init__"), "__init__", "Group.__init__", defArgs s_Group_init, defBody s_Group_init, defScope s_Group_init⟩,
  ⟨("Arms", some "__init__"), "__init__", "Arms.__init__", defArgs s_Arms_init, defBody s_Arms_init, defScope s_Arms_init⟩,
  ⟨("Mark", some "__init__"), "__init__", "Mark.__init__", defArgs s_Mark_init, defBody s_Mark_init, defScope s_Mark_init⟩,
  ⟨("Marked", some "__init__"), "__init__", "Marked.__init__", defArgs s_Marked_init, defBody s_Marked_init, defScope s_Marked_init⟩,
  ⟨("Quarterly", some "__init__"), "__init__", "Quarterly.__init__", defArgs s_Quarterly_init, defBody s_Quarterly_init, defScope s_Quarterly_init⟩,
  ⟨("Impaled", some "__init__"), "__init__", "Impaled.__init__", defArgs s_Impaled_init, defBody s_Impaled_init, defScope s_Impaled_init⟩,
  ⟨("Pretence", some "__init__"), "__init__", "Pretence.__init__", defArgs s_Pretence_init, defBody s_Pretence_init, defScope s_Pretence_init⟩,
  ⟨("Reader", some "__init__"), "__init__", "Reader.__init__", defArgs s_Reader_init, defBody s_Reader_init, defScope s_Reader_init⟩,
  ⟨("Reader", some "take"), "take", "Reader.take", defArgs s_Reader_take, defBody s_Reader_take, defScope s_Reader_take⟩,
  ⟨("Reader", some "take_tincture_beside"), "take_tincture_beside", "Reader.take_tincture_beside", defArgs s_Reader_take_tincture_beside, defBody s_Reader_take_tincture_beside, defScope s_Reader_take_tincture_beside⟩,
  ⟨("Reader", some "at_end"), "at_end", "Reader.at_end", defArgs s_Reader_at_end, defBody s_Reader_at_end, defScope s_Reader_at_end⟩,
  ⟨("Misplaced", some "__init__"), "__init__", "Misplaced.__init__", defArgs s_Misplaced_init, defBody s_Misplaced_init, defScope s_Misplaced_init⟩,
  ⟨("take_field", none), "take_field", "take_field", defArgs s_take_field, defBody s_take_field, defScope s_take_field⟩,
  ⟨("take_parted", none), "take_parted", "take_parted", defArgs s_take_parted, defBody s_take_parted, defScope s_take_parted⟩,
  ⟨("take_varied", none), "take_varied", "take_varied", defArgs s_take_varied, defBody s_take_varied, defScope s_take_varied⟩,
  ⟨("take_fill", none), "take_fill", "take_fill", defArgs s_take_fill, defBody s_take_fill, defScope s_take_fill⟩,
  ⟨("take_layer", none), "take_layer", "take_layer", defArgs s_take_layer, defBody s_take_layer, defScope s_take_layer⟩,
  ⟨("take_arms", none), "take_arms", "take_arms", defArgs s_take_arms, defBody s_take_arms, defScope s_take_arms⟩,
  ⟨("take_marks", none), "take_marks", "take_marks", defArgs s_take_marks, defBody s_take_marks, defScope s_take_marks⟩,
  ⟨("take_marked", none), "take_marked", "take_marked", defArgs s_take_marked, defBody s_take_marked, defScope s_take_marked⟩,
  ⟨("take_coat", none), "take_coat", "take_coat", defArgs s_take_coat, defBody s_take_coat, defScope s_take_coat⟩,
  ⟨("take_quarterly", none), "take_quarterly", "take_quarterly", defArgs s_take_quarterly, defBody s_take_quarterly, defScope s_take_quarterly⟩,
  ⟨("decode", none), "decode", "decode", defArgs s_decode, defBody s_decode, defScope s_decode⟩,
  ⟨("answered", none), "answered", "answered", defArgs s_answered, defBody s_answered, defScope s_answered⟩,
  ⟨("check", none), "check", "check", defArgs s_check, defBody s_check, defScope s_check⟩]
def hfn0_ : List He.FnD := hfn0_0
def hp0 : Fx := ⟨hfa0_, hex0_, hfn0_, ["check"]⟩
abbrev hparts : List Fx := [hp0]
def adOf (K : PySem.W.Frag) : Ad := ⟨He.ga K "Plain", He.ma K (He.ga K "Plain") "__init__", He.ga K "Parted", He.ma K (He.ga K "Parted") "__init__", He.ga K "Varied", He.ma K (He.ga K "Varied") "__init__", He.ga K "Ordinary", He.ma K (He.ga K "Ordinary") "__init__", He.ga K "Group", He.ma K (He.ga K "Group") "__init__", He.ga K "Arms", He.ma K (He.ga K "Arms") "__init__", He.ga K "Mark", He.ma K (He.ga K "Mark") "__init__", He.ga K "Marked", He.ma K (He.ga K "Marked") "__init__", He.ga K "Quarterly", He.ma K (He.ga K "Quarterly") "__init__", He.ga K "Impaled", He.ma K (He.ga K "Impaled") "__init__", He.ga K "Pretence", He.ma K (He.ga K "Pretence") "__init__", He.ga K "Reader", He.ma K (He.ga K "Reader") "__init__", He.ma K (He.ga K "Reader") "take", He.ma K (He.ga K "Reader") "take_tincture_beside", He.ma K (He.ga K "Reader") "at_end", He.ga K "Misplaced", He.ma K (He.ga K "Misplaced") "__init__", He.ga K "take_field", He.ga K "take_parted", He.ga K "take_varied", He.ga K "take_fill", He.ga K "take_layer", He.ga K "take_arms", He.ga K "take_marks", He.ga K "take_marked", He.ga K "take_coat", He.ga K "take_quarterly", He.ga K "decode", He.ga K "answered", He.ga K "check", codeOf K "check", tabOf K "check"⟩
theorem txt_of {K : PySem.W.Frag} {h : Heap} {mg : Str → Option Value} (X : K.In h) (G : h.Ns mainGlobals mg) (c0 : obsH hp0.fa hp0.ex hp0.fn K = valH hp0.fn) : Txt K mg (adOf K) where
  kPlain := cls_h X G (h_fact c0 0 rfl) (h_fact c0 1 rfl) (h_fact c0 2 rfl) (h_fact c0 3 rfl) ⟨He.noat_ok (h_fact c0 4 rfl), trivial⟩ (h_ex c0 0 rfl) (h_ex c0 1 rfl) (h_def c0 0 rfl) (fun _ _ _ _ _ _ us hl => match us, hl with | [_, _], _ => rfl)
  kParted := cls_h X G (h_fact c0 5 rfl) (h_fact c0 6 rfl) (h_fact c0 7 rfl) (h_fact c0 8 rfl) ⟨He.noat_ok (h_fact c0 9 rfl), He.noat_ok (h_fact c0 10 rfl), He.noat_ok (h_fact c0 11 rfl), He.noat_ok (h_fact c0 12 rfl), trivial⟩ (h_ex c0 2 rfl) (h_ex c0 3 rfl) (h_def c0 1 rfl) (fun _ _ _ _ _ _ us hl => match us, hl with | [_, _, _, _, _], _ => rfl)
  kVaried := cls_h X G (h_fact c0 13 rfl) (h_fact c0 14 rfl) (h_fact c0 15 rfl) (h_fact c0 16 rfl) ⟨He.noat_ok (h_fact c0 17 rfl), He.noat_ok (h_fact c0 18 rfl), He.noat_ok (h_fact c0 19 rfl), He.noat_ok (h_fact c0 20 rfl), He.noat_ok (h_fact c0 21 rfl), trivial⟩ (h_ex c0 4 rfl) (h_ex c0 5 rfl) (h_def c0 2 rfl) (fun _ _ _ _ _ _ us hl => match us, hl with | [_, _, _, _, _, _], _ => rfl)
  kOrdinary := cls_h X G (h_fact c0 22 rfl) (h_fact c0 23 rfl) (h_fact c0 24 rfl) (h_fact c0 25 rfl) ⟨He.noat_ok (h_fact c0 26 rfl), He.noat_ok (h_fact c0 27 rfl), He.noat_ok (h_fact c0 28 rfl), trivial⟩ (h_ex c0 6 rfl) (h_ex c0 7 rfl) (h_def c0 3 rfl) (fun _ _ _ _ _ _ us hl => match us, hl with | [_, _, _, _], _ => rfl)
  kGroup := cls_h X G (h_fact c0 29 rfl) (h_fact c0 30 rfl) (h_fact c0 31 rfl) (h_fact c0 32 rfl) ⟨He.noat_ok (h_fact c0 33 rfl), He.noat_ok (h_fact c0 34 rfl), He.noat_ok (h_fact c0 35 rfl), He.noat_ok (h_fact c0 36 rfl), He.noat_ok (h_fact c0 37 rfl), trivial⟩ (h_ex c0 8 rfl) (h_ex c0 9 rfl) (h_def c0 4 rfl) (fun _ _ _ _ _ _ us hl => match us, hl with | [_, _, _, _, _, _], _ => rfl)
  kArms := cls_h X G (h_fact c0 38 rfl) (h_fact c0 39 rfl) (h_fact c0 40 rfl) (h_fact c0 41 rfl) ⟨He.noat_ok (h_fact c0 42 rfl), He.noat_ok (h_fact c0 43 rfl), trivial⟩ (h_ex c0 10 rfl) (h_ex c0 11 rfl) (h_def c0 5 rfl) (fun _ _ _ _ _ _ us hl => match us, hl with | [_, _, _], _ => rfl)
  kMark := cls_h X G (h_fact c0 44 rfl) (h_fact c0 45 rfl) (h_fact c0 46 rfl) (h_fact c0 47 rfl) ⟨He.noat_ok (h_fact c0 48 rfl), He.noat_ok (h_fact c0 49 rfl), trivial⟩ (h_ex c0 12 rfl) (h_ex c0 13 rfl) (h_def c0 6 rfl) (fun _ _ _ _ _ _ us hl => match us, hl with | [_, _, _], _ => rfl)
  kMarked := cls_h X G (h_fact c0 50 rfl) (h_fact c0 51 rfl) (h_fact c0 52 rfl) (h_fact c0 53 rfl) ⟨He.noat_ok (h_fact c0 54 rfl), He.noat_ok (h_fact c0 55 rfl), He.noat_ok (h_fact c0 56 rfl), trivial⟩ (h_ex c0 14 rfl) (h_ex c0 15 rfl) (h_def c0 7 rfl) (fun _ _ _ _ _ _ us hl => match us, hl with | [_, _, _, _], _ => rfl)
  kQuarterly := cls_h X G (h_fact c0 57 rfl) (h_fact c0 58 rfl) (h_fact c0 59 rfl) (h_fact c0 60 rfl) ⟨He.noat_ok (h_fact c0 61 rfl), trivial⟩ (h_ex c0 16 rfl) (h_ex c0 17 rfl) (h_def c0 8 rfl) (fun _ _ _ _ _ _ us hl => match us, hl with | [_, _], _ => rfl)
  kImpaled := cls_h X G (h_fact c0 62 rfl) (h_fact c0 63 rfl) (h_fact c0 64 rfl) (h_fact c0 65 rfl) ⟨He.noat_ok (h_fact c0 66 rfl), He.noat_ok (h_fact c0 67 rfl), trivial⟩ (h_ex c0 18 rfl) (h_ex c0 19 rfl) (h_def c0 9 rfl) (fun _ _ _ _ _ _ us hl => match us, hl with | [_, _, _], _ => rfl)
  kPretence := cls_h X G (h_fact c0 68 rfl) (h_fact c0 69 rfl) (h_fact c0 70 rfl) (h_fact c0 71 rfl) ⟨He.noat_ok (h_fact c0 72 rfl), He.noat_ok (h_fact c0 73 rfl), trivial⟩ (h_ex c0 20 rfl) (h_ex c0 21 rfl) (h_def c0 10 rfl) (fun _ _ _ _ _ _ us hl => match us, hl with | [_, _, _], _ => rfl)
  kReader := cls_h X G (h_fact c0 74 rfl) (h_fact c0 75 rfl) (h_fact c0 76 rfl) (h_fact c0 77 rfl) ⟨He.noat_ok (h_fact c0 78 rfl), He.noat_ok (h_fact c0 79 rfl), trivial⟩ (h_ex c0 22 rfl) (h_ex c0 23 rfl) (h_def c0 11 rfl) (fun _ _ _ _ _ _ us hl => match us, hl with | [_, _], _ => rfl)
  kReader_take := met_h (h_fact c0 80 rfl) (h_def c0 12 rfl) (fun _ _ _ _ _ _ us hl => match us, hl with | [_, _, _], _ => rfl)
  kReader_take_tincture_beside := met_h (h_fact c0 81 rfl) (h_def c0 13 rfl) (fun _ _ _ _ _ _ us hl => match us, hl with | [_, _], _ => rfl)
  kReader_at_end := met_h (h_fact c0 82 rfl) (h_def c0 14 rfl) (fun _ _ _ _ _ _ us hl => match us, hl with | [_], _ => rfl)
  xMisplaced := low_h X G (h_fact c0 83 rfl) (h_fact c0 84 rfl) (h_ex c0 24 rfl) (h_fact c0 85 rfl) (h_fact c0 86 rfl) (h_ex c0 25 rfl) (h_ex c0 26 rfl) (h_ex c0 27 rfl) (h_fact c0 87 rfl) (h_ex c0 28 rfl) (h_ex c0 29 rfl) (h_ex c0 30 rfl) (h_def c0 15 rfl) (h_ex c0 31 rfl)
  k_take_field := def_h X G (h_fact c0 88 rfl) (h_fact c0 89 rfl) (h_def c0 16 rfl) (fun _ _ _ _ _ _ us hl => match us, hl with | [_], _ => rfl)
  k_take_parted := def_h X G (h_fact c0 90 rfl) (h_fact c0 91 rfl) (h_def c0 17 rfl) (fun _ _ _ _ _ _ us hl => match us, hl with | [_], _ => rfl)
  k_take_varied := def_h X G (h_fact c0 92 rfl) (h_fact c0 93 rfl) (h_def c0 18 rfl) (fun _ _ _ _ _ _ us hl => match us, hl with | [_], _ => rfl)
  k_take_fill := def_h X G (h_fact c0 94 rfl) (h_fact c0 95 rfl) (h_def c0 19 rfl) (fun _ _ _ _ _ _ us hl => match us, hl with | [_, _], _ => rfl)
  k_take_layer := def_h X G (h_fact c0 96 rfl) (h_fact c0 97 rfl) (h_def c0 20 rfl) (fun _ _ _ _ _ _ us hl => match us, hl with | [_, _], _ => rfl)
  k_take_arms := def_h X G (h_fact c0 98 rfl) (h_fact c0 99 rfl) (h_def c0 21 rfl) (fun _ _ _ _ _ _ us hl => match us, hl with | [_], _ => rfl)
  k_take_marks := def_h X G (h_fact c0 100 rfl) (h_fact c0 101 rfl) (h_def c0 22 rfl) (fun _ _ _ _ _ _ us hl => match us, hl with | [_], _ => rfl)
  k_take_marked := def_h X G (h_fact c0 102 rfl) (h_fact c0 103 rfl) (h_def c0 23 rfl) (fun _ _ _ _ _ _ us hl => match us, hl with | [_], _ => rfl)
  k_take_coat := def_h X G (h_fact c0 104 rfl) (h_fact c0 105 rfl) (h_def c0 24 rfl) (fun _ _ _ _ _ _ us hl => match us, hl with | [_, _], _ => rfl)
  k_take_quarterly := def_h X G (h_fact c0 106 rfl) (h_fact c0 107 rfl) (h_def c0 25 rfl) (fun _ _ _ _ _ _ us hl => match us, hl with | [_, _], _ => rfl)
  k_decode := def_h X G (h_fact c0 108 rfl) (h_fact c0 109 rfl) (h_def c0 26 rfl) (fun _ _ _ _ _ _ us hl => match us, hl with | [_], _ => rfl)
  k_answered := def_h X G (h_fact c0 110 rfl) (h_fact c0 111 rfl) (h_def c0 27 rfl) (fun _ _ _ _ _ _ us hl => match us, hl with | [_, _], _ => rfl)
  k_check := def_h X G (h_fact c0 112 rfl) (h_fact c0 113 rfl) (h_def c0 28 rfl) (fun _ _ _ _ _ _ us hl => match us, hl with | [_], _ => rfl)
  m_check := mak_h (h_def c0 28 rfl) (h_ex c0 32 rfl)
  nFEWEST_PIECES := He.int_ok X G (h_fact c0 114 rfl)
  nMOST_PIECES := He.int_ok X G (h_fact c0 115 rfl)
  nFIRST_STRAIGHT_WAY := He.int_ok X G (h_fact c0 116 rfl)
  nMOST_LAYERS := He.int_ok X G (h_fact c0 117 rfl)
  nMOST_MARKS := He.int_ok X G (h_fact c0 118 rfl)
  nMOST_G := He.int_ok X G (h_fact c0 119 rfl)
  nLEAST_K := He.int_ok X G (h_fact c0 120 rfl)
  nMOST_K := He.int_ok X G (h_fact c0 121 rfl)
  nFEWEST_QUARTERS := He.int_ok X G (h_fact c0 122 rfl)
  nMOST_QUARTERS := He.int_ok X G (h_fact c0 123 rfl)
  nMOST_DEEP := He.int_ok X G (h_fact c0 124 rfl)
  nLAST_TINCTURE := He.int_ok X G (h_fact c0 125 rfl)
  nLAST_LINE := He.int_ok X G (h_fact c0 126 rfl)
  nLAST_PARTED_WAY := He.int_ok X G (h_fact c0 127 rfl)
  nLAST_VARIED_WAY := He.int_ok X G (h_fact c0 128 rfl)
  nLAST_ORDINARY := He.int_ok X G (h_fact c0 129 rfl)
  nLAST_CHARGE := He.int_ok X G (h_fact c0 130 rfl)
  nLAST_MANNER := He.int_ok X G (h_fact c0 131 rfl)
  b_len := He.free_ok X G (h_fact c0 132 rfl)
  b_range := He.free_ok X G (h_fact c0 133 rfl)
  b_isinstance := He.free_ok X G (h_fact c0 134 rfl)
  gs := He.eqO_ok (h_ex c0 33 rfl)
  tk := of_decide_eq_true (h_ex c0 34 rfl)
  iPlain_Plain := of_decide_eq_true (h_ex c0 35 rfl)
  iParted_Plain := of_decide_eq_true (h_ex c0 36 rfl)
  iVaried_Plain := of_decide_eq_true (h_ex c0 37 rfl)
def names0 : List PySem.Str := ["FEWEST_PIECES",
  "MOST_PIECES",
  "FIRST_STRAIGHT_WAY",
  "MOST_LAYERS",
  "MOST_MARKS",
  "MOST_G",
  "LEAST_K",
  "MOST_K",
  "FEWEST_QUARTERS",
  "MOST_QUARTERS",
  "MOST_DEEP",
  "Plain",
  "Parted",
  "Varied",
  "Ordinary",
  "Group",
  "Arms",
  "Mark",
  "Marked",
  "Quarterly",
  "Impaled",
  "Pretence",
  "LAST_TINCTURE",
  "LAST_LINE",
  "LAST_PARTED_WAY",
  "LAST_VARIED_WAY",
  "LAST_ORDINARY",
  "LAST_CHARGE",
  "LAST_MANNER",
  "Misplaced"]
def names1 : List PySem.Str := ["Reader",
  "take_field",
  "take_parted",
  "take_varied",
  "take_fill",
  "take_layer",
  "take_arms",
  "take_marks",
  "take_marked",
  "take_coat",
  "take_quarterly",
  "decode",
  "answered"]
def names : List PySem.Str := names0 ++ (names1)
abbrev hrow : PySem.W.OpenSpec := PySem.Challenge.rw_heraldcoats_s01_check
abbrev hview : Program := PySem.W.view hrow.prog [46]
abbrev hk : PySem.W.Hook := hookT 11 600 hparts
def hob (z : PySem.W.SharedT) : List (Bool × AlH) := obT 11 600 hparts (HandSHeadRun.getT z)
theorem hob_eq (z : PySem.W.SharedT) : hob z = hk.obs z.abs := obT_eq (HandSHeadRun.getT_eq z)
abbrev hdef : DefRec := HandSHeadRun.topDef hrow.prog 46
noncomputable abbrev hend (w : World) (os : OsState) : Option PySem.W.SharedT := HandSHeadRun.endF (HandSHeadRun.stepQ (HandSHeadRun.denQ HandSHeadRun.tabQ) hrow.prog w) 8000 hrow.prog w os
set_option maxHeartbeats 0 in
theorem hrun_z (w : World) (os : OsState) : (hend w os).map (fun s => (HandSHeadRun.looksF hrow.prog (PySem.W.boot_heap w.params) s.abs, HandSHeadRun.seenQ hview names (importedModules hrow.prog.main.body) (fun s => PySem.W.xlAt hview [] s && PySem.W.recOk [] s) s.abs)) = some (true, PySem.W.openGood hview names) := by
  kernel_rfl
set_option maxHeartbeats 0 in
theorem hrun_0 (w : World) (os : OsState) : (hend w os).map (fun s => hp0.ob 11 600 (HandSHeadRun.getT s)) = some hp0.val := by
  kernel_rfl
theorem hrun (w : World) : HandSHeadRun.RunEqS hrow hview hk hob 8000 names w := by
  intro os
  refine runs_join (o := hend w os) (hrun_z w os) fun x hx => ?_
  simp only [hparts, List.mem_cons, List.not_mem_nil, or_false] at hx
  subst hx
  exact hrun_0 w os
end HC
namespace HC
open PySem PySem.Spec PyProof.Rows L2 LamX
theorem fin {P : Program} {w : World} {K : PySem.W.Frag} {mg : Str → Option Value} {d : Ad} (T : Txt K mg d) {fa : Addr} (hfa : mg "check" = some (.ref fa)) :
    ∃ fd : FuncData, (∀ (s : Shared) (us : List Value), us.length = (["c"] : List Str).length → BindsTo s fd ⟨us, []⟩ ((["c"] : List Str).zip us)) ∧
    ∀ base : Heap, K.In base → base.Ns mainGlobals mg → (∀ p ∈ mainTabs d, TabB base mg p.1 p.2) → FnOk P w K mg base CX0 42 fa fd ["c"] (spTop K (mainTabs d)) := by
  have e := hfa.symm.trans T.k_check.gl
  cases e
  obtain ⟨fd, F, B⟩ := T.k_check.ex
  refine ⟨fd, ?_, fun base _ _ TB => ok_top T TB F⟩
  obtain ⟨oc, od, kV, doc, pm, an, cdv, ct, osl, rfl, lk, hcd⟩ := F.ex
  exact fun s us hu => match us, hu with | [_], _ => .of_eq rfl
open PySem.W (Codec) in
theorem call_top (K : PySem.W.Frag) (cs : List (Addr × Addr)) (H : L2.Hp) (xs : List L2.V) (a : Codec.denoteAll PySem.Challenge.rw_heraldcoats_s01_check.args) (hT : ∀ p ∈ cs, H p.2 = some (.tbl #[])) (hwi : Codec.withinAll PySem.Challenge.rw_heraldcoats_s01_check.args a = true) (hx : L2.DwAll K H xs (Codec.encAll PySem.Challenge.rw_heraldcoats_s01_check.args a)) :
    spTop K cs xs H (fun v H' => L2.Dw K H' v (PySem.Challenge.rw_heraldcoats_s01_check.ret.enc (Codec.app PySem.Challenge.rw_heraldcoats_s01_check.args PySem.Challenge.rw_heraldcoats_s01_check.f a))) fun _ _ _ => False := by
  cases hx with
  | cons h1 h2 =>
    cases h2
    cases h1 with
    | lst hs ha =>
      have e := L2.ints_dw a.1 _ ha
      subst e
      have q : ((Codec.inLen 0 2000 a.1 && a.1.all (Codec.inInt 0 255)) && true) = true := hwi
      rw [Bool.and_eq_true, Bool.and_eq_true] at q
      exact ⟨_, a.1, rfl, hT, hs, byt_of q.1.2, fun H' p hp => .lst (L2.SqL.of hp) (L2.dw_ints _)⟩
end HC
open PySem PySem.W PyProof.Rows
set_option maxRecDepth 100000 in
set_option maxHeartbeats 0 in
theorem PySem.Challenge.cw_heraldcoats_s01_check_holds : PySem.Challenge.rw_heraldcoats_s01_check.Holds := by
  refine HandSHeadRun.head_spec (r := PySem.Challenge.rw_heraldcoats_s01_check) (q := HC.hview) (H := HC.hk) (ob := HC.hob) (M := 8000) (loose := HC.names) (d := HC.hdef) (kwd := []) HC.hob_eq (by kernel_rfl) (fun s => by kernel_rfl) HC.hrun (by kernel_rfl) (by kernel_rfl) (by kernel_rfl) os_shapes (by decide +kernel) (by decide +kernel)
    ⟨rfl, rfl, rfl, rfl, rfl, by decide +kernel⟩ ?hw ?hc
  case hw => exact ⟨[.list []], by decide +kernel, by decide +kernel⟩
  case hc =>
    refine HC.walk_tabs (r := PySem.Challenge.rw_heraldcoats_s01_check) (k := 42) (CX := L2.CX0) (ps := ["c"]) (sp := HC.spTop) ⟨rfl, by decide, by decide⟩ (by decide +kernel) rfl ?F ?S (fun _ _ _ _ z => z)
    case F =>
      intro w mg fa h Y G hmg
      obtain ⟨K, c⟩ := Y
      have T := HC.txt_of c.kin G (c.ob HC.hp0 List.mem_cons_self)
      have hmg' : mg ("check" : PySem.Str) = some (.ref fa) := by
        have e : HC.hdef.name = ("check" : PySem.Str) := by kernel_rfl
        rw [← e]
        exact hmg
      refine ⟨K, HC.mainTabs (HC.adOf K), c.kin, ?_, ?_, ?_, HC.fin T hmg'⟩
      · intro p hp
        simp only [HC.mainTabs, List.mem_cons, List.not_mem_nil, or_false] at hp
        subst hp
        exact (c.tab HC.hp0 List.mem_cons_self "check" (by decide)).1
      · intro p hp
        simp only [HC.mainTabs, List.mem_cons, List.not_mem_nil, or_false] at hp
        subst hp
        exact (c.tab HC.hp0 List.mem_cons_self "check" (by decide)).2
      · intro p hp
        simp only [HC.mainTabs, List.mem_cons, List.not_mem_nil, or_false] at hp
        subst hp
        exact PySem.W.codeHd_of_K c.kin T.m_check.hd
    case S => exact fun K cs H xs a hT hwi hx => HC.call_top K cs H xs a hT hwi hx
#print axioms PySem.Challenge.cw_heraldcoats_s01_check_holds
