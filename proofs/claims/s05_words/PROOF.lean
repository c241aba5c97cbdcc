import PyProof.Rows.All
import Wide.All
import OpenK.AllK
import Wide.FinOn
import PyProof.EqAt
import PyProof.EqKinds
import PyProof.TupleCall
import Open.SpecLaws
import KE.OsGo
import PySem.Challenge.RW_heraldcoats_s05_words
import HandS.ForSpec
import HandS.IsInst
import HandS.ExcSuper
import KE.DatumOrd
import KE.GoesEnum
import HandS.Iter
import HandS.Comp
import HandS.Rev
import HandS.Lambda
import HandS.Nested
import HandS.SortKw
import KE.KStateDown
import HandS.Defaults
import HandS.Head0
import HandS.Head1
import HandS.Head2
import HandS.Head3
import HandS.Head4
import HandS.HeadHook1
import HandS.HeadHook2
import HandS.Text
import HandS.FStr
import HandS.Walk
import HandS.StrMore
import HandS.Dict
import HandS.Codes
set_option Elab.async false
set_option linter.all false
set_option maxRecDepth 100000
set_option maxHeartbeats 4000000
namespace PySem
namespace LowX
open PySem.W PySem.Calls PyProof.Rows PySem.HandSPX
/-! ### the text of __init__ -/
def iA (p1 p2 : Pos) : Arguments := { posonlyargs := [], args := [{ arg := "self", annotation := none, pos := p1 }, { arg := "place", annotation := none, pos := p2 }], vararg := none, kwonlyargs := [], kw_defaults := [], kwarg := none, defaults := [] }
def iB (q1 q2 q3 q4 : Pos) : List Stmt := [.Assign [.Attribute (.Name "self" q1) "place" q2] (.Name "place" q3) q4]
def iS : Scope := { kind := .function, names := [(PySem.Str.ofString "self", .local), (PySem.Str.ofString "place", .local)], isGenerator := false, isCoroutine := false, more := [] }
/-- what the written part says of Low, at C, and of its __init__, at fI -/
structure LowTxt (K : Frag) (mg : Str → Option Value) (C fI : Addr) : Prop where
  gC : mg "Misplaced" = some (.ref C)
  cls : ∃ nm q N bs sn sub ab col dd k0 k1 k2 k3 k5, K.lookup C = some (excClassObj nm q C N bs PySem.ESX.exTail true sn sub ab col dd k0 k1 k2 k3 k5 "Exception.__new__")
  sa : findIn K (.ref C) "__setattr__" = some (some (.builtin "object.__setattr__"))
  ga : findIn K (.ref C) "__getattribute__" = some (some (.builtin "BaseException.__getattribute__"))
  gg : findIn K (.ref C) "__getattr__" = some none
  noN : findIn K (.ref C) "place" = some none
  iC : findIn K (.ref C) "__init__" = some (some (.ref fI))
  tC : typeIn K (.ref fI) = some (.type "function")
  kC : keepIn K (.ref C) = true
  exC : subIn K (.ref C) (.type "BaseException") = some true
  tyC : typeIn K (.ref C) = some (.type "type")
  hdC : hasDictIn K C = true
  te : exmOne K (.ref C) (.ref C) = some true
  fn : ∃ (oc : Value) (od : Option Addr) (doc pm : Value) (an : Option Addr) (cdv ct : Value) (osl : Array (Option Value)) (p1 p2 q1 q2 q3 q4 : Pos),
    K.lookup fI = some ⟨oc, od, .func (fnOf "__init__" "Misplaced.__init__" (iA p1 p2) (iB q1 q2 q3 q4) iS .none .none doc pm an cdv ct), osl⟩ ∧ codeIn K cdv "Misplaced.__init__" = true
theorem one_size (v : Value) : [v].length ≤ sizeLine := by
  rw [sizeLine_eq]
  exact (by decide : 1 ≤ 16777216)
theorem kept_but {K : Frag} {h h' : Heap} {x : Addr} (X : K.In h) (hx : K.lookup x = none) (k : ∀ b o, b ≠ x → h.get? b = some o → h'.get? b = some o) : K.In h' := fun a o e =>
  k a o (fun z => by rw [z, hx] at e; cases e) (X a o e)
theorem ldC {M : Model} {s : Shared} {name : Str} {scope : Scope} {L a : Addr} {cd : Value} {m : Str → Option Value} {x : Str} {pos : Pos} {v : Value} {Q : Value → Shared → Prop} {A : Around} {E : Value → Shared → Prop} (hn : s.heap.Ns L m) (hv : m x = some v) (h : Q v s)
    (hk : scope.kind = .function := by rfl) (hl : (envOfC name scope L a cd).kindOf x = some .local := by rfl) (hd : (x == ("__debug__" : Str)) = false := by decide) :
    wpAny M A (eval (.Name x pos) (envOfC name scope L a cd)) Q E s := wpAny_Name (wpAny_loadName_local hk hl hn hv h) hd
/-- what __init__ leaves of a fresh exception at x -/
structure InitEnd (h h' : Heap) (x C dx t1 : Addr) (v : Value) : Prop where
  keep : ∀ b o, b ≠ x → h.get? b = some o → h'.get? b = some o
  obj : h'.get? x = some { cls := .ref C, dict := some dx, data := .fields #[.ref t1, .none, .none, .none, .bool false, .none] }
  dbig : h.objs.size ≤ dx
  dne : dx ≠ x
  ns : h'.Ns1 dx (fun y => if y = "place" then some v else none)
/-- a made Low -/
structure OwnMade (h h' : Heap) (e C d : Addr) (v : Value) : Prop where
  keep : ∀ b o, h.get? b = some o → h'.get? b = some o
  new : h.objs.size ≤ e
  obj : ∃ oe vs, h'.get? e = some oe ∧ oe.cls = .ref C ∧ oe.dict = some d ∧ oe.data = .fields vs ∧ vs[1]? = some .none
  dbig : h.objs.size ≤ d
  dne : d ≠ e
  ns : h'.Ns1 d (fun y => if y = "place" then some v else none)
section
variable {prog : Program} {w : World} {A : Around} {E : Value → Shared → Prop} {R : Result → Shared → Prop} {s : Shared} {K : Frag} {mg : Str → Option Value} {C fI : Addr}
theorem low_init (T : LowTxt K mg C fI) {x t0 : Addr} {v : Value} (X : K.In s.heap) (hlim : s.heap.NoLimit) (hx : s.heap.get? x = some (excO C t0)) (hnx : K.lookup x = none) (hroom : A.depth < recursionLimit)
    (hq : ∀ h' tk dx, InitEnd s.heap h' x C dx t0 v → R (.ok (.ret .none)) { s with heap := h', toks := tk }) :
    codeAny (model prog w) A (.call (.ref fI) ⟨[.ref x, v], []⟩) R s := by
  obtain ⟨oc, od, doc, pm, an, cdv, ct, osl, p1, p2, q1, q2, q3, q4, ho, hcd⟩ := T.fn
  obtain ⟨nm, q, N, bs, sn, sub, ab, col, dd, k0, k1, k2, k3, k5, hC⟩ := T.cls
  have hcl : clsIn K C = some { name := nm, bases := bs, mro := .ref C :: PySem.ESX.exTail, ns := N, qualname := q, hasDict := true, slotNames := sn, subclasses := sub, abstract := ab, collection := col, hasDel := false } := by unfold clsIn; rw [hC] <;> rfl
  refine Att.call_fn (binds := [("self", .ref x), ("place", v)]) X hlim ho hcd hroom (BindsTo.of_eq (by first | rfl | with_unfolding_all rfl)) (by first | rfl | decide | with_unfolding_all rfl) (fun s₁ IC => ?_) rfl rfl rfl
  obtain ⟨h₁, tk₁, rfl⟩ := IC.toInCall.same
  have k : ∀ b o, s.heap.get? b = some o → h₁.get? b = some o := IC.toInCall.keep
  have hn := IC.toInCall.ns
  have hxL : s.heap.objs.size ≠ x := Nat.ne_of_gt (Heap.lt_size hx)
  have X₁ : K.In h₁ := X.keeps k
  have hx₁ := k _ _ hx
  -- self.place = place
  show wpAny _ _ (execs _ _) _ _ _
  refine wpAny_execs_cons (plainObj_wpAny_Assign_Attribute ?_)
  refine ldC (v := v) hn (by first | rfl | with_unfolding_all rfl | kernel_rfl) (ldC (v := .ref x) hn (by first | rfl | with_unfolding_all rfl | kernel_rfl) ?_)
  refine set_plain X₁ (ox := excO C t0) (od := none) ⟨hx₁, rfl, rfl, trivial⟩ T.sa ?_
  refine PySem.ESX.osa_new X₁ hx₁ hcl rfl rfl T.noN (fun h₃ tk₃ dx k₃ dn dne hx₃ hn₃ => ?_)
  show wpAny _ _ (execs _ _) _ _ _
  have z : s.heap.objs.size < h₁.objs.size := hn.lt
  exact wpAny_execs_nil (hq h₃ tk₃ dx ⟨fun b o hb e => k₃ b o hb (k b o e), hx₃, Nat.le_of_lt (Nat.lt_of_lt_of_le z dn), dne, hn₃⟩)
theorem low_made (T : LowTxt K mg C fI) {v : Value} (X : K.In s.heap) (hlim : s.heap.NoLimit) (hroom : A.depth + 1 < recursionLimit)
    (hq : ∀ h' tk e d, OwnMade s.heap h' e C d v → R (.ok (.ret (.ref e))) { s with heap := h', toks := tk }) :
    codeAny (model prog w) A (.call (.ref C) ⟨[v], []⟩) R s := by
  obtain ⟨nm, q, N, bs, sn, sub, ab, col, dd, k0, k1, k2, k3, k5, hC⟩ := T.cls
  obtain ⟨hp, g, dr, tk, os⟩ := s
  have k : ∀ b o, hp.get? b = some o → ((hp.push (kdv_tup [v])).push (excO C hp.objs.size)).get? b = some o := fun b o e => Heap.get?_push_of_some _ (Heap.get?_push_of_some _ e)
  have hget : ((hp.push (kdv_tup [v])).push (excO C hp.objs.size)).get? (hp.objs.size + 1) = some (excO C hp.objs.size) := by heap_get
  have hnx : K.lookup (hp.objs.size + 1) = none := by
    cases e : K.lookup (hp.objs.size + 1) with
    | none => rfl
    | some o =>
      have z : hp.get? (hp.objs.size + 1) = some o := X _ _ e
      exact absurd (Nat.lt_of_succ_lt (Heap.lt_size z)) (Nat.lt_irrefl _)
  refine call_own F.excBase_Exception (fun X => rfl) (X _ _ hC) (looks_findIn X T.iC) (fun self => bind_fn X self T.tC) (one_size v) ?_
  refine low_init (s := ⟨(hp.push (kdv_tup [v])).push (excO C hp.objs.size), g, dr, tk, os⟩) T (X.keeps k) (hlim.keeps k) hget hnx ?_ fun h' tk' dx ⟨k', hx, dn, dne, hns⟩ => ?_
  · show A.depth + 1 < recursionLimit
    exact hroom
  · have old : ∀ b o, hp.get? b = some o → h'.get? b = some o := fun b o e => k' b o (Nat.ne_of_lt (Nat.lt_succ_of_lt (Heap.lt_size e))) (k b o e)
    have z : hp.objs.size + 1 + 1 ≤ dx := by
      first
        | (simpa only [Heap.size_push] using dn)
        | exact dn
        | (have q := dn; rw [Heap.size_push, Heap.size_push] at q; exact q)
    exact ⟨rfl, hq h' tk' (hp.objs.size + 1) dx ⟨old, Nat.le_succ _, ⟨_, _, hx, rfl, rfl, rfl, rfl⟩, Nat.le_trans (Nat.le_trans (Nat.le_succ _) (Nat.le_succ _)) z, dne, hns⟩⟩
end
end LowX
end PySem
namespace L2
open PySem PySem.Spec PyProof.Rows
theorem relO_low {v : V} {v' : Value} (r : RelV v v') (f : Str) : RelO (List.lookup f [(("place" : Str), v)]) (if f = "place" then some v' else none) := by
  by_cases hw : f = "place"
  · subst hw
    rw [if_pos rfl]
    have q : List.lookup ("place" : Str) [(("place" : Str), v)] = some v := by simp [List.lookup]
    rw [q]
    exact r
  · rw [if_neg hw]
    have qw : (f == ("place" : Str)) = false := by simpa using hw
    have q2 : List.lookup f [(("place" : Str), v)] = none := by simp [List.lookup, qw]
    rw [q2]
    trivial
section
variable {X : Cx} {C fI : Addr}
/-- Low(e) -/
def tMkLow (C : Addr) (ta : TA) : St → Hp → XK → Prop := fun σ H Q => ta σ H fun vs H1 => ∃ v, vs = [v] ∧ ∀ d, H1 d = none → Q (.ref C) (some d) (upd H1 d (.xd [(("place" : Str), v)]))
theorem pmk_low {a : Expr} {ta : TA} {p pos : Pos} {k : Nat} (T : PySem.LowX.LowTxt X.K X.mg C fI) (hr : Room k X.A) (ha : PA X [a] ta) (hg : Gl X "Misplaced" := by rfl)
    (he : starEach (a :: []) X.env = (false, eval a X.env) :: starEach [] X.env := by rfl) (hpl : (backTo pos (starEach [] X.env)).any (·.1) = false := by rfl) :
    PMk X (.Call (.Name "Misplaced" p) [a] [] pos) (tMkLow C ta) := by
  intro pins s σ H Q I h
  refine wpAny_Call_Name_kw (ld_glob I hg T.gC ?_)
  refine PySem.W.callWith_K (h₀ := X.base) I.ok.mod.kin T.kC (thn (ha.run pos pins s σ H _ I h) fun us s1 hh => ?_) he hpl
  obtain ⟨vs, H1, I1, r1, v, ev, q1⟩ := hh
  subst ev
  refine ⟨I1.kIn, ?_⟩
  cases r1 with
  | cons rv rn =>
    rename_i v' us'
    cases rn
    show wpAny _ _ (call (.ref C) [v']) _ _ _
    have hlim := I1.nolimit
    obtain ⟨hp, g, dr, tk, os⟩ := s1
    refine wpAny_call (PySem.LowX.low_made T I1.kIn hlim (by have := hr.dp; omega) fun h' tk' e d M => ?_)
    show MkP X pins σ Q (.ref e) ⟨h', g, dr, tk', os⟩
    obtain ⟨oe, fv, hoe, hc, hd, hdat, h1⟩ := M.obj
    have hns := M.ns
    obtain ⟨G', g1, g2⟩ := restrict h' fun b => decide (b ≠ e)
    have gk : ∀ b, b ≠ e → G'.get? b = h'.get? b := fun b hb => g1 b (decide_eq_true hb)
    have ge : G'.get? e = none := g2 e (by simp)
    have old : ∀ b o, hp.get? b = some o → G'.get? b = some o := fun b o q => (gk b (Nat.ne_of_lt (Nat.lt_of_lt_of_le (Heap.lt_size q) M.new))).trans (M.keep b o q)
    have ob : ObjOk X.prog X.w (upd H1 d (.xd [(("place" : Str), v)])) G' d (.xd [(("place" : Str), v)]) :=
      ⟨_, hns.at (fun o q => (gk d M.dne).trans q), fun f => relO_low rv f⟩
    have J : Inv X pins σ (upd H1 d (.xd [(("place" : Str), v)])) ⟨G', g, dr, tk', os⟩ := I1.laid (t' := tk') old M.dbig ob
    refine ⟨e, oe, fv, ⟨G', g, dr, tk', os⟩, _, .ref C, some d, rfl, J, fun b o q => ?_, ge, hoe, ⟨hc, hd⟩, hdat, h1, ?_, rfl, I1.bare, raises_own T.exC T.tyC, q1 d (I1.hok.fresh M.dbig)⟩
    · by_cases hb : b = e
      · have q' : G'.get? b = some o := q
        rw [hb, ge] at q'; cases q'
      · exact (gk b hb).symm.trans q
    · rw [upd_ne (Ne.symm M.dne)]
      exact I1.hok.fresh M.new
/-- raise Low(e) -/
def tRaiseLow (C : Addr) (W : WX) (ta : TA) : TS := fun _ σ H => tMkLow C ta σ H fun cls d H' => W cls d σ H'
theorem ps_raiseLow {a : Expr} {ta : TA} {W : WX} {p pos pos2 : Pos} {k : Nat} (hc : X.calm = true) (T : PySem.LowX.LowTxt X.K X.mg C fI) (hr : Room k X.A) (tk : Takes X W) (ha : PA X [a] ta) (hg : Gl X "Misplaced" := by rfl)
    (he : starEach (a :: []) X.env = (false, eval a X.env) :: starEach [] X.env := by rfl) (hpl : (backTo pos (starEach [] X.env)).any (·.1) = false := by rfl) :
    PS X (.Raise (some (.Call (.Name "Misplaced" p) [a] [] pos)) none pos2) (tRaiseLow C W ta) := ps_raise hc tk (pmk_low T hr ha hg he hpl)
/-- low.by, low the exception that the suite holds (at a; its class cls, its dict d) -/
def tByLow (C : Addr) (a : Addr) (cls : Value) (d : Option Addr) (te : TE) : TE := fun σ H Q => te σ H fun x H1 => x = .ref a ∧ cls = .ref C ∧ ∃ (dd : Addr) (v : V), d = some dd ∧ H1 dd = some (.xd [(("place" : Str), v)]) ∧ Q v H1
theorem pe_byLow {a : Addr} {oe : Obj} {cls : Value} {d : Option Addr} {pn : List (Addr × Obj)} {e : Expr} {te : TE} {pos : Pos} (T : PySem.LowX.LowTxt X.K X.mg C fI) (hz : Zc cls d oe) (hf : ∃ vs, oe.data = .fields vs) (he : PE (X.suite a ((a, oe) :: pn)) e te)
    (hb : attributeBase e "place" X.env (eval e X.env) = eval e X.env := by rfl) :
    PE (X.suite a ((a, oe) :: pn)) (.Attribute e "place" pos) (tByLow C a cls d te) := by
  refine ⟨fun pins s σ H Q I h => ?_⟩
  refine attr_of hb (thn (he.run pins s σ H _ I h) fun u s1 hh => ?_)
  obtain ⟨x, H1, I1, rx, ex, ec, dd, v, ed, ea, q⟩ := hh
  subst ex
  obtain rfl : u = Value.ref a := rx
  subst ec
  subst ed
  obtain ⟨ha, _⟩ := I1.pin (a, oe) (List.mem_append_left _ List.mem_cons_self)
  obtain ⟨vs, hd⟩ := hf
  have hx : ObjOk X.prog X.w H1 s1.heap dd (.xd [(("place" : Str), v)]) := I1.hok dd _ ea
  obtain ⟨mA, hns, hr⟩ := hx
  obtain ⟨od, ho, hl⟩ := lookIn_ns hns
  have l : List.lookup ("place" : Str) [(("place" : Str), v)] = some v := by simp [List.lookup]
  obtain ⟨u, hu, ru⟩ := RelO.some_of (v := v) (o := mA "place") (by rw [← l]; exact hr "place")
  have J : PySem.W.InstAt s1.heap a oe C (some od) := ⟨ha, hz.1, by unfold PySem.W.notCls; rw [hd] <;> rfl, by rw [hz.2]; exact ho⟩
  exact HandSPX.exc_get I1.kIn J T.ga T.gg T.exC (PySem.W.findObj_own T.hdC T.noN rfl (by rw [hl, hu])) (handed_of ru) ⟨v, H1, I1.tok _, ru, q⟩
end
end L2

namespace L2
open PySem PySem.Spec PyProof.Rows
/-- an if whose test is known -/
theorem if_true_of {c : Bool} {A B : Prop} (hc : c = true) (h : A) : if c = true then A else B := by
  rw [if_pos hc]
  exact h
theorem if_false_of {c : Bool} {A B : Prop} (hc : c = false) (h : B) : if c = true then A else B := by
  rw [hc, if_neg Bool.false_ne_true]
  exact h
end L2

namespace HC
open PySem PySem.Spec PyProof.Rows L2
/-! ### facts of defs and classes, in bundles -/
def NoAll (K : PySem.W.Frag) (C : Addr) : List Str → Prop
  | [] => True
  | n :: r => NoAttr K C n ∧ NoAll K C r
structure DefT (K : PySem.W.Frag) (mg : Str → Option Value) (x : Str) (st : Stmt) (f : Addr) (ps : List Str) : Prop where
  ex : ∃ fd, Fun K x x st f fd ∧ Binds K fd ps []
  gl : mg x = some (.ref f)
structure MetT (K : PySem.W.Frag) (C : Addr) (m qual : Str) (st : Stmt) (f : Addr) (ps : List Str) : Prop where
  ex : ∃ fd, Fun K m qual st f fd ∧ Binds K fd ps []
  me : Meth K C m f
structure ClsT (K : PySem.W.Frag) (mg : Str → Option Value) (x qual : Str) (C f : Addr) (ns : List Str) (st : Stmt) (ps : List Str) : Prop where
  cl : Cls K C
  no : NoAll K C ns
  mak : Mk K C f
  gl : mg x = some (.ref C)
  ini : ∃ fd, Fun K "__init__" qual st f fd ∧ Binds K fd ps []
  cla : PySem.W.findIn K (.ref C) "__class__" = some (some (.builtin "object.__class__"))
  mro : PySem.W.mroIn K C (.type "object") = some true
/-- a def keeps its promise -/
structure OkD (P : Program) (w : World) (K : PySem.W.Frag) (mg : Str → Option Value) (base : Heap) (CX : CXT) (k : Nat) (f : Addr) (ps : List Str) (sp : Sp) : Prop where
  ex : ∃ fd, FnOk P w K mg base CX k f fd ps sp ∧ Binds K fd ps []
  kp : PySem.W.keepIn K (.ref f) = true
/-! ### attributes by place -/
theorem put_new (f : Str) (v : V) : ∀ (ns : List Str) (as : List V), as.length = ns.length → f ∉ ns → putF f v (ns.zip as) = (ns ++ [f]).zip (as ++ [v])
  | [], [], _, _ => rfl
  | n :: ns, a :: as, hl, h => by
    have h1 : ¬ n = f := fun e => h (by rw [e]; exact List.mem_cons_self)
    have h2 : f ∉ ns := fun e => h (List.mem_cons_of_mem _ e)
    show (if n = f then _ else (n, a) :: putF f v (ns.zip as)) = (n, a) :: (ns ++ [f]).zip (as ++ [v])
    rw [if_neg h1, put_new f v ns as (by simpa using hl) h2]
  | [], _ :: _, hl, _ => by simp at hl
  | _ :: _, [], hl, _ => by simp at hl
/-- the place of a name -/
def ixOf (f : Str) : List Str → Option Nat
  | [] => none
  | n :: r => if n = f then some 0 else (ixOf f r).map (· + 1)
theorem put_at (f : Str) (v : V) : ∀ (ns : List Str) (as : List V) (i : Nat), as.length = ns.length → ixOf f ns = some i → putF f v (ns.zip as) = ns.zip (as.set i v)
  | [], _, _, _, h => by cases h
  | _ :: _, [], _, hl, _ => by simp at hl
  | n :: ns, a :: as, i, hl, h => by
    show (if n = f then (n, v) :: ns.zip as else (n, a) :: putF f v (ns.zip as)) = _
    unfold ixOf at h
    by_cases e : n = f
    · rw [if_pos e] at h ⊢
      cases h
      rfl
    · rw [if_neg e] at h ⊢
      cases q : ixOf f ns with
      | none => rw [q] at h; cases h
      | some j =>
        rw [q] at h
        cases h
        rw [put_at f v ns as j (by simpa using hl) q]
        rfl
theorem look_at (f : Str) : ∀ (ns : List Str) (as : List V) (i : Nat), as.length = ns.length → ixOf f ns = some i → (ns.zip as).lookup f = as[i]?
  | [], _, _, _, h => by cases h
  | _ :: _, [], _, hl, _ => by simp at hl
  | n :: ns, a :: as, i, hl, h => by
    unfold ixOf at h
    by_cases e : n = f
    · rw [if_pos e] at h
      cases h
      have hb : (f == n) = true := beq_iff_eq.mpr e.symm
      simp only [List.zip_cons_cons, List.lookup, hb]
      rfl
    · rw [if_neg e] at h
      have hb : (f == n) = false := beq_eq_false_iff_ne.mpr fun q => e q.symm
      cases q : ixOf f ns with
      | none => rw [q] at h; cases h
      | some j =>
        rw [q] at h
        cases h
        simp only [List.zip_cons_cons, List.lookup, hb]
        rw [look_at f ns as j (by simpa using hl) q]
        rfl
theorem look_no (f : Str) : ∀ (ns : List Str) (as : List V), f ∉ ns → (ns.zip as).lookup f = none
  | [], _, _ => rfl
  | _ :: _, [], _ => rfl
  | n :: ns, a :: as, h => by
    have hb : (f == n) = false := beq_eq_false_iff_ne.mpr fun q => h (by rw [q]; exact List.mem_cons_self)
    simp only [List.zip_cons_cons, List.lookup, hb]
    exact look_no f ns as fun e => h (List.mem_cons_of_mem _ e)
/-! ### a new instance of a class whose __init__ stores its arguments -/
def spInit (C : Addr) (ns : List Str) : Sp := fun vs H Q _ => ∃ (p dx : Addr) (as : List V), vs = .ref p :: as ∧ as.length = ns.length ∧ H p = some (.ins C dx []) ∧
  ∀ H', (∀ b, b ≠ p → H' b = H b) → H' p = some (.ins C dx (ns.zip as)) → Q .non H'
/-- from C(..)'s reading to what callers want: a new object, all else as it was -/
theorem made {C : Addr} {ns : List Str} {vs : List V} {H : Hp} {Q : Addr → Hp → Prop} {E : XK} (hl : vs.length = ns.length)
    (h : ∀ x dx H', H x = none → Same H H' → H' x = some (.ins C dx (ns.zip vs)) → Q x H') :
    ∀ x dx, H x = none → H dx = none → dx ≠ x → spInit C ns (.ref x :: (vs ++ [])) (upd (upd H dx (.own x)) x (.ins C dx [])) (fun v H2 => v = .non ∧ Q x H2) E := by
  intro x dx nx ndx ne
  rw [List.append_nil]
  refine ⟨x, dx, vs, rfl, hl, upd_same, fun H' hb hx => ⟨rfl, h x dx H' nx (fun b o e => ?_) hx⟩⟩
  rw [hb b (ne_of_none e nx), upd_ne (ne_of_none e nx), upd_ne (ne_of_none e ndx)]
  exact e
/-! ### what leaves a def -/
section
variable {P : Program} {w : World} {K : PySem.W.Frag} {mg : Str → Option Value} {base : Heap} {N : List Str} {qual : Str} {sc : Scope} {f : Addr} {cdv : Value} {A : Around} {outer : List Env} {s : Shared} {H : Hp} {E : XK}
theorem takesX : Takes (cxOf (L2.CX P w) P w K mg base N qual sc f cdv A outer s H E) (fun cls d _ H => E cls d H) := takes_of rfl rfl rfl rfl
theorem passX : Passes (L2.CX P w) (cxOf (L2.CX P w) P w K mg base N qual sc f cdv A outer s H E) E := passes_call takesX fun _ _ _ _ h => h
theorem ownX : PassesOwn (model P w) (cxOf (L2.CX P w) P w K mg base N qual sc f cdv A outer s H E).A (cxOf (L2.CX P w) P w K mg base N qual sc f cdv A outer s H E).env (cxOf (L2.CX P w) P w K mg base N qual sc f cdv A outer s H E).xe := passes_of rfl
end
/-! ### heaps -/
/-- all but R is as it was -/
def Keep (R : Addr) (H H' : Hp) : Prop := ∀ b o, b ≠ R → H b = some o → H' b = some o
theorem Keep.refl (R : Addr) (H : Hp) : Keep R H H := fun _ _ _ h => h
theorem Keep.trans {R : Addr} {H H1 H2 : Hp} (a : Keep R H H1) (b : Keep R H1 H2) : Keep R H H2 := fun c o n h => b c o n (a c o n h)
theorem Keep.of {R : Addr} {H H' : Hp} (s : Same H H') : Keep R H H' := fun b o _ h => s b o h
theorem Keep.free {R : Addr} {H H' : Hp} {o : HO} (k : Keep R H H') (hR : H' R = some o) {b : Addr} (h : H' b = none) : H b = none := by
  cases q : H b with
  | none => rfl
  | some u =>
    by_cases e : b = R
    · subst e
      rw [hR] at h
      cases h
    · rw [k b u e q] at h
      cases h
/-- a module's constant -/
theorem pgi {X : Cx} {x : Str} {pos : Pos} {i : Int} {t : Tok} (hm : X.mg x = some (.int i t)) (hg : Gl X x := by rfl) (hd : (x == ("__debug__" : Str)) = false := by decide) : PE X (.Name x pos) (tC (.int i)) := pe_glob (v := .int i) hg hm ⟨_, rfl⟩ hd
end HC
namespace HC
open PySem PySem.Spec PyProof.Rows L2
/-! ### promises of defs that take ints and leave the heap alone -/
def spI1 (C : Int → Prop) (g : Int → V) : Sp := fun vs H Q _ => ∃ a : Int, vs = [.int a] ∧ C a ∧ Q (g a) H
def spI2 (C : Int → Int → Prop) (g : Int → Int → V) : Sp := fun vs H Q _ => ∃ a b : Int, vs = [.int a, .int b] ∧ C a b ∧ Q (g a b) H
def spI3 (C : Int → Int → Int → Prop) (g : Int → Int → Int → V) : Sp := fun vs H Q _ => ∃ a b c : Int, vs = [.int a, .int b, .int c] ∧ C a b c ∧ Q (g a b c) H
def spI4 (C : Int → Int → Int → Int → Prop) (g : Int → Int → Int → Int → V) : Sp := fun vs H Q _ => ∃ a b c e : Int, vs = [.int a, .int b, .int c, .int e] ∧ C a b c e ∧ Q (g a b c e) H
def spI5 (C : Int → Int → Int → Int → Int → Prop) (g : Int → Int → Int → Int → Int → V) : Sp := fun vs H Q _ => ∃ a b c e f : Int, vs = [.int a, .int b, .int c, .int e, .int f] ∧ C a b c e f ∧ Q (g a b c e f) H
theorem castI {Q : VK} {H : Hp} {a b : Int} (k : Q (.int a) H) (e : a = b) : Q (.int b) H := e ▸ k
theorem castB {Q : VK} {H : Hp} {a b : Bool} (k : Q (.bl a) H) (e : a = b) : Q (.bl b) H := e ▸ k
/-! ### a call of what an expression gives -/
def FnAt (X : Cx) (k : Nat) (f : Addr) (sp : Sp) : Prop := ∃ j fd ps, j ≤ k ∧ FnOk X.prog X.w X.K X.mg X.base CX0 j f fd ps sp ∧ Binds X.K fd ps [] ∧ PySem.W.keepIn X.K (.ref f) = true
def tCallE (X : Cx) (k : Nat) (tf : TE) (t : TA) : TE := fun σ H Q => tf σ H fun y H1 => ∃ f sp, y = V.ref f ∧ FnAt X k f sp ∧ t σ H1 fun vs H2 => sp vs H2 Q E0
theorem pe_callE {X : Cx} {k : Nat} {fe e : Expr} {es : List Expr} {tf : TE} {t : TA} {pos : Pos} (hr : Room k X.A) (hf : PE X fe tf) (ha : PA X (e :: es) t)
    (ht : eval (.Call fe (e :: es) [] pos) X.env = (do callWith pos (← eval fe X.env) [] (backTo pos (starEach (e :: es) X.env)) (backToKw pos (keywordEach [] X.env))) := by rfl)
    (he : starEach (e :: es) X.env = (false, eval e X.env) :: starEach es X.env := by rfl) (hpl : (backTo pos (starEach es X.env)).any (·.1) = false := by rfl) : PE X (.Call fe (e :: es) [] pos) (tCallE X k tf t) := by
  refine ⟨fun pins s σ H Q I h => ?_⟩
  refine Call_ (thn (hf.run pins s σ H _ I h) fun u s1 ⟨y, H1, I1, ry, f, sp, ey, ⟨j, fd, ps, hj, F, hb, hk⟩, q⟩ => ?_) ht
  subst ey
  obtain rfl : u = Value.ref f := ry
  refine PySem.W.callWith_K (h₀ := X.base) I.ok.mod.kin hk (thn (ha.run pos pins s1 σ H1 _ I1 q) fun us s2 ⟨vs, H2, I2, r, q2⟩ => ⟨I2.kIn, ?_⟩) he hpl
  exact run_fn (dvs := []) (ds := []) F (hr.mono hj) hb .nil pass0 I2 r (by rw [List.append_nil]; exact q2)
/-- a tuple of the text -/
def TupK (K : PySem.W.Frag) (a : Addr) (xs : List V) : Prop := ∀ H, SqT K H a xs
theorem tup_mk {K : PySem.W.Frag} {a : Addr} {dd : Option Addr} {its : Array Value} {n : Nat} {sl : Array (Option Value)} {xs : List V} (l : K.lookup a = some ⟨.type "tuple", dd, .seq its n, sl⟩) (z : its.size ≤ sizeLine) (v : Vals xs its.toList) : TupK K a xs :=
  fun _ => .inr ⟨_, its, n, l, rfl, rfl, z, v⟩
end HC
namespace HC
open PySem PySem.Spec PyProof.Rows L2 LamX NdefX
/-! ### functions that are made while the program runs, and handed on -/
/-- the object at f is a lambda: F its words (F.body is not asked), b its body -/
def LamO (f : Addr) (F : NF) (b : Expr) : HO := .ext fun h => ∃ (od : Option Addr) (sl : Array (Option Value)) (pm ctv : Value),
  h.get? f = some (⟨.type "function", od, .func (PySem.W.kla_fn F.name F.qual F.params b F.scope F.cl pm (.ref F.c) ctv), sl⟩ : Obj)
theorem lamO_ne {f : Addr} {F : NF} {b : Expr} (ps : Array Value) : LamO f F b ≠ .tbl ps := fun z => by
  unfold LamO at z
  cases z
def IsF (H : Hp) (f : Addr) : Prop := (∃ F, H f = some (FnO f F)) ∨ ∃ F b, H f = some (LamO f F b)
theorem IsF.same {H H' : Hp} {f : Addr} (s : Same H H') (h : IsF H f) : IsF H' f := by
  rcases h with ⟨F, e⟩ | ⟨F, b, e⟩
  · exact .inl ⟨F, s _ _ e⟩
  · exact .inr ⟨F, b, s _ _ e⟩
theorem lamO_at {P : Program} {w : World} {H : Hp} {h : Heap} {f : Addr} {F : NF} {b : Expr} (hok : HOk P w H h) (e : H f = some (LamO f F b)) :
    ∃ (od : Option Addr) (sl : Array (Option Value)) (pm ctv : Value), h.get? f = some (⟨.type "function", od, .func (PySem.W.kla_fn F.name F.qual F.params b F.scope F.cl pm (.ref F.c) ctv), sl⟩ : Obj) :=
  (show _ ∧ _ from hok f _ e).1
theorem isF_at {P : Program} {w : World} {H : Hp} {h : Heap} {f : Addr} (hok : HOk P w H h) (e : IsF H f) : PySem.W.FnAt f h := by
  rcases e with ⟨F, e⟩ | ⟨F, b, e⟩
  · obtain ⟨od, sl, d1, d2, d3, z⟩ := fnO_at hok e
    exact ⟨_, od, _, sl, z⟩
  · obtain ⟨od, sl, d1, d2, z⟩ := lamO_at hok e
    exact ⟨_, od, _, sl, z⟩
theorem lam_laid {X : Cx} {pins : List (Addr × Obj)} {σ : L2.St} {H : Hp} {s : Shared} {F : NF} {b : Expr} {o : Obj} {tk : Nat} {pm ctv : Value} (I : Inv X pins σ H s)
    (ho : o = PySem.W.kla_obj F.name F.qual F.params b F.scope F.cl pm F.c ctv) : Inv X pins σ (upd H s.heap.objs.size (LamO s.heap.objs.size F b)) { s with heap := s.heap.push o, toks := tk } := by
  subst ho
  have e : (s.heap.push (PySem.W.kla_obj F.name F.qual F.params b F.scope F.cl pm F.c ctv)).get? s.heap.objs.size = some (PySem.W.kla_obj F.name F.qual F.params b F.scope F.cl pm F.c ctv) := Heap.get?_push_size _ rfl
  refine I.laid (a := s.heap.objs.size) (fun _ _ z => Heap.get?_push_of_some _ z) (Nat.le_refl _) ⟨⟨_, _, pm, ctv, e⟩, ⟨_, e⟩, ?_⟩
  rintro h1 h2 ⟨od, sl, p, t, z⟩ st
  exact ⟨od, sl, p, t, st _ z⟩
/-- the lambda that the context X makes -/
abbrev lamF (X : Cx) (params : Arguments) (scope : Scope) (c : Addr) : NF := ⟨"<lambda>", X.env.qual ++ "<lambda>", params, [], scope, cloFrom X.env.cells scope.names [], c⟩
/-- a lambda as a value: a new object; T is the maker's table -/
def tLamE (T : Addr) (q : Str) (mk : Addr → NF) (b : Expr) : TE := fun _ H Q => TabN H T (fun _ _ => q) ∧
  ∀ (f c : Addr) (H1 : Hp), ExtN H H1 ∧ Keep T H H1 → H f = none → H1 f = some (LamO f (mk c) b) → H1 c = some (CodeO c q) → Q (.ref f) H1
theorem pe_lam {X : Cx} {c T : Addr} {params : Arguments} {body : Expr} {scope : Scope} {pos : Pos} (TB : TabB X.base X.mg c T) (hcode : X.env.code = .ref c) (hdef : defaultsOf params X.env = ([], []))
    (hfree : ∀ y ∈ scope.names, y.2 = .free → X.env.scope.names.lookup y.1 = some .cell ∨ X.env.scope.names.lookup y.1 = some .free) :
    PE X (.Lambda params body scope pos) (tLamE T (X.env.qual ++ "<lambda>") (lamF X params scope) body) := by
  refine ⟨fun pins s σ H Q I hq => ?_⟩
  obtain ⟨⟨ps, hT, h3, hall⟩, go⟩ := hq
  have cap : ∀ y ∈ scope.names, y.2 = .free → ∃ z, X.env.cells.lookup y.1 = some z := fun y hy e => by
    rcases hfree y hy e with k | k
    · exact I.ok.has _ (.inl k)
    · exact I.ok.has _ (.inr k)
  refine PySem.W.kla_eval hdef ?_
  have bT := TB.bm.keeps I.bk
  have oT : s.heap.get? T = some { cls := .none, data := .fields ps } := I.hok T _ hT
  cases hc : codeAmong pos ps.toList with
  | none =>
    refine PySem.W.kla_makeFunction (P := T) (ps := ps) (mg := X.mg) (c := c) (closure_ok cap) I.ok.glob (I.mod.glob.keeps I.bk) hcode (TB.code.keeps I.bk) oT h3 hc TB.gP bT ?_
    intro c1 ctv h1 tk ext ge lt rc tb
    obtain ⟨c2, oc, vs, t, e2, a1, a2, a3⟩ := rc
    cases e2
    have fc : H c1 = none := I.hok.fresh ge
    have I1 := inv_table (t' := tk) (more := #[rawInt pos.line, rawInt pos.col, .ref c1]) (h' := h1) I hT (fun b o hb e => ext b o hb e) tb ge ⟨oc, vs, t, a1, a2, a3⟩
    have ff := I1.hok.fresh (Nat.le_refl _)
    have I2 := lam_laid (F := lamF X params scope c1) (b := body) (tk := tk) (pm := (X.mg "__name__").getD .none) (ctv := ctv) I1 rfl
    refine ⟨.ref h1.objs.size, _, I2, rfl, go h1.objs.size c1 _ ⟨fun b o e n => ?_, fun b o n e => ?_⟩ (I.hok.fresh (Nat.le_trans ge (Nat.le_of_lt lt))) upd_same ?_⟩
    · have e1 : upd (upd H T (.tbl (ps ++ #[rawInt pos.line, rawInt pos.col, .ref c1]))) c1 (CodeO c1 (X.env.qual ++ "<lambda>")) b = some o := by
        rw [upd_ne (ne_of_none e fc), upd_ne (fun z => n ps (by rw [z] at e; exact Option.some.inj (e.symm.trans hT)))]
        exact e
      exact (upd_ne (ne_of_none e1 ff)).trans e1
    · have e1 : upd (upd H T (.tbl (ps ++ #[rawInt pos.line, rawInt pos.col, .ref c1]))) c1 (CodeO c1 (X.env.qual ++ "<lambda>")) b = some o := by
        rw [upd_ne (ne_of_none e fc), upd_ne n]
        exact e
      exact (upd_ne (ne_of_none e1 ff)).trans e1
    · exact (upd_ne (Nat.ne_of_lt lt)).trans upd_same
  | some cv =>
    obtain ⟨c1, e, hco⟩ := hall pos cv hc
    subst e
    refine PySem.W.kla_makeFunctionHit (P := T) (ps := ps) (mg := X.mg) (c := c) (closure_ok cap) I.ok.glob (I.mod.glob.keeps I.bk) hcode (TB.code.keeps I.bk) oT h3 hc bT ?_
    intro ctv h1 tk ext sz
    have I1 : Inv X pins σ H { s with heap := h1, toks := tk } := I.kept ext
    have ff : H h1.objs.size = none := I1.hok.fresh (Nat.le_refl _)
    have I2 := lam_laid (F := lamF X params scope c1) (b := body) (tk := tk) (pm := (X.mg "__name__").getD .none) (ctv := ctv) I1 rfl
    refine ⟨.ref h1.objs.size, _, I2, rfl, go h1.objs.size c1 _ ⟨fun b o e _ => (upd_ne (ne_of_none e ff)).trans e, fun b o _ e => (upd_ne (ne_of_none e ff)).trans e⟩ ff upd_same ?_⟩
    exact (upd_ne (ne_of_none hco ff)).trans hco
/-! ### what a lambda promises (one that captures nothing) -/
structure LOk (P : Program) (w : World) (K : PySem.W.Frag) (mg : Str → Option Value) (base : Heap) (k : Nat) (f : Addr) (F : NF) (b : Expr) (sp : Sp) : Prop where
  run : ∀ (A : Around) (outer : List Env) (s : Shared) (H : Hp) (us : List Value) (vs : List V) (Q : VK), Room k A → Env0 P w K mg base A outer s H → H f = some (LamO f F b) → H F.c = some (CodeO F.c F.qual) →
    Vals vs us → sp vs H Q E0 → codeAny (model P w) A (.call (.ref f) ⟨us, []⟩) (CR CX0 outer P w H s Q E0) s
theorem cells0 {cl : List (Str × Addr)} {h : Heap} {H : Hp} (hcl : cl = []) : CellsAt cl [] [] h H := by
  subst hcl
  exact ⟨rfl, fun _ _ e => (nomatch e), fun _ _ _ e => (nomatch e), fun _ _ e => (by simp at e)⟩
section
variable {P : Program} {w : World} {K : PySem.W.Frag} {mg : Str → Option Value} {base : Heap} {k kt : Nat} {f g : Addr} {F : NF} {b : Expr} {sp : Sp}
theorem LOk.mono (o : LOk P w K mg base k f F b sp) (h : k ≤ kt) : LOk P w K mg base kt f F b sp := ⟨fun A outer s H us vs Q hr => o.run A outer s H us vs Q (hr.mono h)⟩
theorem lok_of {N ps : List Str} (S : NScope N ps [] F.scope) (hcl : F.cl = []) (hb : ∀ (pm cv ctv : Value) (us : List Value), us.length = ps.length → bindArgs (PySem.W.kla_fn F.name F.qual F.params b F.scope F.cl pm cv ctv) ⟨us, []⟩ = pure (ps.zip us))
    (len : ∀ vs H Q E, sp vs H Q E → vs.length = ps.length)
    (hbody : ∀ (A : Around) (outer : List Env) (s : Shared) (H : Hp) (vs : List V) (Q : VK), Room k (A.deeper (envF F f s.heap.objs.size)) → sp vs H Q E0 →
      ∃ t, PE (ncx CX0 P w K mg base N F f A outer s H E0) b t ∧ t (startF N vs []) H Q) : LOk P w K mg base (k + 1) f F b sp := by
  refine ⟨fun A outer s H us vs Q hr e0 hf hc r q => ?_⟩
  have hl := len _ _ _ _ q
  have lim : s.heap.NoLimit := e0.mod.nolimit.keeps fun b o e => (e0.bs b o e).1
  obtain ⟨od, sl, pm, ctv, ho⟩ := lamO_at e0.hok hf
  refine PySem.W.kla_callFunE hr.depth ho rfl S.co S.gen rfl (codeO_at e0.hok hc) ?_
  rw [hb pm (.ref F.c) ctv us (by rw [← r.length]; exact hl)]
  refine wpAny_pure (wpAny_newFunctionEnv S.nocell (fun y hy => S.par y.1 (List.of_mem_zip hy).1) ?_ S.kind)
  intro h1 hns hsb
  refine ⟨lim.fresh _ hsb, ?_⟩
  show codeAny _ _ (.expr b (envF F f s.heap.objs.size)) _ _
  have kp : ∀ a o, s.heap.get? a = some o → h1.get? a = some o := fun a o e => hsb.extBut a o (Nat.ne_of_lt (Heap.lt_size e)) (Heap.get?_push_of_some _ e)
  obtain ⟨t, ht, hq⟩ := hbody A outer s H vs Q (hr.deeper _) q
  have I : Inv (ncx CX0 P w K mg base N F f A outer s H E0) [] (startF N vs []) H { s with heap := h1, toks := s.toks + (ps.zip us).length } := inv_startN S hr.hd e0 hl r (cells0 hcl) hns kp
  refine PySem.W.kla_codeExpr (wpAny_mono (ht.run [] _ (startF N vs []) H Q I hq) ?_ fun e s' z => z)
  rintro u s1 ⟨v, H1, J, rv, z⟩
  exact ⟨v, H1, J.os, J.bare, J.base, J.hok, rv, z⟩
/-! ### what is handed on: its promise from a state on -/
structure Tells (P : Program) (w : World) (K : PySem.W.Frag) (mg : Str → Option Value) (base : Heap) (k : Nat) (f : Addr) (fs : List Addr) (H0 : Hp) (h0 : Heap) (sp : Sp) : Prop where
  run : ∀ (A : Around) (outer : List Env) (s : Shared) (H : Hp) (us : List Value) (vs : List V) (Q : VK), Room k A → Env0 P w K mg base A outer s H → Un fs [] H0 H h0 s.heap → Vals vs us → sp vs H Q E0 →
    codeAny (model P w) A (.call (.ref f) ⟨us, []⟩) (CR CX0 outer P w H s Q E0) s
/-- a lambda's promise, with the lambda in the heap -/
def spLam (f : Addr) (F : NF) (b : Expr) (sp : Sp) : Sp := fun vs H Q E => H f = some (LamO f F b) ∧ H F.c = some (CodeO F.c F.qual) ∧ sp vs H Q E
theorem LOk.tells (o : LOk P w K mg base k f F b sp) (fs : List Addr) (H0 : Hp) (h0 : Heap) : Tells P w K mg base k f fs H0 h0 (spLam f F b sp) :=
  ⟨fun A outer s H us vs Q hr e0 _ r q => o.run A outer s H us vs Q hr e0 q.1 q.2.1 r q.2.2⟩
def spNf (f : Addr) (F : NF) (ws : List (Option V)) (sp : List (Option V) → Sp) : Sp := fun vs H Q E => H f = some (FnO f F) ∧ H F.c = some (CodeO F.c F.qual) ∧ sp ws vs H Q E
theorem cells_un {cl : List (Str × Addr)} {fr : List Str} {ws : List (Option V)} {fs : List Addr} {H H1 : Hp} {h h1 : Heap} (c : CellsAt cl fr ws h H) (u : Un fs [] H H1 h h1) : CellsAt cl fr ws h1 H1 := by
  have kp : ∀ y a, cl.lookup y = some a → ∀ v, h.IsCell a v → h1.IsCell a v := fun y a e v ⟨o, ho, hd⟩ => by
    obtain ⟨sl, z⟩ := u.any ho (c.all y a e).1 (by simp)
    exact ⟨_, z, hd⟩
  refine ⟨c.len, fun y a e => ?_, c.inj, fun i y e => ?_⟩
  · obtain ⟨n, v, z⟩ := c.all y a e
    refine ⟨?_, v, kp y a e v z⟩
    obtain ⟨o, ho, _⟩ := z
    exact u.free a o ho n (by simp)
  · obtain ⟨a, ha, hv⟩ := c.has i y e
    refine ⟨a, ha, fun v ev => ?_⟩
    obtain ⟨x, rx, z⟩ := hv v ev
    exact ⟨x, rx, kp y a ha _ z⟩
theorem nok_tells {ps fr : List Str} {ws : List (Option V)} {spn : List (Option V) → Sp} {fs : List Addr} {H0 : Hp} {h0 : Heap} (o : NOk P w K mg base CX0 k f F ps fr spn) (c : CellsAt F.cl fr ws h0 H0) : Tells P w K mg base k f fs H0 h0 (spNf f F ws spn) :=
  ⟨fun A outer s H us vs Q hr e0 un r q => o.run A outer s H us vs ws Q E0 hr e0 q.1 q.2.1 (cells_un c un) r q.2.2⟩
/-- a def that is handed a function f: SP f sp, sp what f promises -/
structure GivOk (P : Program) (w : World) (K : PySem.W.Frag) (mg : Str → Option Value) (base : Heap) (k kt : Nat) (g : Addr) (fd : FuncData) (ps : List Str) (SP : Addr → Sp → Sp) : Prop where
  len : ∀ f sp vs H Q E, SP f sp vs H Q E → vs.length = ps.length
  run : ∀ (A : Around) (outer : List Env) (s : Shared) (H : Hp) (args : Args) (us : List Value) (vs : List V) (Q : VK) (f : Addr) (sp : Sp), Room k A → Env0 P w K mg base A outer s H → Tells P w K mg base kt f (frs outer) H s.heap sp →
    BindsTo s fd args (ps.zip us) → Vals vs us → SP f sp vs H Q E0 → codeAny (model P w) A (.call (.ref g) args) (CR CX0 outer P w H s Q E0) s
theorem giv_of {x qual : Str} {st : Stmt} {fd : FuncData} {N ps : List Str} {SP : Addr → Sp → Sp} (D : Fun K x qual st g fd) (S : FnScope N ps (defScope st)) (len : ∀ f sp vs H Q E, SP f sp vs H Q E → vs.length = ps.length)
    (hbody : ∀ (cdv : Value) (A : Around) (outer : List Env) (s : Shared) (H : Hp) (vs : List V) (Q : VK) (f : Addr) (sp : Sp), Room k (A.deeper (envOfC qual (defScope st) s.heap.objs.size g cdv)) → Tells P w K mg base kt f (frs outer) H s.heap sp → SP f sp vs H Q E0 →
      ∃ t, PSs (cxOf CX0 P w K mg base N qual (defScope st) g cdv A outer s H E0).nox (defBody st) t ∧ t { nx := fun _ H' => Q .non H', rt := Q } (start N vs) H) : GivOk P w K mg base (k + 1) kt g fd ps SP := by
  obtain ⟨oc, od, kV, doc, pm, an, cdv, ct, osl, rfl, lk, hcd⟩ := D.ex
  refine ⟨len, fun A outer s H args us vs Q f sp hr e0 tl hb r q => ?_⟩
  refine LamX.run_ofS (N := N) lk hcd S hr e0 hb r (len _ _ _ _ _ _ q) fun hr2 => ?_
  obtain ⟨t, h1, h2⟩ := hbody cdv A outer s H vs Q f sp hr2 tl q
  exact ⟨t, h1.nox, h2⟩
end
section
variable {X : Cx} {k kt i : Nat} {g : Addr} {fd : FuncData} {ps : List Str} {SP : Addr → Sp → Sp} {x : Str} {p pos : Pos} {e : Expr} {es : List Expr} {t : TA}
/-- x(..), x the name that holds what was handed on -/
def tTell (i : Nat) (f : Addr) (sp : Sp) (t : TA) : TE := fun σ H Q => σ[i]? = some (some (.ref f)) ∧ IsF H f ∧ t σ H fun vs H1 => IsF H1 f ∧ sp vs H1 Q E0
theorem pe_tell {f : Addr} {sp : Sp} (T : Tells X.prog X.w X.K X.mg X.base kt f X.fs X.H_0 X.s_0.heap sp) (hex : X.ex = []) (hr : Room kt X.A) (hN : X.N[i]? = some x) (hv : Vis X.env.scope x) (ha : PA X (e :: es) t)
    (hd : (x == ("__debug__" : Str)) = false := by decide) (hcd : (x == ("__classdict__" : Str)) = false := by decide)
    (he : starEach (e :: es) X.env = (false, eval e X.env) :: starEach es X.env := by rfl) (hpl : (backTo pos (starEach es X.env)).any (·.1) = false := by rfl) : PE X (.Call (.Name x p) (e :: es) [] pos) (tTell i f sp t) := by
  refine ⟨fun pins s σ H Q I hq => ?_⟩
  obtain ⟨hs, hF, ht⟩ := hq
  refine wpAny_Call_Name_kw (thn ((pe_var (pos := p) hN hv hd hcd).run pins s σ H (fun v H1 => v = .ref f ∧ H1 = H) I ⟨.ref f, hs, rfl, rfl⟩) ?_)
  rintro u s1 ⟨v, H1, I1, r1, e1, e2⟩
  subst e1 e2
  obtain rfl : u = Value.ref f := r1
  refine PySem.W.callWith_F (first := []) (isF_at I1.hok hF) (thn (ha.run pos pins s1 σ _ _ I1 ht) ?_) he hpl
  rintro us s2 ⟨vs, H2, I2, r, hF2, q⟩
  refine ⟨isF_at I2.hok hF2, ?_⟩
  show wpAny _ _ (call (.ref f) us) _ _ _
  have un := I2.base
  rw [hex] at un
  refine wpAny_call (codeAny_mono (T.run X.A X.stack s2 H2 us vs Q hr I2.env0 un r q) fun r' s' z => ?_)
  cases r' with
  | error e => exact (show False from z).elim
  | ok fl =>
    cases fl with
    | ret u => exact I2.after z
    | next => exact (show False from z).elim
    | brk => exact (show False from z).elim
    | cont => exact (show False from z).elim
/-- .. that holds a lambda, wherever -/
def tTellL (X : Cx) (kt i : Nat) (t : TA) : TE := fun σ H Q => ∃ (f : Addr) (F : NF) (b : Expr) (sp : Sp), σ[i]? = some (some (.ref f)) ∧ LOk X.prog X.w X.K X.mg X.base kt f F b sp ∧ IsF H f ∧ t σ H fun vs H1 => spLam f F b sp vs H1 Q E0
theorem pe_tellL (hr : Room kt X.A) (hN : X.N[i]? = some x) (hv : Vis X.env.scope x) (ha : PA X (e :: es) t)
    (hd : (x == ("__debug__" : Str)) = false := by decide) (hcd : (x == ("__classdict__" : Str)) = false := by decide)
    (he : starEach (e :: es) X.env = (false, eval e X.env) :: starEach es X.env := by rfl) (hpl : (backTo pos (starEach es X.env)).any (·.1) = false := by rfl) : PE X (.Call (.Name x p) (e :: es) [] pos) (tTellL X kt i t) := by
  refine ⟨fun pins s σ H Q I hq => ?_⟩
  obtain ⟨f, F, b, sp, hs, L, hF, ht⟩ := hq
  refine wpAny_Call_Name_kw (thn ((pe_var (pos := p) hN hv hd hcd).run pins s σ H (fun v H1 => v = .ref f ∧ H1 = H) I ⟨.ref f, hs, rfl, rfl⟩) ?_)
  rintro u s1 ⟨v, H1, I1, r1, e1, e2⟩
  subst e1 e2
  obtain rfl : u = Value.ref f := r1
  refine PySem.W.callWith_F (first := []) (isF_at I1.hok hF) (thn (ha.run pos pins s1 σ _ _ I1 ht) ?_) he hpl
  rintro us s2 ⟨vs, H2, I2, r, q1, q2, q3⟩
  refine ⟨isF_at I2.hok (.inr ⟨F, b, q1⟩), ?_⟩
  show wpAny _ _ (call (.ref f) us) _ _ _
  refine wpAny_call (codeAny_mono (L.run X.A X.stack s2 H2 us vs Q hr I2.env0 q1 q2 r q3) fun r' s' z => ?_)
  cases r' with
  | error e => exact (show False from z).elim
  | ok fl =>
    cases fl with
    | ret u => exact I2.after z
    | next => exact (show False from z).elim
    | brk => exact (show False from z).elim
    | cont => exact (show False from z).elim
/-- the callee, handed what tells sp -/
theorem run_giv {pins : List (Addr × Obj)} {σ : L2.St} {H : Hp} {s : Shared} {Q : VK} {us : List Value} {vs : List V} {f : Addr} {sp : Sp} (G : GivOk X.prog X.w X.K X.mg X.base k kt g fd ps SP) (hr : Room k X.A) (hb : Binds X.K fd ps []) (I : Inv X pins σ H s)
    (T : Tells X.prog X.w X.K X.mg X.base kt f (frs X.stack) H s.heap sp) (r : Vals vs us) (q : SP f sp vs H Q E0) : wpAny (model X.prog X.w) X.A (call (.ref g) us) (EP X pins σ Q) X.xe s := by
  have hl : us.length = ps.length := by rw [← r.length]; exact G.len _ _ _ _ _ _ q
  have bb := hb s us I.kIn (by rw [List.append_nil]; exact hl)
  rw [List.append_nil] at bb
  refine wpAny_call (codeAny_mono (G.run X.A X.stack s H ⟨us, []⟩ us vs Q f sp hr I.env0 T bb r q) fun r' s' z => ?_)
  cases r' with
  | error e => exact (show False from z).elim
  | ok fl =>
    cases fl with
    | ret u => exact I.after z
    | next => exact (show False from z).elim
    | brk => exact (show False from z).elim
    | cont => exact (show False from z).elim
/-- x(.., a lambda) -/
def tGivL (X : Cx) (kt : Nat) (SP : Addr → Sp → Sp) (t : TA) : TE := fun σ H Q => t σ H fun vs H1 => ∃ (f : Addr) (F : NF) (b : Expr) (sp : Sp), LOk X.prog X.w X.K X.mg X.base kt f F b sp ∧ SP f (spLam f F b sp) vs H1 Q E0
theorem pe_givL (G : GivOk X.prog X.w X.K X.mg X.base k kt g fd ps SP) (hr : Room k X.A) (hg : Gl X x) (hm : X.mg x = some (.ref g)) (hk : PySem.W.keepIn X.K (.ref g) = true) (hb : Binds X.K fd ps []) (ha : PA X (e :: es) t)
    (hdb : (x == ("__debug__" : Str)) = false := by decide) (he : starEach (e :: es) X.env = (false, eval e X.env) :: starEach es X.env := by rfl) (hpl : (backTo pos (starEach es X.env)).any (·.1) = false := by rfl) :
    PE X (.Call (.Name x p) (e :: es) [] pos) (tGivL X kt SP t) := by
  refine ⟨fun pins s σ H Q I hq => ?_⟩
  refine wpAny_Call_Name_kw (ld_glob I hg hm ?_ hdb)
  refine PySem.W.callWith_K (h₀ := X.base) I.ok.mod.kin hk (thn (ha.run pos pins s σ H _ I hq) ?_) he hpl
  rintro us s1 ⟨vs, H1, I1, r, f, F, b, sp, L, q⟩
  exact ⟨I1.kIn, run_giv G hr hb I1 (L.tells _ _ _) r q⟩
/-- x(.., f), f a name that holds a def made here; js: where what it captured stands -/
def tGivN (X : Cx) (kt : Nat) (SP : Addr → Sp → Sp) (mk : Addr → NF) (fps fr : List Str) (js : List Nat) (t : TA) : TE := fun σ H Q => t σ H fun vs H1 => ∃ (f c : Addr) (spn : List (Option V) → Sp),
  NOk X.prog X.w X.K X.mg X.base CX0 kt f (mk c) fps fr spn ∧ SP f (spNf f (mk c) (js.map (slotAt σ)) spn) vs H1 Q E0
theorem pe_givN {mk : Addr → NF} {cl : List (Str × Addr)} {fps fr : List Str} {js : List Nat} (G : GivOk X.prog X.w X.K X.mg X.base k kt g fd ps SP) (hcl : ∀ c, (mk c).cl = cl) (cp : X.Ok → Caps X cl fr js) (hr : Room k X.A) (hg : Gl X x) (hm : X.mg x = some (.ref g)) (hk : PySem.W.keepIn X.K (.ref g) = true)
    (hb : Binds X.K fd ps []) (ha : PA X (e :: es) t)
    (hdb : (x == ("__debug__" : Str)) = false := by decide) (he : starEach (e :: es) X.env = (false, eval e X.env) :: starEach es X.env := by rfl) (hpl : (backTo pos (starEach es X.env)).any (·.1) = false := by rfl) :
    PE X (.Call (.Name x p) (e :: es) [] pos) (tGivN X kt SP mk fps fr js t) := by
  refine ⟨fun pins s σ H Q I hq => ?_⟩
  refine wpAny_Call_Name_kw (ld_glob I hg hm ?_ hdb)
  refine PySem.W.callWith_K (h₀ := X.base) I.ok.mod.kin hk (thn (ha.run pos pins s σ H _ I hq) ?_) he hpl
  rintro us s1 ⟨vs, H1, I1, r, f, c, spn, L, q⟩
  have cs := cells_of I1 (cp I1.ok)
  rw [← hcl c] at cs
  exact ⟨I1.kIn, run_giv G hr hb I1 (nok_tells L cs) r q⟩
end
/-- from the lambda's object to the reading of the call that it is handed to -/
theorem lam_given {P : Program} {w : World} {K : PySem.W.Frag} {mg : Str → Option Value} {base : Heap} {kt : Nat} {SP : Addr → Sp → Sp} {f : Addr} {F : NF} {b : Expr} {sp : Sp} {vs : List V} {H : Hp} {Q : VK} (_h : H f = some (LamO f F b)) (L : LOk P w K mg base kt f F b sp)
    (q : SP f (spLam f F b sp) vs H Q E0) : ∃ (f : Addr) (F : NF) (b : Expr) (sp : Sp), LOk P w K mg base kt f F b sp ∧ SP f (spLam f F b sp) vs H Q E0 := ⟨f, F, b, sp, L, q⟩
theorem extN_seq {K : PySem.W.Frag} {H H' : Hp} {a : Addr} {xs : List V} (e : ExtN H H') (h : SqL K H a xs) : SqL K H' a xs := by
  rcases h with (h | ⟨o, h⟩) | h
  · exact .inl (.inl (e _ _ h fun _ z => by cases z))
  · exact .inl (.inr ⟨o, e _ _ h fun _ z => by cases z⟩)
  · exact .inr h
/-- a def that makes functions, with its code object -/
structure MakT (K : PySem.W.Frag) (x : Str) (st : Stmt) (f c t : Addr) : Prop where
  ex : ∃ oc od kV doc pm an ct osl, K.lookup f = some ⟨oc, od, .func (PySem.W.fnOf x x (defArgs st) (defBody st) (defScope st) .none kV doc pm an (.ref c) ct), osl⟩ ∧ PySem.W.codeIn K (.ref c) x = true
  hd : PySem.W.codeHdIn K c t = true
theorem mak_ok {P : Program} {w : World} {K : PySem.W.Frag} {mg : Str → Option Value} {base : Heap} {x : Str} {st : Stmt} {f c tb : Addr} {fd : FuncData} {N ps : List Str} {k : Nat} {sp : Sp} (F : Fun K x x st f fd) (M : MakT K x st f c tb) (S : FnScope N ps (defScope st)) (len : ∀ vs H Q E, sp vs H Q E → vs.length = ps.length)
    (hbody : ∀ (A : Around) (outer : List Env) (s : Shared) (H : Hp) (vs : List V) (Q : VK) (E : XK), Room k (A.deeper (envOfC x (defScope st) s.heap.objs.size f (.ref c))) → sp vs H Q E →
      ∃ t, PSs (cxOf CX0 P w K mg base N x (defScope st) f (.ref c) A outer s H E).nox (defBody st) t ∧ t { nx := fun _ H' => Q .non H', rt := Q } (start N vs) H) : FnOk P w K mg base CX0 (k + 1) f fd ps sp := by
  obtain ⟨oc, od, kV, doc, pm, an, ct, osl, lk, hcd⟩ := M.ex
  obtain ⟨oc', od', kV', doc', pm', an', cdv', ct', osl', rfl, lk', hcd'⟩ := F.ex
  rw [lk'] at lk
  injection lk with lk
  injection lk with e1 e2 e3 e4
  injection e3 with e3
  injection e3 with e3 e5 e6 e7 e8 e9 e10 e11 e12 e13 e14 e15 e16 e17 e18
  subst e16
  refine fn_of lk' hcd' S len fun A outer s H vs Q E hr hsp => ?_
  obtain ⟨t, h1, h2⟩ := hbody A outer s H vs Q E hr hsp
  exact ⟨t, h1.nox, h2⟩
end HC
namespace HC
open PySem PySem.Spec PyProof.Rows L2 LamX
open PySem.W (WData Codec OpenSpec WellAll ReadsW)
/-! ### a Spec row's call where tables of code objects may grow (defs that make functions) -/
theorem SqT_same {K : PySem.W.Frag} {H H' : Hp} {a : Addr} {xs : List V} (e : Same H H') (h : SqT K H a xs) : SqT K H' a xs := by
  rcases h with (h | ⟨o, h⟩) | h
  · exact .inl (.inl (e _ _ h))
  · exact .inl (.inr ⟨o, e _ _ h⟩)
  · exact .inr h
mutual
theorem Dw_same {K : PySem.W.Frag} {H H' : Hp} (e : Same H H') : ∀ {v : V} {x : WData}, Dw K H v x → Dw K H' v x
  | _, _, .non => .non
  | _, _, .bl b => .bl b
  | _, _, .int i => .int i
  | _, _, .str x => .str x
  | _, _, .byt b => .byt b
  | _, _, .lst h t => .lst (e.seq h) (DwAll_same e t)
  | _, _, .tup h t => .tup (SqT_same e h) (DwAll_same e t)
theorem DwAll_same {K : PySem.W.Frag} {H H' : Hp} (e : Same H H') : ∀ {vs : List V} {xs : List WData}, DwAll K H vs xs → DwAll K H' vs xs
  | _, _, .nil => .nil
  | _, _, .cons h t => .cons (Dw_same e h) (DwAll_same e t)
end
/-- an empty table, in the concrete heap -/
abbrev tab0 : Obj := { cls := .none, data := .fields #[] }
/-- the tracked heap at the entry: the arguments, and the tables -/
def withTabs (ts : List Addr) (G : Hp) : Hp := fun b => if b ∈ ts then some (.tbl #[]) else G b
theorem withTabs_in {ts : List Addr} {G : Hp} {b : Addr} (h : b ∈ ts) : withTabs ts G b = some (.tbl #[]) := if_pos h
theorem withTabs_out {ts : List Addr} {G : Hp} {b : Addr} (h : b ∉ ts) : withTabs ts G b = G b := if_neg h
section
variable {P : Program} {w : World} {K : PySem.W.Frag} {mg mb : Str → Option Value} {CX : CXT} {k : Nat} {fa : Addr} {fd : FuncData} {ps : List Str} {sp : Sp} {z : Shared} {us : List Value} {ds : List WData} {R : PySem.W.WRecords} {cl : Str → Option Addr} {d0 : WData} {cs : List (Addr × Addr)}
theorem call_tabs (KX : K.In z.heap) (hm : z.heap.Ns mainGlobals mg) (hbl : z.heap.Ns builtinsNs mb) (hbb : ∀ x : Str, x ≠ "__name__" → mb x = bootBuiltins x) (lim : z.heap.NoLimit) (gen : z.gens = #[])
    (tb : ∀ p ∈ cs, z.heap.get? p.2 = some tab0) (tn : ∀ p ∈ cs, K.lookup p.2 = none) (tc : ∀ p ∈ cs, PySem.W.CodeHd z.heap p.1 p.2)
    (bmn : ∃ (bm : Addr) (ob : Obj), mg "__builtins__" = some (.ref bm) ∧ bm ≠ builtinsNs ∧ z.heap.get? bm = some ob ∧ ob.cls = .type "module" ∧ ob.dict = some builtinsNs ∧ ob.data = .plain)
    (wl : WellAll w.params z.heap us ds) (pl : plWs ds = true) (wt : ∀ x ∈ ds, x.weight ≤ 1048576) (room : Room k callerA)
    (Fn : ∀ base : Heap, K.In base → base.Ns mainGlobals mg → (∀ p ∈ cs, TabB base mg p.1 p.2) → FnOk P w K mg base CX k fa fd ps sp) (bnd : ∀ (s : Shared) (vs : List Value), vs.length = ps.length → BindsTo s fd ⟨vs, []⟩ (ps.zip vs)) (len : ds.length = ps.length)
    (say : ∀ (H : Hp) (xs : List V), (∀ p ∈ cs, H p.2 = some (.tbl #[])) → DwAll K H xs ds → sp xs H (fun v H' => Dw K H' v d0) fun _ _ _ => False)
    (no : ∀ H e s', CX [] H z (fun _ _ _ => False) e s' → False) :
    codeAny (model P w) callerA (.call (.ref fa) ⟨us, []⟩) (fun r s' => ∃ u as, r = .ok (.ret u) ∧ ReadsW R cl s'.heap u d0 as ∧ OldK z.heap s'.heap ∧ s'.os = z.os ∧ AllBare s'.gens) z := by
  obtain ⟨A, okA, ar⟩ := area_all ds us wl pl wt
  have hOF : OnlyF (argH K z.heap A) := argH_only ar
  have hokA : HOk P w (argH K z.heap A) z.heap := argH_ok ar
  have hD := dw_all KX ar ds us wl pl okA
  have hV := vals_toV okA
  have inT : ∀ b, b ∈ cs.map (·.2) → z.heap.get? b = some tab0 ∧ K.lookup b = none := fun b hb => by
    obtain ⟨p, hp, e⟩ := List.mem_map.mp hb
    rw [← e]
    exact ⟨tb p hp, tn p hp⟩
  have mem : ∀ p ∈ cs, p.2 ∈ cs.map (·.2) := fun p hp => List.mem_map.mpr ⟨p, hp, rfl⟩
  have argT : ∀ b u, argH K z.heap A b = some u → b ∉ cs.map (·.2) := fun b u q hb => by
    have e := (inT b hb).1
    obtain ⟨_, vs, _, _, ⟨e2, _⟩ | ⟨e2, _⟩⟩ := argH_is ar q
    · rw [e2] at e
      have y : Data.seq vs.toArray _ = Data.fields #[] := congrArg Obj.data (Option.some.inj e)
      cases y
    · rw [e2] at e
      have y : Data.seq vs.toArray _ = Data.fields #[] := congrArg Obj.data (Option.some.inj e)
      cases y
  have argK : ∀ b u, argH K z.heap A b = some u → K.lookup b = none := fun b u q => (argH_is ar q).1
  have argS : ∀ b u o, argH K z.heap A b = some u → z.heap.get? b = some o → ∃ its n, o.data = .seq its n := fun b u o q e => by
    obtain ⟨_, vs, _, _, ⟨e2, _⟩ | ⟨e2, _⟩⟩ := argH_is ar q <;>
    · rw [e2] at e
      cases e
      exact ⟨_, _, rfl⟩
  generalize argH K z.heap A = G at hOF hokA hD argT argK argS
  have sm : Same G (withTabs (cs.map (·.2)) G) := fun b u q => (withTabs_out (argT b u q)).trans q
  have hok : HOk P w (withTabs (cs.map (·.2)) G) z.heap := fun b u q => by
    by_cases hb : b ∈ cs.map (·.2)
    · rw [withTabs_in hb] at q
      cases q
      exact (inT b hb).1
    · rw [withTabs_out hb] at q
      refine (hokA b u q).stay (fun _ _ _ y => y) (fun y q2 => sm _ _ q2) fun y xs q2 => sm _ _ q2
  have freeD : ∀ {b : Addr} {o : Obj}, z.heap.get? b = some o → (∀ its n, o.data ≠ .seq its n) → o.data ≠ .fields #[] → withTabs (cs.map (·.2)) G b = none := fun {b o} e h1 h2 => by
    by_cases hb : b ∈ cs.map (·.2)
    · rw [(inT b hb).1] at e
      cases e
      exact (h2 rfl).elim
    · rw [withTabs_out hb]
      cases q : G b with
      | none => rfl
      | some u =>
        obtain ⟨its, n, y⟩ := argS b u o q e
        exact (h1 its n y).elim
  have freeK : ∀ b o, K.lookup b = some o → withTabs (cs.map (·.2)) G b = none := fun b o e => by
    by_cases hb : b ∈ cs.map (·.2)
    · rw [(inT b hb).2] at e
      cases e
    · rw [withTabs_out hb]
      cases q : G b with
      | none => rfl
      | some u =>
        rw [argK b u q] at e
        cases e
  have hH : ∀ p ∈ cs, withTabs (cs.map (·.2)) G p.2 = some (.tbl #[]) := fun p hp => withTabs_in (mem p hp)
  have only : ∀ b, b ∉ cs.map (·.2) → withTabs (cs.map (·.2)) G b = none ∨ ∃ o u, withTabs (cs.map (·.2)) G b = some (.frz o u) := fun b hb => by
    rw [withTabs_out hb]
    exact hOF b
  have hD2 := DwAll_same sm hD
  generalize withTabs (cs.map (·.2)) G = H at hok freeD freeK hH only hD2
  have keepB : ∀ {b : Addr} {o : Obj}, z.heap.get? b = some o → H b = none → (hidT z.heap H).get? b = some o := fun e n => hidT_get e n
  have nsB : ∀ {b : Addr} {m : Str → Option Value}, z.heap.Ns b m → (hidT z.heap H).Ns b m := fun {b m} ⟨o, es, ep, e, y, r⟩ =>
    ⟨o, es, ep, keepB e (freeD e (fun its n q => by rw [y] at q; cases q) fun q => by rw [y] at q; cases q), y, r⟩
  have KB : K.In (hidT z.heap H) := fun b o e => keepB (KX b o e) (freeK b o e)
  have md : Mod K mg (hidT z.heap H) := ⟨KB, nsB hm, ⟨mb, nsB hbl, hbb⟩, let ⟨mc, h1, h2⟩ := lim; ⟨mc, nsB h1, h2⟩⟩
  have TB : ∀ p ∈ cs, TabB (hidT z.heap H) mg p.1 p.2 := fun p hp => by
    have hTp := tb p hp
    refine ⟨?_, ?_, fun y => ?_⟩
    · obtain ⟨o, vs, file, tf, fl, tg, inF, text, tt, e1, r1, r2, r3, rest⟩ := tc p hp
      refine ⟨o, vs, file, tf, fl, tg, inF, text, tt, keepB e1 (freeD e1 (fun its n q => ?_) fun q => ?_), r1, r2, r3, rest⟩
      · rw [r2] at q
        cases q
      · rw [r2] at q
        cases q
        simp at r3
    · obtain ⟨bm, ob, b1, b2, b3, b4, b5, b6⟩ := bmn
      have n1 : bm ≠ mainGlobals := fun q => by
        obtain ⟨o, es, ep, e, y, _⟩ := hm
        rw [q, e] at b3
        cases b3
        rw [y] at b6
        cases b6
      have n2 : bm ≠ p.2 := fun q => by
        rw [q, hTp] at b3
        cases b3
        cases b6
      exact ⟨bm, ob, b1, b2, n1, n2, keepB b3 (freeD b3 (fun its n q => by rw [b6] at q; cases q) fun q => by rw [b6] at q; cases q), b4, b5, b6⟩
    · obtain ⟨o, es, ep, e, hd, _⟩ := hm
      rw [y, hTp] at e
      cases e
      cases hd
  have e0 : Env0 P w K mg (hidT z.heap H) callerA [] z H := ⟨rfl, md, fun b o e => of_hidT e, Nat.le_of_eq (hidT_size _ _), trivial, fun b hb => absurd (show b ∈ ([] : List Addr) from hb) (by simp), hok, .of_eq gen⟩
  have hl : us.length = ps.length := by rw [wellAll_len wl]; exact len
  refine codeAny_mono ((Fn _ KB (nsB hm) TB).run callerA [] z H ⟨us, []⟩ us (us.map toV) _ _ room e0 (bnd z us hl) hV (say H _ hH hD2)) fun r s' y => ?_
  cases r with
  | error e => exact (no H e s' y).elim
  | ok fl =>
    cases fl with
    | next => exact False.elim y
    | brk => exact False.elim y
    | cont => exact False.elim y
    | ret u =>
      obtain ⟨v, H', os, bare, un, hok', rv, q⟩ := y
      have kept : ∀ b o, b ∉ cs.map (·.2) → z.heap.get? b = some o → s'.heap.get? b = some o := fun b o nb e => by
        rcases only b nb with n | ⟨ob, u3, n⟩
        · exact un.keep b o e n (by intro y; exact absurd (show b ∈ ([] : List Addr) from y) (by simp)) (by simp)
        · obtain ⟨e1, _⟩ := hok b _ n
          obtain ⟨e2, _⟩ := hok' b _ (un.frzs b ob _ n)
          rw [e] at e1
          cases e1
          exact e2
      have grown : ∀ p ∈ cs, ∃ more : Array Value, s'.heap.get? p.2 = some { cls := .none, data := .fields more } := fun p hp => by
        obtain ⟨more, y⟩ := un.tbls p.2 #[] (hH p hp)
        exact ⟨_, hok' p.2 _ y⟩
      have KX' : K.In s'.heap := fun b o e => kept b o (fun hb => by rw [(inT b hb).2] at e; cases e) (KX b o e)
      obtain ⟨as, rd⟩ := Dw.reads (R := R) (cl := cl) hok' KX' d0 v u q rv
      refine ⟨u, as, rfl, rd, ⟨fun b o e => ?_, fun b o e => ?_⟩, os, bare⟩
      · by_cases hb : b ∈ cs.map (·.2)
        · obtain ⟨p, hp, ep⟩ := List.mem_map.mp hb
          obtain ⟨more, hmo⟩ := grown p hp
          rw [← ep] at e ⊢
          rw [tb p hp] at e
          cases e
          exact .inr (.inl ⟨((tc p hp).tab (tb p hp)).isCodeTable, rfl, #[], more, rfl, by rw [Array.empty_append]; exact hmo⟩)
        · exact .inl (kept b o hb e)
      · by_cases hb : b ∈ cs.map (·.2)
        · obtain ⟨p, hp, ep⟩ := List.mem_map.mp hb
          obtain ⟨more, hmo⟩ := grown p hp
          rw [← ep]
          exact ⟨_, hmo⟩
        · exact ⟨o, kept b o hb e⟩
end
/-- the walk of a Spec row whose written part and tables come with the facts -/
theorem walk_tabs {r : OpenSpec} {k : Nat} {q : Program} {loose : List Str} {XP : (Str → Option Value) → Heap → Prop} {YP : World → Heap → Prop} {dr : DefRec} {CX : CXT} {ps : List Str} {sp : PySem.W.Frag → List (Addr × Addr) → Sp}
    (room : Room k callerA) (well : r.wellSaid = true) (len : r.args.length = ps.length)
    (Fk : ∀ (w : World) (mg : Str → Option Value) (fa : Addr) (h : Heap), YP w h → h.Ns mainGlobals mg → mg dr.name = some (.ref fa) → ∃ (K : PySem.W.Frag) (cs : List (Addr × Addr)), K.In h ∧
      (∀ p ∈ cs, h.get? p.2 = some tab0) ∧ (∀ p ∈ cs, K.lookup p.2 = none) ∧ (∀ p ∈ cs, PySem.W.CodeHd h p.1 p.2) ∧
      ∃ fd : FuncData, (∀ (s : Shared) (us : List Value), us.length = ps.length → BindsTo s fd ⟨us, []⟩ (ps.zip us)) ∧
        ∀ base : Heap, K.In base → base.Ns mainGlobals mg → (∀ p ∈ cs, TabB base mg p.1 p.2) → FnOk r.prog w K mg base CX k fa fd ps (sp K cs))
    (say : ∀ (K : PySem.W.Frag) (cs : List (Addr × Addr)) (H : Hp) (xs : List V) (a : Codec.denoteAll r.args), (∀ p ∈ cs, H p.2 = some (.tbl #[])) → Codec.withinAll r.args a = true → DwAll K H xs (Codec.encAll r.args a) →
      sp K cs xs H (fun v H' => Dw K H' v (r.ret.enc (Codec.app r.args r.f a))) fun _ _ _ => False)
    (no : ∀ (H : Hp) (s : Shared) (e : Value) (s' : Shared), CX [] H s (fun _ _ _ => False) e s' → False) :
    PySem.W.WalkOS q loose XP YP r dr [] (fun f vs => PySem.call f vs) := by
  intro wd sa sb mg mb Gr Yh fa ob pm cd dc dv kv h1 h2 h3 h4 hmg hgn args vals as hpre hlay hrd hwl hlo
  obtain ⟨a, e1, e2⟩ := PySem.W.os_pre_some hpre
  obtain ⟨e3, hwi⟩ := Codec.encAll_of_decAll r.args args a e1
  subst e3
  obtain ⟨K, cs, KX, tb, tn, tc, fd, hbd, hFn⟩ := Fk wd mg fa _ Yh Gr.T.g hmg
  refine PySem.W.enter_call (codeAny_mono (call_tabs (R := []) (cl := classAt sa.heap) (d0 := r.ret.enc (Codec.app r.args r.f a)) KX Gr.T.g Gr.T.b Gr.T.builtins Gr.T.nolimit hgn tb tn tc Gr.T.bmain hwl (pl_encAll _ _) (layable_weight hlay) room hFn hbd
    (by rw [encAll_len]; exact len) (fun H xs hH hS => say K cs H xs a hH hwi hS) fun H e s' => no H sb e s') fun rr s' hq => ?_)
  obtain ⟨u, as', rfl, i1, i2, i3, i4⟩ := hq
  exact ⟨.inl ⟨u, _, as', rfl, fun _ => rfl, i1, (PySem.W.OpenSpec.post_iff well hwi _ _).mpr rfl, fun y => Bool.noConfusion (show false = true from y)⟩, i2, i3, i4⟩
end HC
namespace HC
open PySem PySem.Spec PyProof.Rows L2
def top (i : Nat) : Stmt := PySem.Challenge.pw_heraldcoats_s05_words.main.body.getD i (.Pass ⟨0, 0, 0, 0⟩)
abbrev s_Plain_init : Stmt := inClass (top 12) 0
abbrev s_Parted_init : Stmt := inClass (top 13) 0
abbrev s_Varied_init : Stmt := inClass (top 14) 0
abbrev s_Ordinary_init : Stmt := inClass (top 15) 0
abbrev s_Group_init : Stmt := inClass (top 16) 0
abbrev s_Arms_init : Stmt := inClass (top 17) 0
abbrev s_Mark_init : Stmt := inClass (top 18) 0
abbrev s_Marked_init : Stmt := inClass (top 19) 0
abbrev s_Quarterly_init : Stmt := inClass (top 20) 0
abbrev s_Impaled_init : Stmt := inClass (top 21) 0
abbrev s_Pretence_init : Stmt := inClass (top 22) 0
abbrev s_Reader_init : Stmt := inClass (top 32) 0
abbrev s_Reader_take : Stmt := inClass (top 32) 1
abbrev s_Reader_take_tincture_beside : Stmt := inClass (top 32) 2
abbrev s_Reader_at_end : Stmt := inClass (top 32) 3
abbrev s_Misplaced_init : Stmt := inClass (top 31) 0
abbrev s_take_field : Stmt := top 33
abbrev s_take_parted : Stmt := top 34
abbrev s_take_varied : Stmt := top 35
abbrev s_take_fill : Stmt := top 36
abbrev s_take_layer : Stmt := top 37
abbrev s_take_arms : Stmt := top 38
abbrev s_take_marks : Stmt := top 39
abbrev s_take_marked : Stmt := top 40
abbrev s_take_coat : Stmt := top 41
abbrev s_take_quarterly : Stmt := top 42
abbrev s_decode : Stmt := top 43
abbrev s_coats_in : Stmt := top 45
abbrev s_article_before : Stmt := top 58
abbrev s_several : Stmt := top 59
abbrev s_joined : Stmt := top 61
abbrev s_field_words : Stmt := top 62
abbrev s_fill_words : Stmt := top 63
abbrev s_charges_words : Stmt := top 64
abbrev s_layer_words : Stmt := top 65
abbrev s_arms_words : Stmt := top 66
abbrev s_marked_words : Stmt := top 67
abbrev s_kind_word : Stmt := top 68
abbrev s_coat_words : Stmt := top 69
abbrev s_answered : Stmt := top 71
abbrev s_counted : Stmt := top 72
abbrev s_words : Stmt := top 73
def wTINCTURES : List Str := ["or", "argent", "gules", "azure", "sable", "vert", "purpure", "ermine", "vair"]
def wLINES : List Str := ["", "wavy", "embattled", "indented", "engrailed", "invected"]
def wPARTED_WAYS : List Str := ["per pale", "per fess", "per bend", "per bend sinister", "per chevron", "per saltire", "quarterly", "gyronny"]
def wVARIED_WAYS : List Str := ["barry", "paly", "bendy", "bendy sinister", "chevronny", "chequy", "lozengy"]
def wORDINARIES : List Str := ["chief", "base", "pale", "fess", "bend", "bend sinister", "chevron", "cross", "saltire", "pile", "bordure", "canton", "quarter"]
def wCHARGES : List Str := ["roundel", "annulet", "lozenge", "mascle", "fusil", "billet", "mullet", "crescent", "increscent", "crosslet", "saltorel", "escutcheon", "tower", "sword", "wheel", "arrow"]
def wMANNERS : List Str := ["", "in fess", "in pale", "in bend", "in bend sinister", "in chief", "in base"]
def wSIZES : List Str := ["small", "lesser", "", "great"]
def wCOUNTS : List Str := ["two", "three", "four", "five", "six", "seven", "eight", "nine", "ten"]
/-- where the top has laid what the walk asks for -/
structure Ad where
  cPlain : Addr
  mPlain_init : Addr
  cParted : Addr
  mParted_init : Addr
  cVaried : Addr
  mVaried_init : Addr
  cOrdinary : Addr
  mOrdinary_init : Addr
  cGroup : Addr
  mGroup_init : Addr
  cArms : Addr
  mArms_init : Addr
  cMark : Addr
  mMark_init : Addr
  cMarked : Addr
  mMarked_init : Addr
  cQuarterly : Addr
  mQuarterly_init : Addr
  cImpaled : Addr
  mImpaled_init : Addr
  cPretence : Addr
  mPretence_init : Addr
  cReader : Addr
  mReader_init : Addr
  mReader_take : Addr
  mReader_take_tincture_beside : Addr
  mReader_at_end : Addr
  xMisplaced : Addr
  xiMisplaced : Addr
  f_take_field : Addr
  f_take_parted : Addr
  f_take_varied : Addr
  f_take_fill : Addr
  f_take_layer : Addr
  f_take_arms : Addr
  f_take_marks : Addr
  f_take_marked : Addr
  f_take_coat : Addr
  f_take_quarterly : Addr
  f_decode : Addr
  f_coats_in : Addr
  f_article_before : Addr
  f_several : Addr
  f_joined : Addr
  f_field_words : Addr
  f_fill_words : Addr
  f_charges_words : Addr
  f_layer_words : Addr
  f_arms_words : Addr
  f_marked_words : Addr
  f_kind_word : Addr
  f_coat_words : Addr
  f_answered : Addr
  f_counted : Addr
  f_words : Addr
  c_words : Addr
  t_words : Addr
/-- what the top has written -/
structure Txt (K : PySem.W.Frag) (mg : Str → Option Value) (d : Ad) : Prop where
  kPlain : ClsT K mg "Plain" "Plain.__init__" d.cPlain d.mPlain_init ["tincture"] s_Plain_init ["self", "tincture"]
  kParted : ClsT K mg "Parted" "Parted.__init__" d.cParted d.mParted_init ["way", "line", "first", "second"] s_Parted_init ["self", "way", "line", "first", "second"]
  kVaried : ClsT K mg "Varied" "Varied.__init__" d.cVaried d.mVaried_init ["way", "pieces", "line", "first", "second"] s_Varied_init ["self", "way", "pieces", "line", "first", "second"]
  kOrdinary : ClsT K mg "Ordinary" "Ordinary.__init__" d.cOrdinary d.mOrdinary_init ["figure", "line", "fill"] s_Ordinary_init ["self", "figure", "line", "fill"]
  kGroup : ClsT K mg "Group" "Group.__init__" d.cGroup d.mGroup_init ["charge", "many", "manner", "size", "fill"] s_Group_init ["self", "charge", "many", "manner", "size", "fill"]
  kArms : ClsT K mg "Arms" "Arms.__init__" d.cArms d.mArms_init ["field", "layers"] s_Arms_init ["self", "field", "layers"]
  kMark : ClsT K mg "Mark" "Mark.__init__" d.cMark d.mMark_init ["g", "k"] s_Mark_init ["self", "g", "k"]
  kMarked : ClsT K mg "Marked" "Marked.__init__" d.cMarked d.mMarked_init ["arms", "canton", "marks"] s_Marked_init ["self", "arms", "canton", "marks"]
  kQuarterly : ClsT K mg "Quarterly" "Quarterly.__init__" d.cQuarterly d.mQuarterly_init ["coats"] s_Quarterly_init ["self", "coats"]
  kImpaled : ClsT K mg "Impaled" "Impaled.__init__" d.cImpaled d.mImpaled_init ["dexter", "sinister"] s_Impaled_init ["self", "dexter", "sinister"]
  kPretence : ClsT K mg "Pretence" "Pretence.__init__" d.cPretence d.mPretence_init ["below", "upon"] s_Pretence_init ["self", "below", "upon"]
  kReader : ClsT K mg "Reader" "Reader.__init__" d.cReader d.mReader_init ["numbers", "place"] s_Reader_init ["self", "numbers"]
  kReader_take : MetT K d.cReader "take" "Reader.take" s_Reader_take d.mReader_take ["self", "least", "most"]
  kReader_take_tincture_beside : MetT K d.cReader "take_tincture_beside" "Reader.take_tincture_beside" s_Reader_take_tincture_beside d.mReader_take_tincture_beside ["self", "other"]
  kReader_at_end : MetT K d.cReader "at_end" "Reader.at_end" s_Reader_at_end d.mReader_at_end ["self"]
  xMisplaced : PySem.LowX.LowTxt K mg d.xMisplaced d.xiMisplaced
  k_take_field : DefT K mg "take_field" s_take_field d.f_take_field ["reader"]
  k_take_parted : DefT K mg "take_parted" s_take_parted d.f_take_parted ["reader"]
  k_take_varied : DefT K mg "take_varied" s_take_varied d.f_take_varied ["reader"]
  k_take_fill : DefT K mg "take_fill" s_take_fill d.f_take_fill ["reader", "field"]
  k_take_layer : DefT K mg "take_layer" s_take_layer d.f_take_layer ["reader", "field"]
  k_take_arms : DefT K mg "take_arms" s_take_arms d.f_take_arms ["reader"]
  k_take_marks : DefT K mg "take_marks" s_take_marks d.f_take_marks ["reader"]
  k_take_marked : DefT K mg "take_marked" s_take_marked d.f_take_marked ["reader"]
  k_take_coat : DefT K mg "take_coat" s_take_coat d.f_take_coat ["reader", "depth"]
  k_take_quarterly : DefT K mg "take_quarterly" s_take_quarterly d.f_take_quarterly ["reader", "depth"]
  k_decode : DefT K mg "decode" s_decode d.f_decode ["numbers"]
  k_coats_in : DefT K mg "coats_in" s_coats_in d.f_coats_in ["coat"]
  k_article_before : DefT K mg "article_before" s_article_before d.f_article_before ["word"]
  k_several : DefT K mg "several" s_several d.f_several ["charge"]
  k_joined : DefT K mg "joined" s_joined d.f_joined ["phrases"]
  k_field_words : DefT K mg "field_words" s_field_words d.f_field_words ["field"]
  k_fill_words : DefT K mg "fill_words" s_fill_words d.f_fill_words ["fill"]
  k_charges_words : DefT K mg "charges_words" s_charges_words d.f_charges_words ["group"]
  k_layer_words : DefT K mg "layer_words" s_layer_words d.f_layer_words ["layer"]
  k_arms_words : DefT K mg "arms_words" s_arms_words d.f_arms_words ["arms"]
  k_marked_words : DefT K mg "marked_words" s_marked_words d.f_marked_words ["marked"]
  k_kind_word : DefT K mg "kind_word" s_kind_word d.f_kind_word ["coat"]
  k_coat_words : DefT K mg "coat_words" s_coat_words d.f_coat_words ["coat"]
  k_answered : DefT K mg "answered" s_answered d.f_answered ["c", "tell"]
  k_counted : DefT K mg "counted" s_counted d.f_counted ["numbers"]
  k_words : DefT K mg "words" s_words d.f_words ["c"]
  m_words : MakT K "words" s_words d.f_words d.c_words d.t_words
  nFEWEST_PIECES : ∃ t, mg "FEWEST_PIECES" = some (.int 2 t)
  nMOST_PIECES : ∃ t, mg "MOST_PIECES" = some (.int 24 t)
  nFIRST_STRAIGHT_WAY : ∃ t, mg "FIRST_STRAIGHT_WAY" = some (.int 5 t)
  nMOST_LAYERS : ∃ t, mg "MOST_LAYERS" = some (.int 8 t)
  nMOST_MARKS : ∃ t, mg "MOST_MARKS" = some (.int 60 t)
  nMOST_G : ∃ t, mg "MOST_G" = some (.int 127 t)
  nLEAST_K : ∃ t, mg "LEAST_K" = some (.int 1 t)
  nMOST_K : ∃ t, mg "MOST_K" = some (.int 255 t)
  nFEWEST_QUARTERS : ∃ t, mg "FEWEST_QUARTERS" = some (.int 2 t)
  nMOST_QUARTERS : ∃ t, mg "MOST_QUARTERS" = some (.int 9 t)
  nMOST_DEEP : ∃ t, mg "MOST_DEEP" = some (.int 4 t)
  nLAST_TINCTURE : ∃ t, mg "LAST_TINCTURE" = some (.int 8 t)
  nLAST_LINE : ∃ t, mg "LAST_LINE" = some (.int 5 t)
  nLAST_PARTED_WAY : ∃ t, mg "LAST_PARTED_WAY" = some (.int 7 t)
  nLAST_VARIED_WAY : ∃ t, mg "LAST_VARIED_WAY" = some (.int 6 t)
  nLAST_ORDINARY : ∃ t, mg "LAST_ORDINARY" = some (.int 12 t)
  nLAST_CHARGE : ∃ t, mg "LAST_CHARGE" = some (.int 15 t)
  nLAST_MANNER : ∃ t, mg "LAST_MANNER" = some (.int 6 t)
  nFIRST_SIZE : ∃ t, mg "FIRST_SIZE" = some (.int 1 t)
  nFIRST_COUNT : ∃ t, mg "FIRST_COUNT" = some (.int 2 t)
  tTINCTURES : ∃ a, mg "TINCTURES" = some (.ref a) ∧ TupK K a (wTINCTURES.map V.str)
  tLINES : ∃ a, mg "LINES" = some (.ref a) ∧ TupK K a (wLINES.map V.str)
  tPARTED_WAYS : ∃ a, mg "PARTED_WAYS" = some (.ref a) ∧ TupK K a (wPARTED_WAYS.map V.str)
  tVARIED_WAYS : ∃ a, mg "VARIED_WAYS" = some (.ref a) ∧ TupK K a (wVARIED_WAYS.map V.str)
  tORDINARIES : ∃ a, mg "ORDINARIES" = some (.ref a) ∧ TupK K a (wORDINARIES.map V.str)
  tCHARGES : ∃ a, mg "CHARGES" = some (.ref a) ∧ TupK K a (wCHARGES.map V.str)
  tMANNERS : ∃ a, mg "MANNERS" = some (.ref a) ∧ TupK K a (wMANNERS.map V.str)
  tSIZES : ∃ a, mg "SIZES" = some (.ref a) ∧ TupK K a (wSIZES.map V.str)
  tCOUNTS : ∃ a, mg "COUNTS" = some (.ref a) ∧ TupK K a (wCOUNTS.map V.str)
  b_len : mg "len" = none
  b_range : mg "range" = none
  b_isinstance : mg "isinstance" = none
  b_list : mg "list" = none
  b_ord : mg "ord" = none
  b_str : mg "str" = none
  gs : PySem.W.specialIn K (.builtin "object.__class__") "__get__" = some (some (.builtin "getset_descriptor.__get__"))
  tk : PySem.W.takesIn K (.builtin "object.__class__") = some true
  iMarked_Impaled : PySem.W.kitOne K (.ref d.cMarked) (.ref d.cImpaled) = some false
  iQuarterly_Impaled : PySem.W.kitOne K (.ref d.cQuarterly) (.ref d.cImpaled) = some false
  iImpaled_Impaled : PySem.W.kitOne K (.ref d.cImpaled) (.ref d.cImpaled) = some true
  iPretence_Impaled : PySem.W.kitOne K (.ref d.cPretence) (.ref d.cImpaled) = some false
  iMarked_Marked : PySem.W.kitOne K (.ref d.cMarked) (.ref d.cMarked) = some true
  iQuarterly_Marked : PySem.W.kitOne K (.ref d.cQuarterly) (.ref d.cMarked) = some false
  iImpaled_Marked : PySem.W.kitOne K (.ref d.cImpaled) (.ref d.cMarked) = some false
  iPretence_Marked : PySem.W.kitOne K (.ref d.cPretence) (.ref d.cMarked) = some false
  iOrdinary_Ordinary : PySem.W.kitOne K (.ref d.cOrdinary) (.ref d.cOrdinary) = some true
  iGroup_Ordinary : PySem.W.kitOne K (.ref d.cGroup) (.ref d.cOrdinary) = some false
  iParted_Parted : PySem.W.kitOne K (.ref d.cParted) (.ref d.cParted) = some true
  iVaried_Parted : PySem.W.kitOne K (.ref d.cVaried) (.ref d.cParted) = some false
  iPlain_Plain : PySem.W.kitOne K (.ref d.cPlain) (.ref d.cPlain) = some true
  iParted_Plain : PySem.W.kitOne K (.ref d.cParted) (.ref d.cPlain) = some false
  iVaried_Plain : PySem.W.kitOne K (.ref d.cVaried) (.ref d.cPlain) = some false
  iMarked_Quarterly : PySem.W.kitOne K (.ref d.cMarked) (.ref d.cQuarterly) = some false
  iQuarterly_Quarterly : PySem.W.kitOne K (.ref d.cQuarterly) (.ref d.cQuarterly) = some true
  iImpaled_Quarterly : PySem.W.kitOne K (.ref d.cImpaled) (.ref d.cQuarterly) = some false
  iPretence_Quarterly : PySem.W.kitOne K (.ref d.cPretence) (.ref d.cQuarterly) = some false
end HC
namespace HC
open PySem PySem.Spec PyProof.Rows L2
section
variable {P : Program} {w : World} {K : PySem.W.Frag} {mg : Str → Option Value} {base : Heap} {d : Ad}
theorem sc_Plain_init : FnScope ["self", "tincture"] ["self", "tincture"] (defScope s_Plain_init) := ⟨rfl, rfl, rfl, by decide +kernel, rfl, by decide +kernel, by decide +kernel⟩
theorem ok_Plain_init (T : Txt K mg d) : OkD P w K mg base CX0 1 d.mPlain_init ["self", "tincture"] (spInit d.cPlain ["tincture"]) := by
  obtain ⟨fd, F, B⟩ := T.kPlain.ini
  refine ⟨⟨fd, F.ok sc_Plain_init (fun vs H Q E h => ?_) (fun cdv A outer s H vs Q E hr h => ?_), B⟩, F.kp⟩
  · obtain ⟨p, dx, as, rfl, hl, _⟩ := h
    rw [List.length_cons, hl]
    rfl
  · obtain ⟨p, dx, as, rfl, hl, hp, k⟩ := h
    match as, hl, k with
    | [a0], _, k =>
    refine ⟨_, pss_one (ps_fld (pv 0) (pv 1) rfl), ?_⟩
    refine ⟨_, rfl, _, rfl, p, d.cPlain, dx, _, rfl, hp, T.kPlain.cl, T.kPlain.no.1, (by decide), ?_⟩
    have e1 : putF "tincture" a0 [] = (["tincture"] : List Str).zip [a0] := rfl
    exact k _ (fun b hb => by rw [upd_ne hb]) (by rw [upd_same, e1])
theorem sc_Parted_init : FnScope ["self", "way", "line", "first", "second"] ["self", "way", "line", "first", "second"] (defScope s_Parted_init) := ⟨rfl, rfl, rfl, by decide +kernel, rfl, by decide +kernel, by decide +kernel⟩
theorem ok_Parted_init (T : Txt K mg d) : OkD P w K mg base CX0 1 d.mParted_init ["self", "way", "line", "first", "second"] (spInit d.cParted ["way", "line", "first", "second"]) := by
  obtain ⟨fd, F, B⟩ := T.kParted.ini
  refine ⟨⟨fd, F.ok sc_Parted_init (fun vs H Q E h => ?_) (fun cdv A outer s H vs Q E hr h => ?_), B⟩, F.kp⟩
  · obtain ⟨p, dx, as, rfl, hl, _⟩ := h
    rw [List.length_cons, hl]
    rfl
  · obtain ⟨p, dx, as, rfl, hl, hp, k⟩ := h
    match as, hl, k with
    | [a0, a1, a2, a3], _, k =>
    refine ⟨_, pss_cons (ps_fld (pv 0) (pv 1) rfl) (pss_cons (ps_fld (pv 0) (pv 2) rfl) (pss_cons (ps_fld (pv 0) (pv 3) rfl) (pss_one (ps_fld (pv 0) (pv 4) rfl)))), ?_⟩
    refine ⟨_, rfl, _, rfl, p, d.cParted, dx, _, rfl, hp, T.kParted.cl, T.kParted.no.1, (by decide), ?_⟩
    have e1 : putF "way" a0 [] = (["way"] : List Str).zip [a0] := rfl
    refine ⟨_, rfl, _, rfl, p, d.cParted, dx, _, rfl, upd_same, T.kParted.cl, T.kParted.no.2.1, (by rw [e1]; show 1 < 1000; decide), ?_⟩
    have e2 : putF "line" a1 (putF "way" a0 []) = (["way", "line"] : List Str).zip [a0, a1] := by
      rw [e1, put_new _ _ _ _ rfl (by decide +kernel)]
      rfl
    refine ⟨_, rfl, _, rfl, p, d.cParted, dx, _, rfl, upd_same, T.kParted.cl, T.kParted.no.2.2.1, (by rw [e2]; show 2 < 1000; decide), ?_⟩
    have e3 : putF "first" a2 (putF "line" a1 (putF "way" a0 [])) = (["way", "line", "first"] : List Str).zip [a0, a1, a2] := by
      rw [e2, put_new _ _ _ _ rfl (by decide +kernel)]
      rfl
    refine ⟨_, rfl, _, rfl, p, d.cParted, dx, _, rfl, upd_same, T.kParted.cl, T.kParted.no.2.2.2.1, (by rw [e3]; show 3 < 1000; decide), ?_⟩
    have e4 : putF "second" a3 (putF "first" a2 (putF "line" a1 (putF "way" a0 []))) = (["way", "line", "first", "second"] : List Str).zip [a0, a1, a2, a3] := by
      rw [e3, put_new _ _ _ _ rfl (by decide +kernel)]
      rfl
    exact k _ (fun b hb => by rw [upd_ne hb, upd_ne hb, upd_ne hb, upd_ne hb]) (by rw [upd_same, e4])
theorem sc_Varied_init : FnScope ["self", "way", "pieces", "line", "first", "second"] ["self", "way", "pieces", "line", "first", "second"] (defScope s_Varied_init) := ⟨rfl, rfl, rfl, by decide +kernel, rfl, by decide +kernel, by decide +kernel⟩
theorem ok_Varied_init (T : Txt K mg d) : OkD P w K mg base CX0 1 d.mVaried_init ["self", "way", "pieces", "line", "first", "second"] (spInit d.cVaried ["way", "pieces", "line", "first", "second"]) := by
  obtain ⟨fd, F, B⟩ := T.kVaried.ini
  refine ⟨⟨fd, F.ok sc_Varied_init (fun vs H Q E h => ?_) (fun cdv A outer s H vs Q E hr h => ?_), B⟩, F.kp⟩
  · obtain ⟨p, dx, as, rfl, hl, _⟩ := h
    rw [List.length_cons, hl]
    rfl
  · obtain ⟨p, dx, as, rfl, hl, hp, k⟩ := h
    match as, hl, k with
    | [a0, a1, a2, a3, a4], _, k =>
    refine ⟨_, pss_cons (ps_fld (pv 0) (pv 1) rfl) (pss_cons (ps_fld (pv 0) (pv 2) rfl) (pss_cons (ps_fld (pv 0) (pv 3) rfl) (pss_cons (ps_fld (pv 0) (pv 4) rfl) (pss_one (ps_fld (pv 0) (pv 5) rfl))))), ?_⟩
    refine ⟨_, rfl, _, rfl, p, d.cVaried, dx, _, rfl, hp, T.kVaried.cl, T.kVaried.no.1, (by decide), ?_⟩
    have e1 : putF "way" a0 [] = (["way"] : List Str).zip [a0] := rfl
    refine ⟨_, rfl, _, rfl, p, d.cVaried, dx, _, rfl, upd_same, T.kVaried.cl, T.kVaried.no.2.1, (by rw [e1]; show 1 < 1000; decide), ?_⟩
    have e2 : putF "pieces" a1 (putF "way" a0 []) = (["way", "pieces"] : List Str).zip [a0, a1] := by
      rw [e1, put_new _ _ _ _ rfl (by decide +kernel)]
      rfl
    refine ⟨_, rfl, _, rfl, p, d.cVaried, dx, _, rfl, upd_same, T.kVaried.cl, T.kVaried.no.2.2.1, (by rw [e2]; show 2 < 1000; decide), ?_⟩
    have e3 : putF "line" a2 (putF "pieces" a1 (putF "way" a0 [])) = (["way", "pieces", "line"] : List Str).zip [a0, a1, a2] := by
      rw [e2, put_new _ _ _ _ rfl (by decide +kernel)]
      rfl
    refine ⟨_, rfl, _, rfl, p, d.cVaried, dx, _, rfl, upd_same, T.kVaried.cl, T.kVaried.no.2.2.2.1, (by rw [e3]; show 3 < 1000; decide), ?_⟩
    have e4 : putF "first" a3 (putF "line" a2 (putF "pieces" a1 (putF "way" a0 []))) = (["way", "pieces", "line", "first"] : List Str).zip [a0, a1, a2, a3] := by
      rw [e3, put_new _ _ _ _ rfl (by decide +kernel)]
      rfl
    refine ⟨_, rfl, _, rfl, p, d.cVaried, dx, _, rfl, upd_same, T.kVaried.cl, T.kVaried.no.2.2.2.2.1, (by rw [e4]; show 4 < 1000; decide), ?_⟩
    have e5 : putF "second" a4 (putF "first" a3 (putF "line" a2 (putF "pieces" a1 (putF "way" a0 [])))) = (["way", "pieces", "line", "first", "second"] : List Str).zip [a0, a1, a2, a3, a4] := by
      rw [e4, put_new _ _ _ _ rfl (by decide +kernel)]
      rfl
    exact k _ (fun b hb => by rw [upd_ne hb, upd_ne hb, upd_ne hb, upd_ne hb, upd_ne hb]) (by rw [upd_same, e5])
theorem sc_Ordinary_init : FnScope ["self", "figure", "line", "fill"] ["self", "figure", "line", "fill"] (defScope s_Ordinary_init) := ⟨rfl, rfl, rfl, by decide +kernel, rfl, by decide +kernel, by decide +kernel⟩
theorem ok_Ordinary_init (T : Txt K mg d) : OkD P w K mg base CX0 1 d.mOrdinary_init ["self", "figure", "line", "fill"] (spInit d.cOrdinary ["figure", "line", "fill"]) := by
  obtain ⟨fd, F, B⟩ := T.kOrdinary.ini
  refine ⟨⟨fd, F.ok sc_Ordinary_init (fun vs H Q E h => ?_) (fun cdv A outer s H vs Q E hr h => ?_), B⟩, F.kp⟩
  · obtain ⟨p, dx, as, rfl, hl, _⟩ := h
    rw [List.length_cons, hl]
    rfl
  · obtain ⟨p, dx, as, rfl, hl, hp, k⟩ := h
    match as, hl, k with
    | [a0, a1, a2], _, k =>
    refine ⟨_, pss_cons (ps_fld (pv 0) (pv 1) rfl) (pss_cons (ps_fld (pv 0) (pv 2) rfl) (pss_one (ps_fld (pv 0) (pv 3) rfl))), ?_⟩
    refine ⟨_, rfl, _, rfl, p, d.cOrdinary, dx, _, rfl, hp, T.kOrdinary.cl, T.kOrdinary.no.1, (by decide), ?_⟩
    have e1 : putF "figure" a0 [] = (["figure"] : List Str).zip [a0] := rfl
    refine ⟨_, rfl, _, rfl, p, d.cOrdinary, dx, _, rfl, upd_same, T.kOrdinary.cl, T.kOrdinary.no.2.1, (by rw [e1]; show 1 < 1000; decide), ?_⟩
    have e2 : putF "line" a1 (putF "figure" a0 []) = (["figure", "line"] : List Str).zip [a0, a1] := by
      rw [e1, put_new _ _ _ _ rfl (by decide +kernel)]
      rfl
    refine ⟨_, rfl, _, rfl, p, d.cOrdinary, dx, _, rfl, upd_same, T.kOrdinary.cl, T.kOrdinary.no.2.2.1, (by rw [e2]; show 2 < 1000; decide), ?_⟩
    have e3 : putF "fill" a2 (putF "line" a1 (putF "figure" a0 [])) = (["figure", "line", "fill"] : List Str).zip [a0, a1, a2] := by
      rw [e2, put_new _ _ _ _ rfl (by decide +kernel)]
      rfl
    exact k _ (fun b hb => by rw [upd_ne hb, upd_ne hb, upd_ne hb]) (by rw [upd_same, e3])
theorem sc_Group_init : FnScope ["self", "charge", "many", "manner", "size", "fill"] ["self", "charge", "many", "manner", "size", "fill"] (defScope s_Group_init) := ⟨rfl, rfl, rfl, by decide +kernel, rfl, by decide +kernel, by decide +kernel⟩
theorem ok_Group_init (T : Txt K mg d) : OkD P w K mg base CX0 1 d.mGroup_init ["self", "charge", "many", "manner", "size", "fill"] (spInit d.cGroup ["charge", "many", "manner", "size", "fill"]) := by
  obtain ⟨fd, F, B⟩ := T.kGroup.ini
  refine ⟨⟨fd, F.ok sc_Group_init (fun vs H Q E h => ?_) (fun cdv A outer s H vs Q E hr h => ?_), B⟩, F.kp⟩
  · obtain ⟨p, dx, as, rfl, hl, _⟩ := h
    rw [List.length_cons, hl]
    rfl
  · obtain ⟨p, dx, as, rfl, hl, hp, k⟩ := h
    match as, hl, k with
    | [a0, a1, a2, a3, a4], _, k =>
    refine ⟨_, pss_cons (ps_fld (pv 0) (pv 1) rfl) (pss_cons (ps_fld (pv 0) (pv 2) rfl) (pss_cons (ps_fld (pv 0) (pv 3) rfl) (pss_cons (ps_fld (pv 0) (pv 4) rfl) (pss_one (ps_fld (pv 0) (pv 5) rfl))))), ?_⟩
    refine ⟨_, rfl, _, rfl, p, d.cGroup, dx, _, rfl, hp, T.kGroup.cl, T.kGroup.no.1, (by decide), ?_⟩
    have e1 : putF "charge" a0 [] = (["charge"] : List Str).zip [a0] := rfl
    refine ⟨_, rfl, _, rfl, p, d.cGroup, dx, _, rfl, upd_same, T.kGroup.cl, T.kGroup.no.2.1, (by rw [e1]; show 1 < 1000; decide), ?_⟩
    have e2 : putF "many" a1 (putF "charge" a0 []) = (["charge", "many"] : List Str).zip [a0, a1] := by
      rw [e1, put_new _ _ _ _ rfl (by decide +kernel)]
      rfl
    refine ⟨_, rfl, _, rfl, p, d.cGroup, dx, _, rfl, upd_same, T.kGroup.cl, T.kGroup.no.2.2.1, (by rw [e2]; show 2 < 1000; decide), ?_⟩
    have e3 : putF "manner" a2 (putF "many" a1 (putF "charge" a0 [])) = (["charge", "many", "manner"] : List Str).zip [a0, a1, a2] := by
      rw [e2, put_new _ _ _ _ rfl (by decide +kernel)]
      rfl
    refine ⟨_, rfl, _, rfl, p, d.cGroup, dx, _, rfl, upd_same, T.kGroup.cl, T.kGroup.no.2.2.2.1, (by rw [e3]; show 3 < 1000; decide), ?_⟩
    have e4 : putF "size" a3 (putF "manner" a2 (putF "many" a1 (putF "charge" a0 []))) = (["charge", "many", "manner", "size"] : List Str).zip [a0, a1, a2, a3] := by
      rw [e3, put_new _ _ _ _ rfl (by decide +kernel)]
      rfl
    refine ⟨_, rfl, _, rfl, p, d.cGroup, dx, _, rfl, upd_same, T.kGroup.cl, T.kGroup.no.2.2.2.2.1, (by rw [e4]; show 4 < 1000; decide), ?_⟩
    have e5 : putF "fill" a4 (putF "size" a3 (putF "manner" a2 (putF "many" a1 (putF "charge" a0 [])))) = (["charge", "many", "manner", "size", "fill"] : List Str).zip [a0, a1, a2, a3, a4] := by
      rw [e4, put_new _ _ _ _ rfl (by decide +kernel)]
      rfl
    exact k _ (fun b hb => by rw [upd_ne hb, upd_ne hb, upd_ne hb, upd_ne hb, upd_ne hb]) (by rw [upd_same, e5])
theorem sc_Arms_init : FnScope ["self", "field", "layers"] ["self", "field", "layers"] (defScope s_Arms_init) := ⟨rfl, rfl, rfl, by decide +kernel, rfl, by decide +kernel, by decide +kernel⟩
theorem ok_Arms_init (T : Txt K mg d) : OkD P w K mg base CX0 1 d.mArms_init ["self", "field", "layers"] (spInit d.cArms ["field", "layers"]) := by
  obtain ⟨fd, F, B⟩ := T.kArms.ini
  refine ⟨⟨fd, F.ok sc_Arms_init (fun vs H Q E h => ?_) (fun cdv A outer s H vs Q E hr h => ?_), B⟩, F.kp⟩
  · obtain ⟨p, dx, as, rfl, hl, _⟩ := h
    rw [List.length_cons, hl]
    rfl
  · obtain ⟨p, dx, as, rfl, hl, hp, k⟩ := h
    match as, hl, k with
    | [a0, a1], _, k =>
    refine ⟨_, pss_cons (ps_fld (pv 0) (pv 1) rfl) (pss_one (ps_fld (pv 0) (pv 2) rfl)), ?_⟩
    refine ⟨_, rfl, _, rfl, p, d.cArms, dx, _, rfl, hp, T.kArms.cl, T.kArms.no.1, (by decide), ?_⟩
    have e1 : putF "field" a0 [] = (["field"] : List Str).zip [a0] := rfl
    refine ⟨_, rfl, _, rfl, p, d.cArms, dx, _, rfl, upd_same, T.kArms.cl, T.kArms.no.2.1, (by rw [e1]; show 1 < 1000; decide), ?_⟩
    have e2 : putF "layers" a1 (putF "field" a0 []) = (["field", "layers"] : List Str).zip [a0, a1] := by
      rw [e1, put_new _ _ _ _ rfl (by decide +kernel)]
      rfl
    exact k _ (fun b hb => by rw [upd_ne hb, upd_ne hb]) (by rw [upd_same, e2])
theorem sc_Mark_init : FnScope ["self", "g", "k"] ["self", "g", "k"] (defScope s_Mark_init) := ⟨rfl, rfl, rfl, by decide +kernel, rfl, by decide +kernel, by decide +kernel⟩
theorem ok_Mark_init (T : Txt K mg d) : OkD P w K mg base CX0 1 d.mMark_init ["self", "g", "k"] (spInit d.cMark ["g", "k"]) := by
  obtain ⟨fd, F, B⟩ := T.kMark.ini
  refine ⟨⟨fd, F.ok sc_Mark_init (fun vs H Q E h => ?_) (fun cdv A outer s H vs Q E hr h => ?_), B⟩, F.kp⟩
  · obtain ⟨p, dx, as, rfl, hl, _⟩ := h
    rw [List.length_cons, hl]
    rfl
  · obtain ⟨p, dx, as, rfl, hl, hp, k⟩ := h
    match as, hl, k with
    | [a0, a1], _, k =>
    refine ⟨_, pss_cons (ps_fld (pv 0) (pv 1) rfl) (pss_one (ps_fld (pv 0) (pv 2) rfl)), ?_⟩
    refine ⟨_, rfl, _, rfl, p, d.cMark, dx, _, rfl, hp, T.kMark.cl, T.kMark.no.1, (by decide), ?_⟩
    have e1 : putF "g" a0 [] = (["g"] : List Str).zip [a0] := rfl
    refine ⟨_, rfl, _, rfl, p, d.cMark, dx, _, rfl, upd_same, T.kMark.cl, T.kMark.no.2.1, (by rw [e1]; show 1 < 1000; decide), ?_⟩
    have e2 : putF "k" a1 (putF "g" a0 []) = (["g", "k"] : List Str).zip [a0, a1] := by
      rw [e1, put_new _ _ _ _ rfl (by decide +kernel)]
      rfl
    exact k _ (fun b hb => by rw [upd_ne hb, upd_ne hb]) (by rw [upd_same, e2])
theorem sc_Marked_init : FnScope ["self", "arms", "canton", "marks"] ["self", "arms", "canton", "marks"] (defScope s_Marked_init) := ⟨rfl, rfl, rfl, by decide +kernel, rfl, by decide +kernel, by decide +kernel⟩
theorem ok_Marked_init (T : Txt K mg d) : OkD P w K mg base CX0 1 d.mMarked_init ["self", "arms", "canton", "marks"] (spInit d.cMarked ["arms", "canton", "marks"]) := by
  obtain ⟨fd, F, B⟩ := T.kMarked.ini
  refine ⟨⟨fd, F.ok sc_Marked_init (fun vs H Q E h => ?_) (fun cdv A outer s H vs Q E hr h => ?_), B⟩, F.kp⟩
  · obtain ⟨p, dx, as, rfl, hl, _⟩ := h
    rw [List.length_cons, hl]
    rfl
  · obtain ⟨p, dx, as, rfl, hl, hp, k⟩ := h
    match as, hl, k with
    | [a0, a1, a2], _, k =>
    refine ⟨_, pss_cons (ps_fld (pv 0) (pv 1) rfl) (pss_cons (ps_fld (pv 0) (pv 2) rfl) (pss_one (ps_fld (pv 0) (pv 3) rfl))), ?_⟩
    refine ⟨_, rfl, _, rfl, p, d.cMarked, dx, _, rfl, hp, T.kMarked.cl, T.kMarked.no.1, (by decide), ?_⟩
    have e1 : putF "arms" a0 [] = (["arms"] : List Str).zip [a0] := rfl
    refine ⟨_, rfl, _, rfl, p, d.cMarked, dx, _, rfl, upd_same, T.kMarked.cl, T.kMarked.no.2.1, (by rw [e1]; show 1 < 1000; decide), ?_⟩
    have e2 : putF "canton" a1 (putF "arms" a0 []) = (["arms", "canton"] : List Str).zip [a0, a1] := by
      rw [e1, put_new _ _ _ _ rfl (by decide +kernel)]
      rfl
    refine ⟨_, rfl, _, rfl, p, d.cMarked, dx, _, rfl, upd_same, T.kMarked.cl, T.kMarked.no.2.2.1, (by rw [e2]; show 2 < 1000; decide), ?_⟩
    have e3 : putF "marks" a2 (putF "canton" a1 (putF "arms" a0 [])) = (["arms", "canton", "marks"] : List Str).zip [a0, a1, a2] := by
      rw [e2, put_new _ _ _ _ rfl (by decide +kernel)]
      rfl
    exact k _ (fun b hb => by rw [upd_ne hb, upd_ne hb, upd_ne hb]) (by rw [upd_same, e3])
theorem sc_Quarterly_init : FnScope ["self", "coats"] ["self", "coats"] (defScope s_Quarterly_init) := ⟨rfl, rfl, rfl, by decide +kernel, rfl, by decide +kernel, by decide +kernel⟩
theorem ok_Quarterly_init (T : Txt K mg d) : OkD P w K mg base CX0 1 d.mQuarterly_init ["self", "coats"] (spInit d.cQuarterly ["coats"]) := by
  obtain ⟨fd, F, B⟩ := T.kQuarterly.ini
  refine ⟨⟨fd, F.ok sc_Quarterly_init (fun vs H Q E h => ?_) (fun cdv A outer s H vs Q E hr h => ?_), B⟩, F.kp⟩
  · obtain ⟨p, dx, as, rfl, hl, _⟩ := h
    rw [List.length_cons, hl]
    rfl
  · obtain ⟨p, dx, as, rfl, hl, hp, k⟩ := h
    match as, hl, k with
    | [a0], _, k =>
    refine ⟨_, pss_one (ps_fld (pv 0) (pv 1) rfl), ?_⟩
    refine ⟨_, rfl, _, rfl, p, d.cQuarterly, dx, _, rfl, hp, T.kQuarterly.cl, T.kQuarterly.no.1, (by decide), ?_⟩
    have e1 : putF "coats" a0 [] = (["coats"] : List Str).zip [a0] := rfl
    exact k _ (fun b hb => by rw [upd_ne hb]) (by rw [upd_same, e1])
theorem sc_Impaled_init : FnScope ["self", "dexter", "sinister"] ["self", "dexter", "sinister"] (defScope s_Impaled_init) := ⟨rfl, rfl, rfl, by decide +kernel, rfl, by decide +kernel, by decide +kernel⟩
theorem ok_Impaled_init (T : Txt K mg d) : OkD P w K mg base CX0 1 d.mImpaled_init ["self", "dexter", "sinister"] (spInit d.cImpaled ["dexter", "sinister"]) := by
  obtain ⟨fd, F, B⟩ := T.kImpaled.ini
  refine ⟨⟨fd, F.ok sc_Impaled_init (fun vs H Q E h => ?_) (fun cdv A outer s H vs Q E hr h => ?_), B⟩, F.kp⟩
  · obtain ⟨p, dx, as, rfl, hl, _⟩ := h
    rw [List.length_cons, hl]
    rfl
  · obtain ⟨p, dx, as, rfl, hl, hp, k⟩ := h
    match as, hl, k with
    | [a0, a1], _, k =>
    refine ⟨_, pss_cons (ps_fld (pv 0) (pv 1) rfl) (pss_one (ps_fld (pv 0) (pv 2) rfl)), ?_⟩
    refine ⟨_, rfl, _, rfl, p, d.cImpaled, dx, _, rfl, hp, T.kImpaled.cl, T.kImpaled.no.1, (by decide), ?_⟩
    have e1 : putF "dexter" a0 [] = (["dexter"] : List Str).zip [a0] := rfl
    refine ⟨_, rfl, _, rfl, p, d.cImpaled, dx, _, rfl, upd_same, T.kImpaled.cl, T.kImpaled.no.2.1, (by rw [e1]; show 1 < 1000; decide), ?_⟩
    have e2 : putF "sinister" a1 (putF "dexter" a0 []) = (["dexter", "sinister"] : List Str).zip [a0, a1] := by
      rw [e1, put_new _ _ _ _ rfl (by decide +kernel)]
      rfl
    exact k _ (fun b hb => by rw [upd_ne hb, upd_ne hb]) (by rw [upd_same, e2])
theorem sc_Pretence_init : FnScope ["self", "below", "upon"] ["self", "below", "upon"] (defScope s_Pretence_init) := ⟨rfl, rfl, rfl, by decide +kernel, rfl, by decide +kernel, by decide +kernel⟩
theorem ok_Pretence_init (T : Txt K mg d) : OkD P w K mg base CX0 1 d.mPretence_init ["self", "below", "upon"] (spInit d.cPretence ["below", "upon"]) := by
  obtain ⟨fd, F, B⟩ := T.kPretence.ini
  refine ⟨⟨fd, F.ok sc_Pretence_init (fun vs H Q E h => ?_) (fun cdv A outer s H vs Q E hr h => ?_), B⟩, F.kp⟩
  · obtain ⟨p, dx, as, rfl, hl, _⟩ := h
    rw [List.length_cons, hl]
    rfl
  · obtain ⟨p, dx, as, rfl, hl, hp, k⟩ := h
    match as, hl, k with
    | [a0, a1], _, k =>
    refine ⟨_, pss_cons (ps_fld (pv 0) (pv 1) rfl) (pss_one (ps_fld (pv 0) (pv 2) rfl)), ?_⟩
    refine ⟨_, rfl, _, rfl, p, d.cPretence, dx, _, rfl, hp, T.kPretence.cl, T.kPretence.no.1, (by decide), ?_⟩
    have e1 : putF "below" a0 [] = (["below"] : List Str).zip [a0] := rfl
    refine ⟨_, rfl, _, rfl, p, d.cPretence, dx, _, rfl, upd_same, T.kPretence.cl, T.kPretence.no.2.1, (by rw [e1]; show 1 < 1000; decide), ?_⟩
    have e2 : putF "upon" a1 (putF "below" a0 []) = (["below", "upon"] : List Str).zip [a0, a1] := by
      rw [e1, put_new _ _ _ _ rfl (by decide +kernel)]
      rfl
    exact k _ (fun b hb => by rw [upd_ne hb, upd_ne hb]) (by rw [upd_same, e2])
end
end HC
namespace HC
open PySem PySem.Spec PyProof.Rows L2
/-! ### how what is read stands in the heap. H0: the heap ahead; all of it is new there -/
/-- objects that are new behind H0 stay -/
structure Mv (H0 H H0' H' : Hp) : Prop where
  nw : ∀ b, H0 b = none → H0' b = none
  st : ∀ b o, H0 b = none → H b = some o → H' b = some o
inductive All2 {α : Type} (R : V → α → Prop) : List V → List α → Prop where
  | nil : All2 R [] []
  | cons {v : V} {x : α} {vs : List V} {xs : List α} (h : R v x) (t : All2 R vs xs) : All2 R (v :: vs) (x :: xs)
theorem All2.snoc {α : Type} {R : V → α → Prop} {v : V} {x : α} {vs : List V} {xs : List α} (t : All2 R vs xs) (h : R v x) : All2 R (vs ++ [v]) (xs ++ [x]) := by
  induction t with
  | nil => exact .cons h .nil
  | cons h' _ ih => exact .cons h' ih
theorem All2.mono {α : Type} {R R' : V → α → Prop} {vs : List V} {xs : List α} (t : All2 R vs xs) (f : ∀ v x, R v x → R' v x) : All2 R' vs xs := by
  induction t with
  | nil => exact .nil
  | cons h' _ ih => exact .cons (f _ _ h') ih
theorem All2.length {α : Type} {R : V → α → Prop} {vs : List V} {xs : List α} (t : All2 R vs xs) : vs.length = xs.length := by
  induction t with
  | nil => rfl
  | cons _ _ ih => rw [List.length_cons, List.length_cons, ih]
/-- an object of the class C with these attributes -/
def Obj1 (C : Addr) (ns : List Str) (as : List V) (H0 H : Hp) (v : V) : Prop := ∃ b dx, v = .ref b ∧ H0 b = none ∧ H b = some (.ins C dx (ns.zip as))
theorem Obj1.mv {C : Addr} {ns : List Str} {as : List V} {H0 H H0' H' : Hp} {v : V} (h : Obj1 C ns as H0 H v) (m : Mv H0 H H0' H') : Obj1 C ns as H0' H' v := by
  obtain ⟨b, dx, e, n, o⟩ := h
  exact ⟨b, dx, e, m.nw b n, m.st b _ n o⟩
/-- a list of these values -/
def Lst1 (vs : List V) (H0 H : Hp) (l : Addr) : Prop := H0 l = none ∧ H l = some (.lst vs)
theorem Lst1.mv {vs : List V} {H0 H H0' H' : Hp} {l : Addr} (h : Lst1 vs H0 H l) (m : Mv H0 H H0' H') : Lst1 vs H0' H' l := ⟨m.nw l h.1, m.st l _ h.1 h.2⟩
abbrev vN (n : Nat) : V := .int (n : Int)
def RNat (_ _ : Hp) (v : V) (n : Nat) : Prop := v = vN n
def RField (d : Ad) (H0 H : Hp) (v : V) : Sh.Field → Prop
  | .plain t => Obj1 d.cPlain ["tincture"] [vN t] H0 H v
  | .parted w l a b => Obj1 d.cParted ["way", "line", "first", "second"] [vN w, vN l, vN a, vN b] H0 H v
  | .varied w n l a b => Obj1 d.cVaried ["way", "pieces", "line", "first", "second"] [vN w, vN n, vN l, vN a, vN b] H0 H v
theorem RField.mv {d : Ad} {H0 H H0' H' : Hp} {v : V} {f : Sh.Field} (h : RField d H0 H v f) (m : Mv H0 H H0' H') : RField d H0' H' v f := by
  cases f <;> exact Obj1.mv h m
/-- a field is an object: objects that stay keep it -/
theorem RField.ins {d : Ad} {H0 H H' : Hp} {v : V} {f : Sh.Field} (h : RField d H0 H v f) (k : ∀ b C dx fs, H0 b = none → H b = some (.ins C dx fs) → H' b = some (.ins C dx fs)) : RField d H0 H' v f := by
  cases f <;> exact let ⟨b, dx, e, n, o⟩ := h; ⟨b, dx, e, n, k b _ _ _ n o⟩
def RFill (d : Ad) (H0 H : Hp) (v : V) : Sh.Fill → Prop
  | .solid f => RField d H0 H v f
  | .counter => v = .non
theorem RFill.mv {d : Ad} {H0 H H0' H' : Hp} {v : V} {f : Sh.Fill} (h : RFill d H0 H v f) (m : Mv H0 H H0' H') : RFill d H0' H' v f := by
  cases f with
  | solid f => exact RField.mv h m
  | counter => exact h
def RLayer (d : Ad) (H0 H : Hp) (v : V) : Sh.Layer → Prop
  | .ord o l f => ∃ u, Obj1 d.cOrdinary ["figure", "line", "fill"] [vN o, vN l, u] H0 H v ∧ RFill d H0 H u f
  | .group c n m s f => ∃ u, Obj1 d.cGroup ["charge", "many", "manner", "size", "fill"] [vN c, vN n, vN m, vN s, u] H0 H v ∧ RFill d H0 H u f
theorem RLayer.mv {d : Ad} {H0 H H0' H' : Hp} {v : V} {f : Sh.Layer} (h : RLayer d H0 H v f) (m : Mv H0 H H0' H') : RLayer d H0' H' v f := by
  cases f <;> exact let ⟨u, h1, h2⟩ := h; ⟨u, h1.mv m, h2.mv m⟩
def RArms (d : Ad) (H0 H : Hp) (v : V) (a : Sh.Arms) : Prop := ∃ u l us, Obj1 d.cArms ["field", "layers"] [u, .ref l] H0 H v ∧ RField d H0 H u a.field ∧ Lst1 us H0 H l ∧ All2 (RLayer d H0 H) us a.layers
theorem RArms.mv {d : Ad} {H0 H H0' H' : Hp} {v : V} {a : Sh.Arms} (h : RArms d H0 H v a) (m : Mv H0 H H0' H') : RArms d H0' H' v a := by
  obtain ⟨u, l, us, h1, h2, h3, h4⟩ := h
  exact ⟨u, l, us, h1.mv m, h2.mv m, h3.mv m, h4.mono fun _ _ z => z.mv m⟩
def ROpt (d : Ad) (H0 H : Hp) (v : V) : Option Sh.Arms → Prop
  | none => v = .non
  | some a => RArms d H0 H v a
theorem ROpt.mv {d : Ad} {H0 H H0' H' : Hp} {v : V} {a : Option Sh.Arms} (h : ROpt d H0 H v a) (m : Mv H0 H H0' H') : ROpt d H0' H' v a := by
  cases a with
  | none => exact h
  | some a => exact RArms.mv h m
def RMark (d : Ad) (H0 H : Hp) (v : V) (x : Nat × Nat) : Prop := Obj1 d.cMark ["g", "k"] [vN x.1, vN x.2] H0 H v
theorem RMark.mv {d : Ad} {H0 H H0' H' : Hp} {v : V} {x : Nat × Nat} (h : RMark d H0 H v x) (m : Mv H0 H H0' H') : RMark d H0' H' v x := Obj1.mv h m
/-- a list of things -/
def RList {α : Type} (R : Hp → Hp → V → α → Prop) (H0 H : Hp) (v : V) (xs : List α) : Prop := ∃ l us, v = .ref l ∧ Lst1 us H0 H l ∧ All2 (R H0 H) us xs
def RMarks (d : Ad) : Hp → Hp → V → List (Nat × Nat) → Prop := RList (RMark d)
theorem RMarks.mv {d : Ad} {H0 H H0' H' : Hp} {v : V} {x : List (Nat × Nat)} (h : RMarks d H0 H v x) (m : Mv H0 H H0' H') : RMarks d H0' H' v x := by
  obtain ⟨l, us, e, h1, h2⟩ := h
  exact ⟨l, us, e, h1.mv m, h2.mono fun _ _ z => z.mv m⟩
def RMarked (d : Ad) (H0 H : Hp) (v : V) (x : ShMarsh.Marked) : Prop := ∃ u c k, Obj1 d.cMarked ["arms", "canton", "marks"] [u, c, k] H0 H v ∧ RArms d H0 H u x.arms ∧ ROpt d H0 H c x.canton ∧ RMarks d H0 H k x.marks
theorem RMarked.mv {d : Ad} {H0 H H0' H' : Hp} {v : V} {x : ShMarsh.Marked} (h : RMarked d H0 H v x) (m : Mv H0 H H0' H') : RMarked d H0' H' v x := by
  obtain ⟨u, c, k, h1, h2, h3, h4⟩ := h
  exact ⟨u, c, k, h1.mv m, h2.mv m, h3.mv m, h4.mv m⟩
mutual
def RCoat (d : Ad) (H0 H : Hp) : ShMarsh.Coat → V → Prop
  | .one x, v => RMarked d H0 H v x
  | .quarters l, v => ∃ p us, Obj1 d.cQuarterly ["coats"] [.ref p] H0 H v ∧ Lst1 us H0 H p ∧ RCoats d H0 H l us
  | .impaled x y, v => ∃ a b, Obj1 d.cImpaled ["dexter", "sinister"] [a, b] H0 H v ∧ RCoat d H0 H x a ∧ RCoat d H0 H y b
  | .pretence x y, v => ∃ a b, Obj1 d.cPretence ["below", "upon"] [a, b] H0 H v ∧ RCoat d H0 H x a ∧ RCoat d H0 H y b
def RCoats (d : Ad) (H0 H : Hp) : List ShMarsh.Coat → List V → Prop
  | [], us => us = []
  | x :: l, us => ∃ u r, us = u :: r ∧ RCoat d H0 H x u ∧ RCoats d H0 H l r
end
mutual
theorem RCoat.mv {d : Ad} {H0 H H0' H' : Hp} (m : Mv H0 H H0' H') : ∀ (c : ShMarsh.Coat) (v : V), RCoat d H0 H c v → RCoat d H0' H' c v
  | .one x, v, h => RMarked.mv h m
  | .quarters l, v, h => by
    obtain ⟨p, us, h1, h2, h3⟩ := h
    exact ⟨p, us, h1.mv m, h2.mv m, RCoats.mv m l us h3⟩
  | .impaled x y, v, h => by
    obtain ⟨a, b, h1, h2, h3⟩ := h
    exact ⟨a, b, h1.mv m, RCoat.mv m x a h2, RCoat.mv m y b h3⟩
  | .pretence x y, v, h => by
    obtain ⟨a, b, h1, h2, h3⟩ := h
    exact ⟨a, b, h1.mv m, RCoat.mv m x a h2, RCoat.mv m y b h3⟩
theorem RCoats.mv {d : Ad} {H0 H H0' H' : Hp} (m : Mv H0 H H0' H') : ∀ (l : List ShMarsh.Coat) (us : List V), RCoats d H0 H l us → RCoats d H0' H' l us
  | [], us, h => h
  | x :: l, us, h => by
    obtain ⟨u, r, e, h1, h2⟩ := h
    exact ⟨u, r, e, RCoat.mv m x u h1, RCoats.mv m l r h2⟩
end
/-- a coat's standing, the value first -/
def RC (d : Ad) (H0 H : Hp) (v : V) (c : ShMarsh.Coat) : Prop := RCoat d H0 H c v
theorem RC.mv {d : Ad} {H0 H H0' H' : Hp} {v : V} {c : ShMarsh.Coat} (h : RC d H0 H v c) (m : Mv H0 H H0' H') : RC d H0' H' v c := RCoat.mv m c v h
theorem rcoats_of {d : Ad} {H0 H : Hp} {us : List V} {l : List ShMarsh.Coat} (h : All2 (RC d H0 H) us l) : RCoats d H0 H l us := by
  induction h with
  | nil => rfl
  | cons h _ ih => exact ⟨_, _, rfl, h, ih⟩
/-! ### the reader -/
def vals (bs : List UInt8) : List V := bs.map fun b => V.int (b.toNat : Int)
abbrev rdr (d : Ad) (x a : Addr) (p : Nat) : HO := .ins d.cReader x ((["numbers", "place"] : List Str).zip [.ref a, vN p])
/-- the reader at R, at the place p of the bytes bs -/
structure At (K : PySem.W.Frag) (d : Ad) (bs : List UInt8) (a R x : Addr) (H : Hp) (p : Nat) : Prop where
  hR : H R = some (rdr d x a p)
  sq : SqL K H a (vals bs)
  le : p ≤ bs.length
theorem At.step {K : PySem.W.Frag} {d : Ad} {bs : List UInt8} {a R x : Addr} {H H' : Hp} {p q : Nat} (A : At K d bs a R x H p) (k : Keep R H H') (h : H' R = some (rdr d x a q)) (l : q ≤ bs.length) : At K d bs a R x H' q := by
  refine ⟨h, ?_, l⟩
  rcases A.sq with (z | ⟨o, z⟩) | z
  · exact .inl (.inl (k _ _ (ne_of z A.hR (by intro q; cases q)) z))
  · exact .inl (.inr ⟨o, k _ _ (ne_of z A.hR (by intro q; cases q)) z⟩)
  · exact .inr z
/-- an error with its place -/
def Err (d : Ad) (E : XK) (e : Nat) : Prop := ∀ (x : Addr) (H' : Hp), H' x = some (.xd [(("place" : Str), vN e)]) → E (.ref d.xMisplaced) (some x) H'
/-- what a def that takes bytes gives back -/
def Give {α : Type} (d : Ad) (bs : List UInt8) (a R x : Addr) (Rep : Hp → Hp → V → α → Prop) (H : Hp) (Q : VK) (E : XK) : Except Nat (α × Nat × Sh.Bytes) → Prop
  | .error e => Err d E e
  | .ok y => ∀ v H', Keep R H H' → H' R = some (rdr d x a y.2.1) → y.2.1 ≤ bs.length → y.2.2 = bs.drop y.2.1 → Rep H H' v y.1 → Q v H'
/-- a def that is handed the reader, and these values behind it -/
def spRd {α : Type} (K : PySem.W.Frag) (d : Ad) (pre : Hp → List V → (Nat → Sh.Bytes → Except Nat (α × Nat × Sh.Bytes)) → Prop) (Rep : Hp → Hp → V → α → Prop) : Sp := fun vs H Q E =>
  ∃ (R : Addr) (us : List V) (bs : List UInt8) (a x : Addr) (p : Nat) (par : Nat → Sh.Bytes → Except Nat (α × Nat × Sh.Bytes)),
    vs = .ref R :: us ∧ At K d bs a R x H p ∧ pre H us par ∧ Give d bs a R x Rep H Q E (par p (bs.drop p))
theorem Keep.mv {R : Addr} {H H1 H' : Hp} {o : HO} (k : Keep R H H1) (hR : H1 R = some o) : Mv H1 H' H H' := ⟨fun _ h => k.free hR h, fun _ _ _ h => h⟩
theorem Mv.same {H0 H H0' H' H2 : Hp} (m : Mv H0 H H0' H') (s : Same H' H2) : Mv H0 H H0' H2 := ⟨m.nw, fun b o n h => s b o (m.st b o n h)⟩
theorem Mv.here {H0 H H' : Hp} (s : Same H H') : Mv H0 H H0 H' := ⟨fun _ h => h, fun b o _ h => s b o h⟩
/-- further on -/
theorem Give.up {α : Type} {d : Ad} {bs : List UInt8} {a R x : Addr} {Rep : Hp → Hp → V → α → Prop} {H H1 : Hp} {Q : VK} {E : XK} {r : Except Nat (α × Nat × Sh.Bytes)} {o : HO} (k : Keep R H H1) (hR : H1 R = some o)
    (mv : ∀ (H0 H0' H' : Hp) (v : V) (y : α), Mv H0 H' H0' H' → Rep H0 H' v y → Rep H0' H' v y) (g : Give d bs a R x Rep H Q E r) : Give d bs a R x Rep H1 Q E r := by
  cases r with
  | error e => exact g
  | ok y => exact fun v H' k1 h1 l1 g1 t1 => g v H' (k.trans k1) h1 l1 g1 (mv _ _ _ _ _ (k.mv hR) t1)
theorem obj_ne {d : Ad} {H : Hp} {R b x a C dx : Addr} {p : Nat} {ns : List Str} {as : List V} (h : H b = some (.ins C dx (ns.zip as))) (hl : as.length = ns.length) (hn : ns.length ≠ 2) (hR : H R = some (rdr d x a p)) : b ≠ R := by
  refine ne_of h hR fun z => hn ?_
  injection z with _ _ z
  have := congrArg List.length z
  rw [List.length_zip, hl, Nat.min_self] at this
  exact this
/-- a field is no reader: it stays -/
theorem RField.stay {d : Ad} {H0 H H' : Hp} {R x a : Addr} {p : Nat} {v : V} {f : Sh.Field} (h : RField d H0 H v f) (hR : H R = some (rdr d x a p)) (k : Keep R H H') : RField d H0 H' v f := by
  cases f with
  | plain t =>
    obtain ⟨b, dx, e, n, o⟩ := h
    exact ⟨b, dx, e, n, k b _ (obj_ne o rfl (by decide) hR) o⟩
  | parted w l a' c =>
    obtain ⟨b, dx, e, n, o⟩ := h
    exact ⟨b, dx, e, n, k b _ (obj_ne o rfl (by decide) hR) o⟩
  | varied w n' l a' c =>
    obtain ⟨b, dx, e, n, o⟩ := h
    exact ⟨b, dx, e, n, k b _ (obj_ne o rfl (by decide) hR) o⟩
end HC
namespace HC
open PySem PySem.Spec PyProof.Rows L2
section
variable {P : Program} {w : World} {K : PySem.W.Frag} {mg : Str → Option Value} {base : Heap} {d : Ad}
theorem vals_len (bs : List UInt8) : (vals bs).length = bs.length := List.length_map _
theorem lk_num {a : Addr} {p : Nat} : ((["numbers", "place"] : List Str).zip [V.ref a, vN p]).lookup ("numbers" : Str) = some (V.ref a) := look_at _ _ _ 0 rfl (by decide +kernel)
theorem lk_pla {a : Addr} {p : Nat} : ((["numbers", "place"] : List Str).zip [V.ref a, vN p]).lookup ("place" : Str) = some (vN p) := look_at _ _ _ 1 rfl (by decide +kernel)
theorem lk_take {a : Addr} {p : Nat} : ((["numbers", "place"] : List Str).zip [V.ref a, vN p]).lookup ("take" : Str) = none := look_no _ _ _ (by decide +kernel)
theorem lk_bes {a : Addr} {p : Nat} : ((["numbers", "place"] : List Str).zip [V.ref a, vN p]).lookup ("take_tincture_beside" : Str) = none := look_no _ _ _ (by decide +kernel)
theorem lk_end {a : Addr} {p : Nat} : ((["numbers", "place"] : List Str).zip [V.ref a, vN p]).lookup ("at_end" : Str) = none := look_no _ _ _ (by decide +kernel)
/-! ### Reader.__init__, at_end -/
def spReader (d : Ad) : Sp := fun vs H Q _ => ∃ (p x a : Addr), vs = [.ref p, .ref a] ∧ H p = some (.ins d.cReader x []) ∧ ∀ H', (∀ b, b ≠ p → H' b = H b) → H' p = some (rdr d x a 0) → Q .non H'
theorem sc_Reader_init : FnScope ["self", "numbers"] ["self", "numbers"] (defScope s_Reader_init) := ⟨rfl, rfl, rfl, by decide +kernel, rfl, by decide +kernel, by decide +kernel⟩
theorem ok_Reader_init (T : Txt K mg d) : OkD P w K mg base CX0 1 d.mReader_init ["self", "numbers"] (spReader d) := by
  obtain ⟨fd, F, B⟩ := T.kReader.ini
  refine ⟨⟨fd, F.ok sc_Reader_init (fun vs H Q E h => ?_) (fun cdv A outer s H vs Q E hr h => ?_), B⟩, F.kp⟩
  · obtain ⟨p, x, a, rfl, _⟩ := h
    rfl
  · obtain ⟨p, x, a, rfl, hp, k⟩ := h
    refine ⟨_, pss_cons (ps_fld (pv 0) (pv 1) rfl) (pss_one (ps_fld (pv 0) pe_int rfl)), ?_⟩
    refine ⟨_, rfl, _, rfl, p, d.cReader, x, _, rfl, hp, T.kReader.cl, T.kReader.no.1, (by decide), ?_⟩
    have e1 : putF "numbers" (.ref a) [] = (["numbers"] : List Str).zip [.ref a] := rfl
    refine ⟨_, rfl, p, d.cReader, x, _, rfl, upd_same, T.kReader.cl, T.kReader.no.2.1, (by rw [e1]; show 1 < 1000; decide), ?_⟩
    have e2 : putF "place" (.int 0) (putF "numbers" (.ref a) []) = (["numbers", "place"] : List Str).zip [.ref a, vN 0] := by
      rw [e1, put_new _ _ _ _ rfl (by decide +kernel)]
      rfl
    exact k _ (fun b hb => by rw [upd_ne hb, upd_ne hb]) (by rw [upd_same, e2])
def spEnd (K : PySem.W.Frag) (d : Ad) : Sp := fun vs H Q _ => ∃ (R : Addr) (bs : List UInt8) (a x : Addr) (p : Nat), vs = [.ref R] ∧ At K d bs a R x H p ∧ Q (.bl (decide (p = bs.length))) H
theorem sc_Reader_at_end : FnScope ["self"] ["self"] (defScope s_Reader_at_end) := ⟨rfl, rfl, rfl, by decide +kernel, rfl, by decide +kernel, by decide +kernel⟩
theorem ok_Reader_at_end (T : Txt K mg d) : OkD P w K mg base CX0 1 d.mReader_at_end ["self"] (spEnd K d) := by
  obtain ⟨fd, F, B⟩ := T.kReader_at_end.ex
  refine ⟨⟨fd, F.ok sc_Reader_at_end (fun vs H Q E h => ?_) (fun cdv A outer s H vs Q E hr h => ?_), B⟩, F.kp⟩
  · obtain ⟨R, bs, a, x, p, rfl, _⟩ := h
    rfl
  · obtain ⟨R, bs, a, x, p, rfl, A1, k⟩ := h
    refine ⟨_, pss_one (ps_ret (pe_cmpR op_eq (pe_fld (pv 0) rfl) (pe_callB call_len_seq (by rfl) T.b_len PySem.boot_len (pa_cons (pe_fld (pv 0) rfl) pa_nil)) (nomark _))), ?_⟩
    refine ⟨_, rfl, R, d.cReader, x, _, _, rfl, A1.hR, T.kReader.cl, T.kReader.no.2.1, lk_pla, ?_⟩
    refine ⟨_, rfl, R, d.cReader, x, _, _, rfl, A1.hR, T.kReader.cl, T.kReader.no.1, lk_num, a, vals bs, rfl, .inl A1.sq, rfl, ?_⟩
    have e : decide (vN p = V.int ((vals bs).length : Int)) = decide (p = bs.length) := by
      rw [vals_len, dec_int, Bool.eq_iff_iff]
      simp
      omega
    rw [e]
    exact k
/-! ### take -/
def preTake (_ : Hp) (us : List V) (par : Nat → Sh.Bytes → Except Nat (Nat × Nat × Sh.Bytes)) : Prop := ∃ lo hi : Nat, us = [vN lo, vN hi] ∧ par = Sh.numAt lo hi Sh.ANY
abbrev spTake (K : PySem.W.Frag) (d : Ad) : Sp := spRd K d preTake RNat
theorem num_end {lo hi x p : Nat} {bs : List UInt8} (h : p = bs.length) : Sh.numAt lo hi x p (bs.drop p) = .error p := by
  rw [h, List.drop_length]
  rfl
theorem drop_at {bs : List UInt8} {p : Nat} (h : p < bs.length) : bs.drop p = bs[p] :: bs.drop (p + 1) := List.drop_eq_getElem_cons h
theorem num_at {lo hi p : Nat} {bs : List UInt8} (h : p < bs.length) : Sh.numAt lo hi Sh.ANY p (bs.drop p) = if bs[p].toNat < lo ∨ hi < bs[p].toNat then .error p else .ok (bs[p].toNat, p + 1, bs.drop (p + 1)) := by
  rw [drop_at h]
  show (if bs[p].toNat < lo ∨ hi < bs[p].toNat ∨ bs[p].toNat = Sh.ANY then _ else _) = _
  have hb : bs[p].toNat < 256 := bs[p].toNat_lt
  have hx : ¬ bs[p].toNat = Sh.ANY := by
    show ¬ bs[p].toNat = 999
    omega
  by_cases c : bs[p].toNat < lo ∨ hi < bs[p].toNat
  · rw [if_pos c, if_pos (c.elim .inl fun z => .inr (.inl z))]
  · rw [if_neg c, if_neg (fun q => q.elim (fun q => c (.inl q)) fun q => q.elim (fun q => c (.inr q)) hx)]
theorem sc_Reader_take : FnScope ["self", "least", "most", "number"] ["self", "least", "most"] (defScope s_Reader_take) := ⟨rfl, rfl, rfl, by decide +kernel, rfl, by decide +kernel, by decide +kernel⟩
theorem ok_Reader_take (T : Txt K mg d) : OkD P w K mg base (L2.CX P w) 3 d.mReader_take ["self", "least", "most"] (spTake K d) := by
  obtain ⟨fd, F, B⟩ := T.kReader_take.ex
  obtain ⟨⟨fdE, GE, BE⟩, _⟩   := ok_Reader_at_end (P := P) (w := w) (base := base) T
  refine ⟨⟨fd, F.okX sc_Reader_take (fun vs H Q E h => ?_) (fun cdv A outer s H vs Q E hr h => ?_), B⟩, F.kp⟩
  · obtain ⟨R, us, bs, a, x, p, par, rfl, _, ⟨lo, hi, rfl, rfl⟩, _⟩ := h
    rfl
  · obtain ⟨R, us, bs, a, x, p, par, rfl, A1, ⟨lo, hi, rfl, rfl⟩, k⟩ := h
    have hr1 : Room 1 _ := hr.mono (by decide)
    refine ⟨_, pss_cons (ps_if (pt_val (pe_meth0 (pv 0) T.kReader.cl T.kReader_at_end.me GE hr1 BE .nil pass0)) (pss_one (ps_raiseLow rfl T.xMisplaced hr takesX (pa_cons (pe_fld (pv 0) rfl) pa_nil))) pss_nil)
      (pss_cons (ps_set (i := 3) sc_Reader_take.nd rfl (Or.inl rfl) (pe_ix ix_list (pe_fld (pv 0) rfl) (pe_fld (pv 0) rfl) (fun _ _ => rfl)))
      (pss_cons (ps_if (PW.pt (pw_or (pt_cmpR op_lt (pv 3) (pv 1) (nomark _)) (pw_or1 (pt_cmpR op_gt (pv 3) (pv 2) (nomark _))))) (pss_one (ps_raiseLow rfl T.xMisplaced hr takesX (pa_cons (pe_fld (pv 0) rfl) pa_nil))) pss_nil)
      (pss_cons (ps_fld (pv 0) (pe_op op_add (pe_fld (pv 0) rfl) pe_int) rfl)
      (pss_one (ps_ret (pv 3)))))), ?_⟩
    refine ⟨_, rfl, R, x, _, rfl, A1.hR, lk_end, R, bs, a, x, p, rfl, A1, _, rfl, ?_⟩
    refine ite2 (fun c => ?_) (fun c => ?_)
    · have c' : p = bs.length := of_decide_eq_true c
      rw [num_end c'] at k
      exact ⟨_, rfl, R, d.cReader, x, _, _, rfl, A1.hR, T.kReader.cl, T.kReader.no.2.1, lk_pla, _, rfl, fun z hz => k z _ upd_same⟩
    · have c' : ¬ p = bs.length := of_decide_eq_false (by simpa using c)
      have hp : p < bs.length := Nat.lt_of_le_of_ne A1.le c'
      rw [num_at hp] at k
      have ev : (vals bs)[p]? = some (vN bs[p].toNat) := by
        unfold vals
        rw [List.getElem?_map, List.getElem?_eq_getElem hp]
        rfl
      refine ⟨_, rfl, R, d.cReader, x, _, _, rfl, A1.hR, T.kReader.cl, T.kReader.no.1, lk_num, ?_⟩
      refine ⟨_, rfl, R, d.cReader, x, _, _, rfl, A1.hR, T.kReader.cl, T.kReader.no.2.1, lk_pla, a, vals bs, _, _, rfl, rfl, A1.sq, atI_nat ev, ?_⟩
      have bad : (bs[p].toNat < lo ∨ hi < bs[p].toNat) → ∀ z : Addr, E (.ref d.xMisplaced) (some z) (upd H z (.xd [(("place" : Str), vN p)])) := fun cc z => by
        rw [if_pos cc] at k
        exact k z _ upd_same
      refine ⟨_, rfl, _, rfl, _, _, rfl, rfl, _, rfl, ?_⟩
      refine ite2 (fun c1 => ?_) (fun c1 => ?_)
      · refine iteT ?_
        have c2 : bs[p].toNat < lo := by have := of_decide_eq_true c1; omega
        exact ⟨_, rfl, R, d.cReader, x, _, _, rfl, A1.hR, T.kReader.cl, T.kReader.no.2.1, lk_pla, _, rfl, fun z hz => bad (.inl c2) z⟩
      · refine ⟨_, rfl, _, rfl, _, _, rfl, rfl, _, rfl, ?_⟩
        refine ite2 (fun c2 => ?_) (fun c2 => ?_)
        · have c3 : hi < bs[p].toNat := by have := of_decide_eq_true c2; omega
          exact ⟨_, rfl, R, d.cReader, x, _, _, rfl, A1.hR, T.kReader.cl, T.kReader.no.2.1, lk_pla, _, rfl, fun z hz => bad (.inr c3) z⟩
        · have c3 : ¬ (bs[p].toNat < lo ∨ hi < bs[p].toNat) := by
            have h1 := of_decide_eq_false (by simpa using c1 : decide ((bs[p].toNat : Int) < (lo : Int)) = false)
            have h2 := of_decide_eq_false (by simpa using c2 : decide ((hi : Int) < (bs[p].toNat : Int)) = false)
            omega
          rw [if_neg c3] at k
          refine ⟨_, rfl, R, d.cReader, x, _, _, rfl, A1.hR, T.kReader.cl, T.kReader.no.2.1, lk_pla, _, _, rfl, rfl, _, rfl, R, d.cReader, x, _, rfl, A1.hR, T.kReader.cl, T.kReader.no.2.1, (by show 2 < 1000; decide), ?_⟩
          have e : putF "place" (V.int ((p : Int) + 1)) ((["numbers", "place"] : List Str).zip [V.ref a, vN p]) = (["numbers", "place"] : List Str).zip [V.ref a, vN (p + 1)] := by
            rw [put_at _ _ _ _ 1 rfl (by decide +kernel)]
            rfl
          refine ⟨_, rfl, k _ _ (fun b o hb ho => ?_) ?_ hp rfl rfl⟩
          · rw [upd_ne hb]
            exact ho
          · rw [upd_same, e]
end
end HC
namespace HC
open PySem PySem.Spec PyProof.Rows L2
section
variable {P : Program} {w : World} {K : PySem.W.Frag} {mg : Str → Option Value} {base : Heap} {d : Ad}
/-! ### numbers -/
theorem num_err {lo hi x p e : Nat} {b : Sh.Bytes} (h : Sh.numAt lo hi Sh.ANY p b = .error e) : Sh.numAt lo hi x p b = .error e := by
  cases b with
  | nil => exact h
  | cons c r =>
    have hb : c.toNat < 256 := c.toNat_lt
    have h' : (if c.toNat < lo ∨ hi < c.toNat ∨ c.toNat = Sh.ANY then (.error p : Except Nat (Nat × Nat × Sh.Bytes)) else .ok (c.toNat, p + 1, r)) = .error e := h
    show (if c.toNat < lo ∨ hi < c.toNat ∨ c.toNat = x then _ else _) = _
    by_cases q : c.toNat < lo ∨ hi < c.toNat ∨ c.toNat = Sh.ANY
    · rw [if_pos q] at h'
      rw [if_pos ?_]
      · exact h'
      · rcases q with q | q | q
        · exact .inl q
        · exact .inr (.inl q)
        · have q' : c.toNat = 999 := q
          omega
    · rw [if_neg q] at h'
      cases h'
theorem num_ok {lo hi x p n q : Nat} {b r : Sh.Bytes} (h : Sh.numAt lo hi Sh.ANY p b = .ok (n, q, r)) : q = p + 1 ∧ lo ≤ n ∧ n ≤ hi ∧ Sh.numAt lo hi x p b = if n = x then .error p else .ok (n, q, r) := by
  cases b with
  | nil => cases h
  | cons c s =>
    have h' : (if c.toNat < lo ∨ hi < c.toNat ∨ c.toNat = Sh.ANY then (.error p : Except Nat (Nat × Nat × Sh.Bytes)) else .ok (c.toNat, p + 1, s)) = .ok (n, q, r) := h
    by_cases z : c.toNat < lo ∨ hi < c.toNat ∨ c.toNat = Sh.ANY
    · rw [if_pos z] at h'
      cases h'
    · rw [if_neg z] at h'
      cases h'
      have z1 : ¬ c.toNat < lo := fun y => z (.inl y)
      have z2 : ¬ hi < c.toNat := fun y => z (.inr (.inl y))
      refine ⟨rfl, by omega, by omega, ?_⟩
      show (if c.toNat < lo ∨ hi < c.toNat ∨ c.toNat = x then _ else _) = _
      by_cases y : c.toNat = x
      · rw [if_pos y, if_pos (.inr (.inr y))]
      · rw [if_neg y, if_neg (fun t => t.elim z1 fun t => t.elim z2 y)]
theorem eqv {n : Nat} {z : Int} (c : decide (vN n = V.int z) = true) : (n : Int) = z := by
  have := of_decide_eq_true c
  injection this
theorem neqv {n : Nat} {z : Int} (c : ¬ decide (vN n = V.int z) = true) : ¬ (n : Int) = z := fun e => c (decide_eq_true (congrArg V.int e))
/-! ### take_tincture_beside -/
def preBes (_ : Hp) (us : List V) (par : Nat → Sh.Bytes → Except Nat (Nat × Nat × Sh.Bytes)) : Prop := ∃ y : Nat, us = [vN y] ∧ par = Sh.numAt 0 8 y
abbrev spBes (K : PySem.W.Frag) (d : Ad) : Sp := spRd K d preBes RNat
theorem sc_Reader_take_tincture_beside : FnScope ["self", "other", "tincture"] ["self", "other"] (defScope s_Reader_take_tincture_beside) := ⟨rfl, rfl, rfl, by decide +kernel, rfl, by decide +kernel, by decide +kernel⟩
theorem ok_Reader_take_tincture_beside (T : Txt K mg d) : OkD P w K mg base (L2.CX P w) 5 d.mReader_take_tincture_beside ["self", "other"] (spBes K d) := by
  obtain ⟨fd, F, B⟩ := T.kReader_take_tincture_beside.ex
  obtain ⟨⟨fd_Reader_take, G_Reader_take, B_Reader_take⟩, kp_Reader_take⟩ := ok_Reader_take (P := P) (w := w) (base := base) T
  obtain ⟨c_LAST_TINCTURE, m_LAST_TINCTURE⟩ := T.nLAST_TINCTURE
  refine ⟨⟨fd, F.okX sc_Reader_take_tincture_beside (fun vs H Q E h => ?_) (fun cdv A outer s H vs Q E hr h => ?_), B⟩, F.kp⟩
  · obtain ⟨R, us, bs, a, x, p, par, rfl, _, ⟨y, rfl, rfl⟩, _⟩ := h
    rfl
  · obtain ⟨R, us, bs, a, x, q0, par, rfl, A0, ⟨y, rfl, rfl⟩, k⟩ := h
    have hr_Reader_take : Room 3 _ := hr.mono (by decide)
    refine ⟨_, pss_cons (ps_set (i := 2) sc_Reader_take_tincture_beside.nd rfl (Or.inl rfl) (pe_meth (pv 0) T.kReader.cl T.kReader_take.me G_Reader_take hr_Reader_take B_Reader_take .nil passX (pa_cons pe_int (pa_cons (pgi m_LAST_TINCTURE) pa_nil))))
      (pss_cons (ps_if (pt_cmpR op_eq (pv 2) (pv 1) (nomark _))
        (pss_one (ps_raiseLow rfl T.xMisplaced hr takesX (pa_cons (pe_op op_sub (pe_fld (pv 0) rfl) pe_int) pa_nil)))
        pss_nil)
      (pss_one (ps_ret (pv 2)))), ?_⟩
    refine ⟨_, rfl, R, x, _, rfl, A0.hR, lk_take, R, _, bs, a, x, q0, _, rfl, A0, ⟨0, 8, rfl, rfl⟩, ?_⟩
    cases e1 : Sh.numAt 0 8 Sh.ANY q0 (bs.drop q0) with
    | error e =>
      rw [num_err e1] at k
      exact k
    | ok z =>
      obtain ⟨n1, q1, r1⟩ := z
      obtain ⟨eq1, _, _, en⟩ := num_ok (x := y) e1
      rw [en] at k
      intro v1 H1 k1 h1 l1 g1 t1
      dsimp only at h1 l1 g1 t1
      cases t1
      refine ⟨_, rfl, _, rfl, rfl, _, rfl, ?_⟩
      refine ite2 (fun c => ?_) (fun c => ?_)
      · have c' : n1 = y := by have := eqv c; omega
        rw [if_pos c'] at k
        refine ⟨_, rfl, R, d.cReader, x, _, _, rfl, h1, T.kReader.cl, T.kReader.no.2.1, lk_pla, _, _, rfl, rfl, _, rfl, fun z hz => k z _ ?_⟩
        have e : (q1 : Int) - 1 = (q0 : Int) := by omega
        rw [upd_same]
        show some (HO.xd [(("place" : Str), V.int ((q1 : Int) - 1))]) = _
        rw [e]
      · have c' : ¬ n1 = y := fun e => neqv c (by rw [e])
        rw [if_neg c'] at k
        exact ⟨_, rfl, k _ _ k1 h1 l1 g1 rfl⟩
/-! ### fields -/
def partedAt (p : Nat) (b : Sh.Bytes) : Except Nat (Sh.Field × Nat × Sh.Bytes) := match Sh.numAt 0 7 Sh.ANY p b with
  | .error e => .error e
  | .ok d => match Sh.numAt 0 5 Sh.ANY d.2.1 d.2.2 with
    | .error e => .error e
    | .ok l => match Sh.twoAt l.2.1 l.2.2 with
      | .error e => .error e
      | .ok t => .ok (.parted d.1 l.1 t.1.1 t.1.2, t.2)
def variedAt (p : Nat) (b : Sh.Bytes) : Except Nat (Sh.Field × Nat × Sh.Bytes) := match Sh.numAt 0 6 Sh.ANY p b with
  | .error e => .error e
  | .ok v => match Sh.numAt 2 24 Sh.ANY v.2.1 v.2.2 with
    | .error e => .error e
    | .ok n => match Sh.numAt 0 (if 5 ≤ v.1 then 0 else 5) Sh.ANY n.2.1 n.2.2 with
      | .error e => .error e
      | .ok l => match Sh.twoAt l.2.1 l.2.2 with
        | .error e => .error e
        | .ok t => .ok (.varied v.1 n.1 l.1 t.1.1 t.1.2, t.2)
/-- handed the reader alone -/
def pre0 {α : Type} (g : Nat → Sh.Bytes → Except Nat (α × Nat × Sh.Bytes)) (_ : Hp) (us : List V) (par : Nat → Sh.Bytes → Except Nat (α × Nat × Sh.Bytes)) : Prop := us = [] ∧ par = g
abbrev spParted (K : PySem.W.Frag) (d : Ad) : Sp := spRd K d (pre0 partedAt) (RField d)
abbrev spVaried (K : PySem.W.Frag) (d : Ad) : Sp := spRd K d (pre0 variedAt) (RField d)
abbrev spField (K : PySem.W.Frag) (d : Ad) : Sp := spRd K d (pre0 Sh.fieldAt) (RField d)
theorem sc_take_parted : FnScope ["reader", "way", "line", "first"] ["reader"] (defScope s_take_parted) := ⟨rfl, rfl, rfl, by decide +kernel, rfl, by decide +kernel, by decide +kernel⟩
theorem ok_take_parted (T : Txt K mg d) : OkD P w K mg base (L2.CX P w) 7 d.f_take_parted ["reader"] (spParted K d) := by
  obtain ⟨fd, F, B⟩ := T.k_take_parted.ex
  obtain ⟨⟨fd_Reader_take, G_Reader_take, B_Reader_take⟩, kp_Reader_take⟩ := ok_Reader_take (P := P) (w := w) (base := base) T
  obtain ⟨⟨fd_Parted, G_Parted, B_Parted⟩, kp_Parted⟩ := ok_Parted_init (P := P) (w := w) (base := base) T
  obtain ⟨⟨fd_Reader_take_tincture_beside, G_Reader_take_tincture_beside, B_Reader_take_tincture_beside⟩, kp_Reader_take_tincture_beside⟩ := ok_Reader_take_tincture_beside (P := P) (w := w) (base := base) T
  obtain ⟨c_LAST_PARTED_WAY, m_LAST_PARTED_WAY⟩ := T.nLAST_PARTED_WAY
  obtain ⟨c_LAST_LINE, m_LAST_LINE⟩ := T.nLAST_LINE
  obtain ⟨c_LAST_TINCTURE, m_LAST_TINCTURE⟩ := T.nLAST_TINCTURE
  refine ⟨⟨fd, F.okX sc_take_parted (fun vs H Q E h => ?_) (fun cdv A outer s H vs Q E hr h => ?_), B⟩, F.kp⟩
  · obtain ⟨R, us, bs, a, x, p, par, rfl, _, ⟨rfl, rfl⟩, _⟩ := h
    rfl
  · obtain ⟨R, us, bs, a, x, q0, par, rfl, A0, ⟨rfl, rfl⟩, k⟩ := h
    have hr_Reader_take : Room 3 _ := hr.mono (by decide)
    have hr_Parted : Room 2 _ := hr.mono (by decide)
    have hr_Reader_take_tincture_beside : Room 5 _ := hr.mono (by decide)
    have K0 : Keep R H H := Keep.refl R H
    refine ⟨_, pss_cons (ps_set (i := 1) sc_take_parted.nd rfl (Or.inl rfl) (pe_meth (pv 0) T.kReader.cl T.kReader_take.me G_Reader_take hr_Reader_take B_Reader_take .nil passX (pa_cons pe_int (pa_cons (pgi m_LAST_PARTED_WAY) pa_nil))))
      (pss_cons (ps_set (i := 2) sc_take_parted.nd rfl (Or.inl rfl) (pe_meth (pv 0) T.kReader.cl T.kReader_take.me G_Reader_take hr_Reader_take B_Reader_take .nil passX (pa_cons pe_int (pa_cons (pgi m_LAST_LINE) pa_nil))))
      (pss_cons (ps_set (i := 3) sc_take_parted.nd rfl (Or.inl rfl) (pe_meth (pv 0) T.kReader.cl T.kReader_take.me G_Reader_take hr_Reader_take B_Reader_take .nil passX (pa_cons pe_int (pa_cons (pgi m_LAST_TINCTURE) pa_nil))))
      (pss_one (ps_ret (pe_make T.kParted.mak G_Parted hr_Parted rfl T.kParted.gl B_Parted .nil pass0 (pa_cons (pv 1) (pa_cons (pv 2) (pa_cons (pv 3) (pa_cons (pe_meth (pv 0) T.kReader.cl T.kReader_take_tincture_beside.me G_Reader_take_tincture_beside hr_Reader_take_tincture_beside B_Reader_take_tincture_beside .nil passX (pa_cons (pv 3) pa_nil)) pa_nil))))))))), ?_⟩
    unfold partedAt at k
    refine ⟨_, rfl, R, x, _, rfl, A0.hR, lk_take, R, _, bs, a, x, q0, _, rfl, A0, ⟨0, 7, rfl, rfl⟩, ?_⟩
    cases e1 : Sh.numAt 0 7 Sh.ANY q0 (bs.drop q0) with
    | error e =>
      rw [e1] at k
      exact k
    | ok y =>
    obtain ⟨n1, q1, r1⟩ := y
    rw [e1] at k
    intro v1 H1 k1 h1 l1 g1 t1
    dsimp only at k h1 l1 g1 t1
    subst g1
    have K1 : Keep R H H1 := K0.trans k1
    have A1 := A0.step k1 h1 l1
    cases t1
    refine ⟨_, rfl, R, x, _, rfl, A1.hR, lk_take, R, _, bs, a, x, q1, _, rfl, A1, ⟨0, 5, rfl, rfl⟩, ?_⟩
    cases e2 : Sh.numAt 0 5 Sh.ANY q1 (bs.drop q1) with
    | error e =>
      rw [e2] at k
      exact k
    | ok y =>
    obtain ⟨n2, q2, r2⟩ := y
    rw [e2] at k
    intro v2 H2 k2 h2 l2 g2 t2
    dsimp only at k h2 l2 g2 t2
    subst g2
    have K2 : Keep R H H2 := K1.trans k2
    have A2 := A1.step k2 h2 l2
    cases t2
    unfold Sh.twoAt at k
    refine ⟨_, rfl, R, x, _, rfl, A2.hR, lk_take, R, _, bs, a, x, q2, _, rfl, A2, ⟨0, 8, rfl, rfl⟩, ?_⟩
    cases e3 : Sh.numAt 0 8 Sh.ANY q2 (bs.drop q2) with
    | error e =>
      rw [e3] at k
      exact k
    | ok y =>
    obtain ⟨n3, q3, r3⟩ := y
    rw [e3] at k
    intro v3 H3 k3 h3 l3 g3 t3
    dsimp only at k h3 l3 g3 t3
    subst g3
    have K3 : Keep R H H3 := K2.trans k3
    have A3 := A2.step k3 h3 l3
    cases t3
    refine ⟨_, rfl, _, rfl, _, rfl, _, rfl, R, x, _, rfl, A3.hR, lk_bes, _, rfl, R, _, bs, a, x, q3, _, rfl, A3, ⟨n3, rfl, rfl⟩, ?_⟩
    cases e4 : Sh.numAt 0 8 n3 q3 (bs.drop q3) with
    | error e =>
      rw [e4] at k
      exact k
    | ok y =>
    obtain ⟨n4, q4, r4⟩ := y
    rw [e4] at k
    intro v4 H4 k4 h4 l4 g4 t4
    dsimp only at k h4 l4 g4 t4
    subst g4
    have K4 : Keep R H H4 := K3.trans k4
    have A4 := A3.step k4 h4 l4
    cases t4
    refine made rfl fun y dy H5 ny s5 hy => ?_
    exact k _ H5 (K4.trans (Keep.of s5)) (s5 _ _ h4) l4 rfl ⟨y, dy, rfl, K4.free h4 ny, hy⟩
theorem sc_take_varied : FnScope ["reader", "way", "pieces", "line", "first"] ["reader"] (defScope s_take_varied) := ⟨rfl, rfl, rfl, by decide +kernel, rfl, by decide +kernel, by decide +kernel⟩
theorem ok_take_varied (T : Txt K mg d) : OkD P w K mg base (L2.CX P w) 7 d.f_take_varied ["reader"] (spVaried K d) := by
  obtain ⟨fd, F, B⟩ := T.k_take_varied.ex
  obtain ⟨⟨fd_Reader_take, G_Reader_take, B_Reader_take⟩, kp_Reader_take⟩ := ok_Reader_take (P := P) (w := w) (base := base) T
  obtain ⟨⟨fd_Varied, G_Varied, B_Varied⟩, kp_Varied⟩ := ok_Varied_init (P := P) (w := w) (base := base) T
  obtain ⟨⟨fd_Reader_take_tincture_beside, G_Reader_take_tincture_beside, B_Reader_take_tincture_beside⟩, kp_Reader_take_tincture_beside⟩ := ok_Reader_take_tincture_beside (P := P) (w := w) (base := base) T
  obtain ⟨c_LAST_VARIED_WAY, m_LAST_VARIED_WAY⟩ := T.nLAST_VARIED_WAY
  obtain ⟨c_FEWEST_PIECES, m_FEWEST_PIECES⟩ := T.nFEWEST_PIECES
  obtain ⟨c_MOST_PIECES, m_MOST_PIECES⟩ := T.nMOST_PIECES
  obtain ⟨c_LAST_TINCTURE, m_LAST_TINCTURE⟩ := T.nLAST_TINCTURE
  obtain ⟨c_LAST_LINE, m_LAST_LINE⟩ := T.nLAST_LINE
  obtain ⟨c_FIRST_STRAIGHT_WAY, m_FIRST_STRAIGHT_WAY⟩ := T.nFIRST_STRAIGHT_WAY
  refine ⟨⟨fd, F.okX sc_take_varied (fun vs H Q E h => ?_) (fun cdv A outer s H vs Q E hr h => ?_), B⟩, F.kp⟩
  · obtain ⟨R, us, bs, a, x, p, par, rfl, _, ⟨rfl, rfl⟩, _⟩ := h
    rfl
  · obtain ⟨R, us, bs, a, x, q0, par, rfl, A0, ⟨rfl, rfl⟩, k⟩ := h
    have hr_Reader_take : Room 3 _ := hr.mono (by decide)
    have hr_Varied : Room 2 _ := hr.mono (by decide)
    have hr_Reader_take_tincture_beside : Room 5 _ := hr.mono (by decide)
    have K0 : Keep R H H := Keep.refl R H
    refine ⟨_, pss_cons (ps_set (i := 1) sc_take_varied.nd rfl (Or.inl rfl) (pe_meth (pv 0) T.kReader.cl T.kReader_take.me G_Reader_take hr_Reader_take B_Reader_take .nil passX (pa_cons pe_int (pa_cons (pgi m_LAST_VARIED_WAY) pa_nil))))
      (pss_cons (ps_set (i := 2) sc_take_varied.nd rfl (Or.inl rfl) (pe_meth (pv 0) T.kReader.cl T.kReader_take.me G_Reader_take hr_Reader_take B_Reader_take .nil passX (pa_cons (pgi m_FEWEST_PIECES) (pa_cons (pgi m_MOST_PIECES) pa_nil))))
      (pss_cons (ps_set (i := 3) sc_take_varied.nd rfl (Or.inl rfl) (pe_meth (pv 0) T.kReader.cl T.kReader_take.me G_Reader_take hr_Reader_take B_Reader_take .nil passX (pa_cons pe_int (pa_cons (pe_ifExp (pt_cmpR op_lt (pv 1) (pgi m_FIRST_STRAIGHT_WAY) (nomark _)) (pgi m_LAST_LINE) pe_int) pa_nil))))
      (pss_cons (ps_set (i := 4) sc_take_varied.nd rfl (Or.inl rfl) (pe_meth (pv 0) T.kReader.cl T.kReader_take.me G_Reader_take hr_Reader_take B_Reader_take .nil passX (pa_cons pe_int (pa_cons (pgi m_LAST_TINCTURE) pa_nil))))
      (pss_one (ps_ret (pe_make T.kVaried.mak G_Varied hr_Varied rfl T.kVaried.gl B_Varied .nil pass0 (pa_cons (pv 1) (pa_cons (pv 2) (pa_cons (pv 3) (pa_cons (pv 4) (pa_cons (pe_meth (pv 0) T.kReader.cl T.kReader_take_tincture_beside.me G_Reader_take_tincture_beside hr_Reader_take_tincture_beside B_Reader_take_tincture_beside .nil passX (pa_cons (pv 4) pa_nil)) pa_nil))))))))))), ?_⟩
    unfold variedAt at k
    refine ⟨_, rfl, R, x, _, rfl, A0.hR, lk_take, R, _, bs, a, x, q0, _, rfl, A0, ⟨0, 6, rfl, rfl⟩, ?_⟩
    cases e1 : Sh.numAt 0 6 Sh.ANY q0 (bs.drop q0) with
    | error e =>
      rw [e1] at k
      exact k
    | ok y =>
    obtain ⟨n1, q1, r1⟩ := y
    rw [e1] at k
    intro v1 H1 k1 h1 l1 g1 t1
    dsimp only at k h1 l1 g1 t1
    subst g1
    have K1 : Keep R H H1 := K0.trans k1
    have A1 := A0.step k1 h1 l1
    cases t1
    refine ⟨_, rfl, R, x, _, rfl, A1.hR, lk_take, R, _, bs, a, x, q1, _, rfl, A1, ⟨2, 24, rfl, rfl⟩, ?_⟩
    cases e2 : Sh.numAt 2 24 Sh.ANY q1 (bs.drop q1) with
    | error e =>
      rw [e2] at k
      exact k
    | ok y =>
    obtain ⟨n2, q2, r2⟩ := y
    rw [e2] at k
    intro v2 H2 k2 h2 l2 g2 t2
    dsimp only at k h2 l2 g2 t2
    subst g2
    have K2 : Keep R H H2 := K1.trans k2
    have A2 := A1.step k2 h2 l2
    cases t2
    refine ⟨_, rfl, R, x, _, rfl, A2.hR, lk_take, _, rfl, _, _, rfl, rfl, _, rfl, ?_⟩
    refine ite2 (fun c => ?_) (fun c => ?_)
    · have c' : ¬ 5 ≤ n1 := by have := of_decide_eq_true c; omega
      rw [if_neg c'] at k
      refine ⟨R, _, bs, a, x, q2, _, rfl, A2, ⟨0, 5, rfl, rfl⟩, ?_⟩
      cases e3 : Sh.numAt 0 5 Sh.ANY q2 (bs.drop q2) with
      | error e =>
        rw [e3] at k
        exact k
      | ok y =>
      obtain ⟨n3, q3, r3⟩ := y
      rw [e3] at k
      intro v3 H3 k3 h3 l3 g3 t3
      dsimp only at k h3 l3 g3 t3
      subst g3
      have K3 : Keep R H H3 := K2.trans k3
      have A3 := A2.step k3 h3 l3
      cases t3
      unfold Sh.twoAt at k
      refine ⟨_, rfl, R, x, _, rfl, A3.hR, lk_take, R, _, bs, a, x, q3, _, rfl, A3, ⟨0, 8, rfl, rfl⟩, ?_⟩
      cases e4 : Sh.numAt 0 8 Sh.ANY q3 (bs.drop q3) with
      | error e =>
        rw [e4] at k
        exact k
      | ok y =>
      obtain ⟨n4, q4, r4⟩ := y
      rw [e4] at k
      intro v4 H4 k4 h4 l4 g4 t4
      dsimp only at k h4 l4 g4 t4
      subst g4
      have K4 : Keep R H H4 := K3.trans k4
      have A4 := A3.step k4 h4 l4
      cases t4
      refine ⟨_, rfl, _, rfl, _, rfl, _, rfl, _, rfl, R, x, _, rfl, A4.hR, lk_bes, _, rfl, R, _, bs, a, x, q4, _, rfl, A4, ⟨n4, rfl, rfl⟩, ?_⟩
      cases e5 : Sh.numAt 0 8 n4 q4 (bs.drop q4) with
      | error e =>
        rw [e5] at k
        exact k
      | ok y =>
      obtain ⟨n5, q5, r5⟩ := y
      rw [e5] at k
      intro v5 H5 k5 h5 l5 g5 t5
      dsimp only at k h5 l5 g5 t5
      subst g5
      have K5 : Keep R H H5 := K4.trans k5
      have A5 := A4.step k5 h5 l5
      cases t5
      refine made rfl fun y dy H6 ny s6 hy => ?_
      exact k _ H6 (K5.trans (Keep.of s6)) (s6 _ _ h5) l5 rfl ⟨y, dy, rfl, K5.free h5 ny, hy⟩
    · have c' : 5 ≤ n1 := by
        have := of_decide_eq_false (by simpa using c : decide ((n1 : Int) < 5) = false)
        omega
      rw [if_pos c'] at k
      refine ⟨R, _, bs, a, x, q2, _, rfl, A2, ⟨0, 0, rfl, rfl⟩, ?_⟩
      cases e3 : Sh.numAt 0 0 Sh.ANY q2 (bs.drop q2) with
      | error e =>
        rw [e3] at k
        exact k
      | ok y =>
      obtain ⟨n3, q3, r3⟩ := y
      rw [e3] at k
      intro v3 H3 k3 h3 l3 g3 t3
      dsimp only at k h3 l3 g3 t3
      subst g3
      have K3 : Keep R H H3 := K2.trans k3
      have A3 := A2.step k3 h3 l3
      cases t3
      unfold Sh.twoAt at k
      refine ⟨_, rfl, R, x, _, rfl, A3.hR, lk_take, R, _, bs, a, x, q3, _, rfl, A3, ⟨0, 8, rfl, rfl⟩, ?_⟩
      cases e4 : Sh.numAt 0 8 Sh.ANY q3 (bs.drop q3) with
      | error e =>
        rw [e4] at k
        exact k
      | ok y =>
      obtain ⟨n4, q4, r4⟩ := y
      rw [e4] at k
      intro v4 H4 k4 h4 l4 g4 t4
      dsimp only at k h4 l4 g4 t4
      subst g4
      have K4 : Keep R H H4 := K3.trans k4
      have A4 := A3.step k4 h4 l4
      cases t4
      refine ⟨_, rfl, _, rfl, _, rfl, _, rfl, _, rfl, R, x, _, rfl, A4.hR, lk_bes, _, rfl, R, _, bs, a, x, q4, _, rfl, A4, ⟨n4, rfl, rfl⟩, ?_⟩
      cases e5 : Sh.numAt 0 8 n4 q4 (bs.drop q4) with
      | error e =>
        rw [e5] at k
        exact k
      | ok y =>
      obtain ⟨n5, q5, r5⟩ := y
      rw [e5] at k
      intro v5 H5 k5 h5 l5 g5 t5
      dsimp only at k h5 l5 g5 t5
      subst g5
      have K5 : Keep R H H5 := K4.trans k5
      have A5 := A4.step k5 h5 l5
      cases t5
      refine made rfl fun y dy H6 ny s6 hy => ?_
      exact k _ H6 (K5.trans (Keep.of s6)) (s6 _ _ h5) l5 rfl ⟨y, dy, rfl, K5.free h5 ny, hy⟩
end
end HC

namespace HC
open PySem PySem.Spec PyProof.Rows L2
section
variable {P : Program} {w : World} {K : PySem.W.Frag} {mg : Str → Option Value} {base : Heap} {d : Ad}
theorem sc_take_field : FnScope ["reader", "kind"] ["reader"] (defScope s_take_field) := ⟨rfl, rfl, rfl, by decide +kernel, rfl, by decide +kernel, by decide +kernel⟩
theorem ok_take_field (T : Txt K mg d) : OkD P w K mg base (L2.CX P w) 9 d.f_take_field ["reader"] (spField K d) := by
  obtain ⟨fd, F, B⟩ := T.k_take_field.ex
  obtain ⟨⟨fd_Reader_take, G_Reader_take, B_Reader_take⟩, kp_Reader_take⟩ := ok_Reader_take (P := P) (w := w) (base := base) T
  obtain ⟨⟨fd_take_varied, G_take_varied, B_take_varied⟩, kp_take_varied⟩ := ok_take_varied (P := P) (w := w) (base := base) T
  obtain ⟨⟨fd_Plain, G_Plain, B_Plain⟩, kp_Plain⟩ := ok_Plain_init (P := P) (w := w) (base := base) T
  obtain ⟨⟨fd_take_parted, G_take_parted, B_take_parted⟩, kp_take_parted⟩ := ok_take_parted (P := P) (w := w) (base := base) T
  obtain ⟨c_LAST_TINCTURE, m_LAST_TINCTURE⟩ := T.nLAST_TINCTURE
  refine ⟨⟨fd, F.okX sc_take_field (fun vs H Q E h => ?_) (fun cdv A outer s H vs Q E hr h => ?_), B⟩, F.kp⟩
  · obtain ⟨R, us, bs, a, x, p, par, rfl, _, ⟨rfl, rfl⟩, _⟩ := h
    rfl
  · obtain ⟨R, us, bs, a, x, q0, par, rfl, A0, ⟨rfl, rfl⟩, k⟩ := h
    have hr_Reader_take : Room 3 _ := hr.mono (by decide)
    have hr_take_varied : Room 7 _ := hr.mono (by decide)
    have hr_Plain : Room 2 _ := hr.mono (by decide)
    have hr_take_parted : Room 7 _ := hr.mono (by decide)
    have K0 : Keep R H H := Keep.refl R H
    refine ⟨_, pss_cons (ps_set (i := 1) sc_take_field.nd rfl (Or.inl rfl) (pe_meth (pv 0) T.kReader.cl T.kReader_take.me G_Reader_take hr_Reader_take B_Reader_take .nil passX (pa_cons pe_int (pa_cons pe_int pa_nil))))
      (pss_cons (ps_if (pt_cmpR op_eq (pv 1) pe_int (nomark _))
        (pss_one (ps_ret (pe_make T.kPlain.mak G_Plain hr_Plain rfl T.kPlain.gl B_Plain .nil pass0 (pa_cons (pe_meth (pv 0) T.kReader.cl T.kReader_take.me G_Reader_take hr_Reader_take B_Reader_take .nil passX (pa_cons pe_int (pa_cons (pgi m_LAST_TINCTURE) pa_nil))) pa_nil))))
        pss_nil)
      (pss_cons (ps_if (pt_cmpR op_eq (pv 1) pe_int (nomark _))
        (pss_one (ps_ret (pe_call G_take_parted hr_take_parted rfl T.k_take_parted.gl kp_take_parted B_take_parted .nil passX (pa_cons (pv 0) pa_nil))))
        pss_nil)
      (pss_one (ps_ret (pe_call G_take_varied hr_take_varied rfl T.k_take_varied.gl kp_take_varied B_take_varied .nil passX (pa_cons (pv 0) pa_nil)))))), ?_⟩
    unfold Sh.fieldAt at k
    refine ⟨_, rfl, R, x, _, rfl, A0.hR, lk_take, R, _, bs, a, x, q0, _, rfl, A0, ⟨0, 2, rfl, rfl⟩, ?_⟩
    cases e1 : Sh.numAt 0 2 Sh.ANY q0 (bs.drop q0) with
    | error e =>
      rw [e1] at k
      exact k
    | ok y =>
    obtain ⟨n1, q1, r1⟩ := y
    rw [e1] at k
    intro v1 H1 k1 h1 l1 g1 t1
    dsimp only at k h1 l1 g1 t1
    subst g1
    have K1 : Keep R H H1 := K0.trans k1
    have A1 := A0.step k1 h1 l1
    cases t1
    refine ⟨_, rfl, rfl, _, rfl, ?_⟩
    refine ite2 (fun c => ?_) (fun c => ?_)
    · have c' : n1 = 0 := by have := eqv c; omega
      rw [if_pos c'] at k
      refine ⟨_, rfl, R, x, _, rfl, A1.hR, lk_take, R, _, bs, a, x, q1, _, rfl, A1, ⟨0, 8, rfl, rfl⟩, ?_⟩
      cases e2 : Sh.numAt 0 8 Sh.ANY q1 (bs.drop q1) with
      | error e =>
        rw [e2] at k
        exact k
      | ok y =>
      obtain ⟨n2, q2, r2⟩ := y
      rw [e2] at k
      intro v2 H2 k2 h2 l2 g2 t2
      dsimp only at k h2 l2 g2 t2
      subst g2
      have K2 : Keep R H H2 := K1.trans k2
      have A2 := A1.step k2 h2 l2
      cases t2
      refine made rfl fun y dy H3 ny s3 hy => ?_
      exact k _ H3 (K2.trans (Keep.of s3)) (s3 _ _ h2) l2 rfl ⟨y, dy, rfl, K2.free h2 ny, hy⟩
    · have c' : ¬ n1 = 0 := fun e => neqv c (by rw [e]; rfl)
      rw [if_neg c'] at k
      refine ⟨_, rfl, rfl, _, rfl, ?_⟩
      refine ite2 (fun c1 => ?_) (fun c1 => ?_)
      · have c2 : n1 = 1 := by have := eqv c1; omega
        rw [if_pos c2] at k
        have k' : Give d bs a R x (RField d) H Q E (partedAt q1 (bs.drop q1)) := k
        refine ⟨_, rfl, R, _, bs, a, x, q1, _, rfl, A1, ⟨rfl, rfl⟩, ?_⟩
        exact Give.up K1 h1 (fun _ _ _ _ _ m z => RField.mv z m) k'
      · have c2 : ¬ n1 = 1 := fun e => neqv c1 (by rw [e]; rfl)
        rw [if_neg c2] at k
        have k' : Give d bs a R x (RField d) H Q E (variedAt q1 (bs.drop q1)) := k
        refine ⟨_, rfl, R, _, bs, a, x, q1, _, rfl, A1, ⟨rfl, rfl⟩, ?_⟩
        exact Give.up K1 h1 (fun _ _ _ _ _ m z => RField.mv z m) k'
/-! ### fills, layers -/
def preFill {α : Type} (d : Ad) (g : Sh.Field → Nat → Sh.Bytes → Except Nat (α × Nat × Sh.Bytes)) (H : Hp) (us : List V) (par : Nat → Sh.Bytes → Except Nat (α × Nat × Sh.Bytes)) : Prop :=
  ∃ (v : V) (f : Sh.Field) (H0 : Hp), us = [v] ∧ RField d H0 H v f ∧ par = g f
abbrev spFill (K : PySem.W.Frag) (d : Ad) : Sp := spRd K d (preFill d Sh.fillAt) (RFill d)
abbrev spLayer (K : PySem.W.Frag) (d : Ad) : Sp := spRd K d (preFill d Sh.layerAt) (RLayer d)
/-- isinstance(field, Plain) -/
theorem isPlain (T : Txt K mg d) {H0 H : Hp} {v : V} {f : Sh.Field} (h : RField d H0 H v f) : ∃ t, TyX K H v t ∧ PySem.W.kitOne K t (.ref d.cPlain) = some (!f.two.isSome) := by
  cases f with
  | plain t =>
    obtain ⟨b, dx, rfl, _, o⟩ := h
    exact ⟨_, .base (.ins o T.kPlain.cl T.kPlain.cla T.gs T.tk T.kPlain.mro), T.iPlain_Plain⟩
  | parted w l a c =>
    obtain ⟨b, dx, rfl, _, o⟩ := h
    exact ⟨_, .base (.ins o T.kParted.cl T.kParted.cla T.gs T.tk T.kParted.mro), T.iParted_Plain⟩
  | varied w n l a c =>
    obtain ⟨b, dx, rfl, _, o⟩ := h
    exact ⟨_, .base (.ins o T.kVaried.cl T.kVaried.cla T.gs T.tk T.kVaried.mro), T.iVaried_Plain⟩
theorem sc_take_fill : FnScope ["reader", "field", "counterchanged"] ["reader", "field"] (defScope s_take_fill) := ⟨rfl, rfl, rfl, by decide +kernel, rfl, by decide +kernel, by decide +kernel⟩
theorem ok_take_fill (T : Txt K mg d) : OkD P w K mg base (L2.CX P w) 11 d.f_take_fill ["reader", "field"] (spFill K d) := by
  obtain ⟨fd, F, B⟩ := T.k_take_fill.ex
  obtain ⟨⟨fd_Reader_take, G_Reader_take, B_Reader_take⟩, kp_Reader_take⟩ := ok_Reader_take (P := P) (w := w) (base := base) T
  obtain ⟨⟨fd_take_field, G_take_field, B_take_field⟩, kp_take_field⟩ := ok_take_field (P := P) (w := w) (base := base) T
  refine ⟨⟨fd, F.okX sc_take_fill (fun vs H Q E h => ?_) (fun cdv A outer s H vs Q E hr h => ?_), B⟩, F.kp⟩
  · obtain ⟨R, us, bs, a, x, p, par, rfl, _, ⟨v, f, H0, rfl, _, rfl⟩, _⟩ := h
    rfl
  · obtain ⟨R, us, bs, a, x, q0, par, rfl, A0, ⟨v, f, H0, rfl, hf, rfl⟩, k⟩ := h
    have hr_Reader_take : Room 3 _ := hr.mono (by decide)
    have hr_take_field : Room 9 _ := hr.mono (by decide)
    have K0 : Keep R H H := Keep.refl R H
    refine ⟨_, pss_cons (ps_set (i := 2) sc_take_fill.nd rfl (Or.inl rfl) (pe_meth (pv 0) T.kReader.cl T.kReader_take.me G_Reader_take hr_Reader_take B_Reader_take .nil passX (pa_cons pe_int (pa_cons (pe_ifExp (pt_val (pe_callB call_isi (by rfl) T.b_isinstance (by decide +kernel) (pa_cons (pv 1) (pa_cons (pe_glob (v := .ref d.cPlain) rfl T.kPlain.gl rfl) pa_nil)))) pe_int pe_int) pa_nil))))
      (pss_cons (ps_if (pt_cmpR op_eq (pv 2) pe_int (nomark _))
        (pss_one (ps_ret pe_non))
        pss_nil)
      (pss_one (ps_ret (pe_call G_take_field hr_take_field rfl T.k_take_field.gl kp_take_field B_take_field .nil passX (pa_cons (pv 0) pa_nil))))), ?_⟩
    unfold Sh.fillAt at k
    obtain ⟨ty, h1, h2⟩ := isPlain T hf
    refine ⟨_, rfl, R, x, _, rfl, A0.hR, lk_take, _, rfl, _, _, ty, _, _, rfl, ClsV.own _, h1, h2, _, rfl, ?_⟩
    refine ite2 (fun c => ?_) (fun c => ?_)
    · have c' : ¬ f.two.isSome = true := by
        intro z
        rw [z] at c
        cases c
      rw [if_neg c'] at k
      refine ⟨R, _, bs, a, x, q0, _, rfl, A0, ⟨0, 0, rfl, rfl⟩, ?_⟩
      cases e1 : Sh.numAt 0 0 Sh.ANY q0 (bs.drop q0) with
      | error e =>
        rw [e1] at k
        exact k
      | ok y =>
      obtain ⟨n1, q1, r1⟩ := y
      rw [e1] at k
      intro v1 H1 k1 h1 l1 g1 t1
      dsimp only at k h1 l1 g1 t1
      subst g1
      have K1 : Keep R H H1 := K0.trans k1
      have A1 := A0.step k1 h1 l1
      cases t1
      have b1 := (num_ok (x := 0) e1).2.2.1
      have c2 : ¬ n1 = 1 := by omega
      rw [if_neg c2] at k
      refine ⟨_, rfl, rfl, _, rfl, ?_⟩
      refine ite2 (fun c3 => absurd (eqv c3) (by omega)) (fun _ => ?_)
      refine ⟨_, rfl, R, _, bs, a, x, q1, _, rfl, A1, ⟨rfl, rfl⟩, ?_⟩
      cases e2 : Sh.fieldAt q1 (bs.drop q1) with
      | error e =>
        rw [e2] at k
        exact k
      | ok y =>
      obtain ⟨n2, q2, r2⟩ := y
      rw [e2] at k
      intro v2 H2 k2 h2 l2 g2 t2
      dsimp only at k h2 l2 g2 t2
      subst g2
      have K2 : Keep R H H2 := K1.trans k2
      have A2 := A1.step k2 h2 l2
      exact k _ H2 K2 h2 l2 rfl (RField.mv t2 (K1.mv h1))
    · have c' : f.two.isSome = true := by
        cases z : f.two.isSome with
        | true => rfl
        | false =>
          rw [z] at c
          exact absurd rfl c
      rw [if_pos c'] at k
      refine ⟨R, _, bs, a, x, q0, _, rfl, A0, ⟨0, 1, rfl, rfl⟩, ?_⟩
      cases e1 : Sh.numAt 0 1 Sh.ANY q0 (bs.drop q0) with
      | error e =>
        rw [e1] at k
        exact k
      | ok y =>
      obtain ⟨n1, q1, r1⟩ := y
      rw [e1] at k
      intro v1 H1 k1 h1 l1 g1 t1
      dsimp only at k h1 l1 g1 t1
      subst g1
      have K1 : Keep R H H1 := K0.trans k1
      have A1 := A0.step k1 h1 l1
      cases t1
      refine ⟨_, rfl, rfl, _, rfl, ?_⟩
      refine ite2 (fun c3 => ?_) (fun c3 => ?_)
      · have c4 : n1 = 1 := by have := eqv c3; omega
        rw [if_pos c4] at k
        exact k _ H1 K1 h1 l1 rfl rfl
      · have c4 : ¬ n1 = 1 := fun e => neqv c3 (by rw [e]; rfl)
        rw [if_neg c4] at k
        refine ⟨_, rfl, R, _, bs, a, x, q1, _, rfl, A1, ⟨rfl, rfl⟩, ?_⟩
        cases e2 : Sh.fieldAt q1 (bs.drop q1) with
        | error e =>
          rw [e2] at k
          exact k
        | ok y =>
        obtain ⟨n2, q2, r2⟩ := y
        rw [e2] at k
        intro v2 H2 k2 h2 l2 g2 t2
        dsimp only at k h2 l2 g2 t2
        subst g2
        have K2 : Keep R H H2 := K1.trans k2
        have A2 := A1.step k2 h2 l2
        exact k _ H2 K2 h2 l2 rfl (RField.mv t2 (K1.mv h1))
theorem sc_take_layer : FnScope ["reader", "field", "kind", "figure", "line", "charge", "many", "manner", "size"] ["reader", "field"] (defScope s_take_layer) := ⟨rfl, rfl, rfl, by decide +kernel, rfl, by decide +kernel, by decide +kernel⟩
theorem ok_take_layer (T : Txt K mg d) : OkD P w K mg base (L2.CX P w) 13 d.f_take_layer ["reader", "field"] (spLayer K d) := by
  obtain ⟨fd, F, B⟩ := T.k_take_layer.ex
  obtain ⟨⟨fd_Reader_take, G_Reader_take, B_Reader_take⟩, kp_Reader_take⟩ := ok_Reader_take (P := P) (w := w) (base := base) T
  obtain ⟨⟨fd_Group, G_Group, B_Group⟩, kp_Group⟩ := ok_Group_init (P := P) (w := w) (base := base) T
  obtain ⟨⟨fd_Ordinary, G_Ordinary, B_Ordinary⟩, kp_Ordinary⟩ := ok_Ordinary_init (P := P) (w := w) (base := base) T
  obtain ⟨⟨fd_take_fill, G_take_fill, B_take_fill⟩, kp_take_fill⟩ := ok_take_fill (P := P) (w := w) (base := base) T
  obtain ⟨c_LAST_CHARGE, m_LAST_CHARGE⟩ := T.nLAST_CHARGE
  obtain ⟨c_LAST_MANNER, m_LAST_MANNER⟩ := T.nLAST_MANNER
  obtain ⟨c_LAST_ORDINARY, m_LAST_ORDINARY⟩ := T.nLAST_ORDINARY
  obtain ⟨c_LAST_LINE, m_LAST_LINE⟩ := T.nLAST_LINE
  refine ⟨⟨fd, F.okX sc_take_layer (fun vs H Q E h => ?_) (fun cdv A outer s H vs Q E hr h => ?_), B⟩, F.kp⟩
  · obtain ⟨R, us, bs, a, x, p, par, rfl, _, ⟨v, f, H0, rfl, _, rfl⟩, _⟩ := h
    rfl
  · obtain ⟨R, us, bs, a, x, q0, par, rfl, A0, ⟨v, f, HF, rfl, hf, rfl⟩, k⟩ := h
    have hr_Reader_take : Room 3 _ := hr.mono (by decide)
    have hr_Group : Room 2 _ := hr.mono (by decide)
    have hr_Ordinary : Room 2 _ := hr.mono (by decide)
    have hr_take_fill : Room 11 _ := hr.mono (by decide)
    have K0 : Keep R H H := Keep.refl R H
    refine ⟨_, pss_cons (ps_set (i := 2) sc_take_layer.nd rfl (Or.inl rfl) (pe_meth (pv 0) T.kReader.cl T.kReader_take.me G_Reader_take hr_Reader_take B_Reader_take .nil passX (pa_cons pe_int (pa_cons pe_int pa_nil))))
      (pss_cons (ps_if (pt_cmpR op_eq (pv 2) pe_int (nomark _))
        (pss_cons (ps_set (i := 3) sc_take_layer.nd rfl (Or.inl rfl) (pe_meth (pv 0) T.kReader.cl T.kReader_take.me G_Reader_take hr_Reader_take B_Reader_take .nil passX (pa_cons pe_int (pa_cons (pgi m_LAST_ORDINARY) pa_nil))))
      (pss_cons (ps_set (i := 4) sc_take_layer.nd rfl (Or.inl rfl) (pe_meth (pv 0) T.kReader.cl T.kReader_take.me G_Reader_take hr_Reader_take B_Reader_take .nil passX (pa_cons pe_int (pa_cons (pgi m_LAST_LINE) pa_nil))))
      (pss_one (ps_ret (pe_make T.kOrdinary.mak G_Ordinary hr_Ordinary rfl T.kOrdinary.gl B_Ordinary .nil pass0 (pa_cons (pv 3) (pa_cons (pv 4) (pa_cons (pe_call G_take_fill hr_take_fill rfl T.k_take_fill.gl kp_take_fill B_take_fill .nil passX (pa_cons (pv 0) (pa_cons (pv 1) pa_nil))) pa_nil))))))))
        pss_nil)
      (pss_cons (ps_set (i := 5) sc_take_layer.nd rfl (Or.inl rfl) (pe_meth (pv 0) T.kReader.cl T.kReader_take.me G_Reader_take hr_Reader_take B_Reader_take .nil passX (pa_cons pe_int (pa_cons (pgi m_LAST_CHARGE) pa_nil))))
      (pss_cons (ps_set (i := 6) sc_take_layer.nd rfl (Or.inl rfl) (pe_meth (pv 0) T.kReader.cl T.kReader_take.me G_Reader_take hr_Reader_take B_Reader_take .nil passX (pa_cons pe_int (pa_cons pe_int pa_nil))))
      (pss_cons (ps_set (i := 7) sc_take_layer.nd rfl (Or.inl rfl) (pe_meth (pv 0) T.kReader.cl T.kReader_take.me G_Reader_take hr_Reader_take B_Reader_take .nil passX (pa_cons pe_int (pa_cons (pgi m_LAST_MANNER) pa_nil))))
      (pss_cons (ps_set (i := 8) sc_take_layer.nd rfl (Or.inl rfl) (pe_meth (pv 0) T.kReader.cl T.kReader_take.me G_Reader_take hr_Reader_take B_Reader_take .nil passX (pa_cons pe_int (pa_cons pe_int pa_nil))))
      (pss_one (ps_ret (pe_make T.kGroup.mak G_Group hr_Group rfl T.kGroup.gl B_Group .nil pass0 (pa_cons (pv 5) (pa_cons (pv 6) (pa_cons (pv 7) (pa_cons (pv 8) (pa_cons (pe_call G_take_fill hr_take_fill rfl T.k_take_fill.gl kp_take_fill B_take_fill .nil passX (pa_cons (pv 0) (pa_cons (pv 1) pa_nil))) pa_nil))))))))))))), ?_⟩
    unfold Sh.layerAt at k
    refine ⟨_, rfl, R, x, _, rfl, A0.hR, lk_take, R, _, bs, a, x, q0, _, rfl, A0, ⟨0, 1, rfl, rfl⟩, ?_⟩
    cases e1 : Sh.numAt 0 1 Sh.ANY q0 (bs.drop q0) with
    | error e =>
      rw [e1] at k
      exact k
    | ok y =>
    obtain ⟨n1, q1, r1⟩ := y
    rw [e1] at k
    intro v1 H1 k1 h1 l1 g1 t1
    dsimp only at k h1 l1 g1 t1
    subst g1
    have K1 : Keep R H H1 := K0.trans k1
    have A1 := A0.step k1 h1 l1
    cases t1
    refine ⟨_, rfl, rfl, _, rfl, ?_⟩
    refine ite2 (fun c => ?_) (fun c => ?_)
    · have c' : n1 = 0 := by have := eqv c; omega
      rw [if_pos c'] at k
      refine ⟨_, rfl, R, x, _, rfl, A1.hR, lk_take, R, _, bs, a, x, q1, _, rfl, A1, ⟨0, 12, rfl, rfl⟩, ?_⟩
      cases e2 : Sh.numAt 0 12 Sh.ANY q1 (bs.drop q1) with
      | error e =>
        rw [e2] at k
        exact k
      | ok y =>
      obtain ⟨n2, q2, r2⟩ := y
      rw [e2] at k
      intro v2 H2 k2 h2 l2 g2 t2
      dsimp only at k h2 l2 g2 t2
      subst g2
      have K2 : Keep R H H2 := K1.trans k2
      have A2 := A1.step k2 h2 l2
      cases t2
      refine ⟨_, rfl, R, x, _, rfl, A2.hR, lk_take, R, _, bs, a, x, q2, _, rfl, A2, ⟨0, 5, rfl, rfl⟩, ?_⟩
      cases e3 : Sh.numAt 0 5 Sh.ANY q2 (bs.drop q2) with
      | error e =>
        rw [e3] at k
        exact k
      | ok y =>
      obtain ⟨n3, q3, r3⟩ := y
      rw [e3] at k
      intro v3 H3 k3 h3 l3 g3 t3
      dsimp only at k h3 l3 g3 t3
      subst g3
      have K3 : Keep R H H3 := K2.trans k3
      have A3 := A2.step k3 h3 l3
      cases t3
      refine ⟨_, rfl, _, rfl, _, rfl, _, rfl, R, _, bs, a, x, q3, _, rfl, A3, ⟨v, f, HF, rfl, hf.stay A0.hR K3, rfl⟩, ?_⟩
      cases e4 : Sh.fillAt f q3 (bs.drop q3) with
      | error e =>
        rw [e4] at k
        exact k
      | ok y =>
      obtain ⟨n4, q4, r4⟩ := y
      rw [e4] at k
      intro v4 H4 k4 h4 l4 g4 t4
      dsimp only at k h4 l4 g4 t4
      subst g4
      have K4 : Keep R H H4 := K3.trans k4
      have A4 := A3.step k4 h4 l4
      refine made rfl fun y dy H5 ny s5 hy => ?_
      exact k _ H5 (K4.trans (Keep.of s5)) (s5 _ _ h4) l4 rfl ⟨v4, ⟨y, dy, rfl, K4.free h4 ny, hy⟩, RFill.mv t4 ((K3.mv h3).same s5)⟩
    · have c' : ¬ n1 = 0 := fun e => neqv c (by rw [e]; rfl)
      rw [if_neg c'] at k
      refine ⟨_, rfl, R, x, _, rfl, A1.hR, lk_take, R, _, bs, a, x, q1, _, rfl, A1, ⟨0, 15, rfl, rfl⟩, ?_⟩
      cases e2 : Sh.numAt 0 15 Sh.ANY q1 (bs.drop q1) with
      | error e =>
        rw [e2] at k
        exact k
      | ok y =>
      obtain ⟨n2, q2, r2⟩ := y
      rw [e2] at k
      intro v2 H2 k2 h2 l2 g2 t2
      dsimp only at k h2 l2 g2 t2
      subst g2
      have K2 : Keep R H H2 := K1.trans k2
      have A2 := A1.step k2 h2 l2
      cases t2
      refine ⟨_, rfl, R, x, _, rfl, A2.hR, lk_take, R, _, bs, a, x, q2, _, rfl, A2, ⟨1, 10, rfl, rfl⟩, ?_⟩
      cases e3 : Sh.numAt 1 10 Sh.ANY q2 (bs.drop q2) with
      | error e =>
        rw [e3] at k
        exact k
      | ok y =>
      obtain ⟨n3, q3, r3⟩ := y
      rw [e3] at k
      intro v3 H3 k3 h3 l3 g3 t3
      dsimp only at k h3 l3 g3 t3
      subst g3
      have K3 : Keep R H H3 := K2.trans k3
      have A3 := A2.step k3 h3 l3
      cases t3
      refine ⟨_, rfl, R, x, _, rfl, A3.hR, lk_take, R, _, bs, a, x, q3, _, rfl, A3, ⟨0, 6, rfl, rfl⟩, ?_⟩
      cases e4 : Sh.numAt 0 6 Sh.ANY q3 (bs.drop q3) with
      | error e =>
        rw [e4] at k
        exact k
      | ok y =>
      obtain ⟨n4, q4, r4⟩ := y
      rw [e4] at k
      intro v4 H4 k4 h4 l4 g4 t4
      dsimp only at k h4 l4 g4 t4
      subst g4
      have K4 : Keep R H H4 := K3.trans k4
      have A4 := A3.step k4 h4 l4
      cases t4
      refine ⟨_, rfl, R, x, _, rfl, A4.hR, lk_take, R, _, bs, a, x, q4, _, rfl, A4, ⟨1, 4, rfl, rfl⟩, ?_⟩
      cases e5 : Sh.numAt 1 4 Sh.ANY q4 (bs.drop q4) with
      | error e =>
        rw [e5] at k
        exact k
      | ok y =>
      obtain ⟨n5, q5, r5⟩ := y
      rw [e5] at k
      intro v5 H5 k5 h5 l5 g5 t5
      dsimp only at k h5 l5 g5 t5
      subst g5
      have K5 : Keep R H H5 := K4.trans k5
      have A5 := A4.step k5 h5 l5
      cases t5
      refine ⟨_, rfl, _, rfl, _, rfl, _, rfl, _, rfl, _, rfl, R, _, bs, a, x, q5, _, rfl, A5, ⟨v, f, HF, rfl, hf.stay A0.hR K5, rfl⟩, ?_⟩
      cases e6 : Sh.fillAt f q5 (bs.drop q5) with
      | error e =>
        rw [e6] at k
        exact k
      | ok y =>
      obtain ⟨n6, q6, r6⟩ := y
      rw [e6] at k
      intro v6 H6 k6 h6 l6 g6 t6
      dsimp only at k h6 l6 g6 t6
      subst g6
      have K6 : Keep R H H6 := K5.trans k6
      have A6 := A5.step k6 h6 l6
      refine made rfl fun y dy H7 ny s7 hy => ?_
      exact k _ H7 (K6.trans (Keep.of s7)) (s7 _ _ h6) l6 rfl ⟨v6, ⟨y, dy, rfl, K6.free h6 ny, hy⟩, RFill.mv t6 ((K5.mv h5).same s7)⟩
end
end HC

namespace HC
open PySem PySem.Spec PyProof.Rows L2
section
variable {P : Program} {w : World} {K : PySem.W.Frag} {mg : Str → Option Value} {base : Heap} {d : Ad}
/-! ### so many things, one behind another -/
abbrev Par (α : Type) := Nat → Sh.Bytes → Except Nat (α × Nat × Sh.Bytes)
def many {α : Type} (one : Par α) : Nat → Par (List α)
  | 0, p, b => .ok ([], p, b)
  | n + 1, p, b => match one p b with
    | .error e => .error e
    | .ok x => match many one n x.2.1 x.2.2 with
      | .error e => .error e
      | .ok l => .ok (x.1 :: l.1, l.2)
theorem layers_many (f : Sh.Field) : ∀ (n p : Nat) (b : Sh.Bytes), Sh.layersFrom f n p b = many (Sh.layerAt f) n p b
  | 0, _, _ => rfl
  | n + 1, p, b => by
    unfold Sh.layersFrom many
    cases Sh.layerAt f p b with
    | error e => rfl
    | ok x =>
      simp only [layers_many f n]
      cases many (Sh.layerAt f) n x.2.1 x.2.2 <;> rfl
def markAt : Par (Nat × Nat) := fun p b => match Sh.numAt 0 127 Sh.ANY p b with
  | .error e => .error e
  | .ok g => match Sh.numAt 1 255 Sh.ANY g.2.1 g.2.2 with
    | .error e => .error e
    | .ok k => .ok ((g.1, k.1), k.2)
theorem marks_many : ∀ (n p : Nat) (b : Sh.Bytes), ShMarsh.marksFrom n p b = many markAt n p b
  | 0, _, _ => rfl
  | n + 1, p, b => by
    unfold ShMarsh.marksFrom many
    rw [show markAt p b = (match Sh.numAt 0 127 Sh.ANY p b with
      | .error e => .error e
      | .ok g => match Sh.numAt 1 255 Sh.ANY g.2.1 g.2.2 with
        | .error e => .error e
        | .ok k => .ok ((g.1, k.1), k.2)) from rfl]
    cases Sh.numAt 0 127 Sh.ANY p b with
    | error e => rfl
    | ok g =>
      dsimp only
      cases Sh.numAt 1 255 Sh.ANY g.2.1 g.2.2 with
      | error e => rfl
      | ok k =>
        simp only [marks_many n]
        cases many markAt n k.2.1 k.2.2 <;> rfl
theorem several_many (one : Par ShMarsh.Coat) : ∀ (n p : Nat) (b : Sh.Bytes), ShMarsh.several one n p b = many one n p b
  | 0, _, _ => rfl
  | n + 1, p, b => by
    unfold ShMarsh.several many
    cases one p b with
    | error e => rfl
    | ok x =>
      simp only [several_many one n]
      cases many one n x.2.1 x.2.2 <;> rfl
/-- with these ahead -/
def ahead {α : Type} (xs : List α) : Except Nat (List α × Nat × Sh.Bytes) → Except Nat (List α × Nat × Sh.Bytes)
  | .error e => .error e
  | .ok y => .ok (xs ++ y.1, y.2)
theorem ahead_nil {α : Type} (r : Except Nat (List α × Nat × Sh.Bytes)) : r = ahead [] r := by cases r <;> rfl
theorem ahead_err {α : Type} {one : Par α} {xs : List α} {m q e : Nat} {b : Sh.Bytes} (h : one q b = .error e) : ahead xs (many one (m + 1) q b) = .error e := by
  unfold many
  rw [h]
  rfl
theorem ahead_ok {α : Type} {one : Par α} {xs : List α} {m q q' : Nat} {b b' : Sh.Bytes} {y : α} (h : one q b = .ok (y, q', b')) : ahead xs (many one (m + 1) q b) = ahead (xs ++ [y]) (many one m q' b') := by
  rw [show many one (m + 1) q b = (match one q b with
    | .error e => .error e
    | .ok x => match many one m x.2.1 x.2.2 with
      | .error e => .error e
      | .ok l => .ok (x.1 :: l.1, l.2)) from rfl, h]
  dsimp only
  cases many one m q' b' with
  | error e => rfl
  | ok l =>
    show Except.ok (xs ++ y :: l.1, l.2) = Except.ok (xs ++ [y] ++ l.1, l.2)
    rw [List.append_assoc]
    rfl
/-! ### a list that grows in a loop, at l; H2 the heap ahead of the loop -/
/-- the bytes are not at l, or they are of the text -/
def Far (K : PySem.W.Frag) (bs : List UInt8) (a l : Addr) : Prop := a ≠ l ∨ ∀ H, SqL K H a (vals bs)
theorem At.far {bs : List UInt8} {a R x l : Addr} {H : Hp} {p : Nat} (A : At K d bs a R x H p) (nl : H l = none) : Far K bs a l := by
  rcases A.sq with (z | ⟨o, z⟩) | z
  · exact .inl (ne_of_none z nl)
  · exact .inl (ne_of_none z nl)
  · exact .inr fun H => .inr z
theorem At.off {bs : List UInt8} {a R x l : Addr} {H : Hp} {p : Nat} {o : HO} (A : At K d bs a R x H p) (f : Far K bs a l) (n : R ≠ l) : At K d bs a R x (upd H l o) p := by
  refine ⟨by rw [upd_ne n]; exact A.hR, ?_, A.le⟩
  rcases f with f | f
  · rcases A.sq with (z | ⟨o', z⟩) | z
    · exact .inl (.inl (by rw [upd_ne f]; exact z))
    · exact .inl (.inr ⟨o', by rw [upd_ne f]; exact z⟩)
    · exact .inr z
  · exact f _
structure Lp {α : Type} (K : PySem.W.Frag) (d : Ad) (bs : List UInt8) (a R x l : Addr) (R1 : Hp → Hp → V → α → Prop) (one : Par α) (n p : Nat) (H2 : Hp) (i : Nat) (Hc : Hp) (q : Nat) (us : List V) (xs : List α) : Prop where
  kp : ∀ b o, b ≠ R → b ≠ l → H2 b = some o → Hc b = some o
  hl : Hc l = some (.lst us)
  at_ : At K d bs a R x Hc q
  all : All2 (R1 H2 Hc) us xs
  len : us.length = i
  far : Far K bs a l
  eq : many one n p (bs.drop p) = ahead xs (many one (n - i) q (bs.drop q))
theorem Lp.start {α : Type} {bs : List UInt8} {a R x l : Addr} {R1 : Hp → Hp → V → α → Prop} {one : Par α} {n p : Nat} {H2 : Hp} (hl : H2 l = some (.lst [])) (A : At K d bs a R x H2 p) (f : Far K bs a l) : Lp K d bs a R x l R1 one n p H2 0 H2 p [] [] :=
  ⟨fun _ _ _ _ h => h, hl, A, .nil, rfl, f, ahead_nil _⟩
/-- the second start: the reader has gone on since the list was made -/
theorem Lp.ne {α : Type} {bs : List UInt8} {a R x l : Addr} {R1 : Hp → Hp → V → α → Prop} {one : Par α} {n p i q : Nat} {H2 Hc : Hp} {us : List V} {xs : List α} (L : Lp K d bs a R x l R1 one n p H2 i Hc q us xs) : l ≠ R := ne_of L.hl L.at_.hR (by intro z; cases z)
theorem Lp.free {α : Type} {bs : List UInt8} {a R x l : Addr} {R1 : Hp → Hp → V → α → Prop} {one : Par α} {n p i q : Nat} {H2 Hc : Hp} {us : List V} {xs : List α} (L : Lp K d bs a R x l R1 one n p H2 i Hc q us xs) {b : Addr} (h : Hc b = none) : H2 b = none := by
  cases e : H2 b with
  | none => rfl
  | some o =>
    have h1 : b ≠ R := fun z => by rw [z, L.at_.hR] at h; cases h
    have h2 : b ≠ l := fun z => by rw [z, L.hl] at h; cases h
    rw [L.kp b o h1 h2 e] at h
    cases h
theorem Lp.turn {α : Type} {bs : List UInt8} {a R x l : Addr} {R1 : Hp → Hp → V → α → Prop} (mv : ∀ (H0 H H0' H' : Hp) (v : V) (y : α), Mv H0 H H0' H' → R1 H0 H v y → R1 H0' H' v y) {one : Par α} {n p i q q' : Nat} {H2 Hc H' : Hp} {us : List V} {xs : List α} {o oR : HO}
    (h2R : H2 R = some oR) (h2l : H2 l = some o) (L : Lp K d bs a R x l R1 one n p H2 i Hc q us xs) (hi : i < n) {y : α} {v : V} (e : one q (bs.drop q) = .ok (y, q', bs.drop q')) (k : Keep R Hc H') (hR : H' R = some (rdr d x a q')) (hq : q' ≤ bs.length) (r : R1 Hc H' v y) :
    Lp K d bs a R x l R1 one n p H2 (i + 1) (upd H' l (.lst (us ++ [v]))) q' (us ++ [v]) (xs ++ [y]) := by
  have nlR := L.ne
  have old : Mv H2 Hc H2 (upd H' l (.lst (us ++ [v]))) := ⟨fun _ h => h, fun b o' n h => by
    rw [upd_ne (fun z => by rw [z, h2l] at n; cases n)]
    exact k b o' (fun z => by rw [z, h2R] at n; cases n) h⟩
  have new : Mv Hc H' H2 (upd H' l (.lst (us ++ [v]))) := ⟨fun b h => L.free h, fun b o' n h => by
    rw [upd_ne (fun z => by rw [z, L.hl] at n; cases n)]
    exact h⟩
  refine ⟨fun b o' h1 h2 h => ?_, upd_same, ?_, ?_, ?_, L.far, ?_⟩
  · rw [upd_ne h2]
    exact k b o' h1 (L.kp b o' h1 h2 h)
  · exact (L.at_.step k hR hq).off L.far nlR.symm
  · exact (L.all.mono fun v' y' z => mv _ _ _ _ _ _ old z).snoc (mv _ _ _ _ _ _ new r)
  · rw [List.length_append, L.len]
    rfl
  · have e1 : n - i = (n - (i + 1)) + 1 := by omega
    rw [L.eq, e1, ahead_ok e]
/-! ### arms -/
abbrev spArms (K : PySem.W.Frag) (d : Ad) : Sp := spRd K d (pre0 ShMarsh.armsFrom) (RArms d)
theorem sc_take_arms : FnScope ["reader", "field", "layers", "k"] ["reader"] (defScope s_take_arms) := ⟨rfl, rfl, rfl, by decide +kernel, rfl, by decide +kernel, by decide +kernel⟩
theorem ok_take_arms (T : Txt K mg d) : OkD P w K mg base (L2.CX P w) 15 d.f_take_arms ["reader"] (spArms K d) := by
  obtain ⟨fd, F, B⟩ := T.k_take_arms.ex
  obtain ⟨⟨fd_take_field, G_take_field, B_take_field⟩, kp_take_field⟩ := ok_take_field (P := P) (w := w) (base := base) T
  obtain ⟨⟨fd_Arms, G_Arms, B_Arms⟩, kp_Arms⟩ := ok_Arms_init (P := P) (w := w) (base := base) T
  obtain ⟨⟨fd_Reader_take, G_Reader_take, B_Reader_take⟩, kp_Reader_take⟩ := ok_Reader_take (P := P) (w := w) (base := base) T
  obtain ⟨⟨fd_take_layer, G_take_layer, B_take_layer⟩, kp_take_layer⟩ := ok_take_layer (P := P) (w := w) (base := base) T
  obtain ⟨c_MOST_LAYERS, m_MOST_LAYERS⟩ := T.nMOST_LAYERS
  refine ⟨⟨fd, F.okX sc_take_arms (fun vs H Q E h => ?_) (fun cdv A outer s H vs Q E hr h => ?_), B⟩, F.kp⟩
  · obtain ⟨R, us, bs, a, x, p, par, rfl, _, ⟨rfl, rfl⟩, _⟩ := h
    rfl
  · obtain ⟨R, us, bs, a, x, q0, par, rfl, A0, ⟨rfl, rfl⟩, k⟩ := h
    have hr_take_field : Room 9 _ := hr.mono (by decide)
    have hr_Arms : Room 2 _ := hr.mono (by decide)
    have hr_Reader_take : Room 3 _ := hr.mono (by decide)
    have hr_take_layer : Room 13 _ := hr.mono (by decide)
    have K0 : Keep R H H := Keep.refl R H
    refine ⟨_, pss_cons (ps_set (i := 1) sc_take_arms.nd rfl (Or.inl rfl) (pe_call G_take_field hr_take_field rfl T.k_take_field.gl kp_take_field B_take_field .nil passX (pa_cons (pv 0) pa_nil)))
      (pss_cons (ps_set (i := 2) sc_take_arms.nd rfl (Or.inl rfl) (pe_lst pa_nil))
      (pss_cons (ps_for ownX rfl (pi_range1 rfl T.b_range (pa_cons (pe_meth (pv 0) T.kReader.cl T.kReader_take.me G_Reader_take hr_Reader_take B_Reader_take .nil passX (pa_cons pe_int (pa_cons (pgi m_MOST_LAYERS) pa_nil))) pa_nil)) (pg_name (i := 3) sc_take_arms.nd rfl (Or.inl rfl))
        (pss_one (ps_expr (pe_bm PySem.F.plainAttrs_list PySem.F.slot_list_append PySem.F.type_list_append mt_append (pv 2) (pa_cons (pe_call G_take_layer hr_take_layer rfl T.k_take_layer.gl kp_take_layer B_take_layer .nil passX (pa_cons (pv 0) (pa_cons (pv 1) pa_nil))) pa_nil)))))
      (pss_one (ps_ret (pe_make T.kArms.mak G_Arms hr_Arms rfl T.kArms.gl B_Arms .nil pass0 (pa_cons (pv 1) (pa_cons (pv 2) pa_nil))))))), ?_⟩
    unfold ShMarsh.armsFrom at k
    refine ⟨_, rfl, R, _, bs, a, x, q0, _, rfl, A0, ⟨rfl, rfl⟩, ?_⟩
    cases e1 : Sh.fieldAt q0 (bs.drop q0) with
    | error e =>
      rw [e1] at k
      exact k
    | ok y =>
    obtain ⟨n1, q1, r1⟩ := y
    rw [e1] at k
    intro v1 H1 k1 h1 l1 g1 t1
    dsimp only at k h1 l1 g1 t1
    subst g1
    have K1 : Keep R H H1 := K0.trans k1
    have A1 := A0.step k1 h1 l1
    refine ⟨Nat.zero_le _, fun l nl => ?_⟩
    have nlR : l ≠ R := (ne_of_none h1 nl).symm
    have A2 : At K d bs a R x (upd H1 l (.lst [])) q1 := A1.off (A1.far nl) nlR.symm
    have far := A1.far nl
    have nlH : H l = none := K1.free h1 nl
    have K2 : Keep R H (upd H1 l (.lst [])) := fun b o nb hb => by
      rw [upd_ne (ne_of_none hb nlH)]
      exact K1 b o nb hb
    refine ⟨_, rfl, R, x, _, rfl, A2.hR, lk_take, R, _, bs, a, x, q1, _, rfl, A2, ⟨0, Sh.MOST, rfl, rfl⟩, ?_⟩
    cases e3 : Sh.numAt 0 Sh.MOST Sh.ANY q1 (bs.drop q1) with
    | error e =>
      rw [e3] at k
      exact k
    | ok y =>
    obtain ⟨n3, q3, r3⟩ := y
    rw [e3] at k
    have b3 := (num_ok (x := 0) e3).2.2.1
    have b4 : n3 ≤ 8 := b3
    intro v3 H3 k3 h3 l3 g3 t3
    dsimp only at k h3 l3 g3 t3
    subst g3
    cases t3
    have A3 := A2.step k3 h3 l3
    have h3l : H3 l = some (.lst []) := k3 l _ nlR upd_same
    have K3 : Keep R H H3 := K2.trans k3
    have t3 : RField d H H3 v1 n1 := RField.mv t1 ⟨fun _ h => h, fun b o n h => k3 b o (fun z => by rw [z, A0.hR] at n; cases n) (by rw [upd_ne (ne_of_none h nl)]; exact h)⟩
    rw [layers_many] at k
    refine ⟨_, rfl, by omega, by omega, ?_⟩
    refine for_range (lo := 0) (n := n3) (fun i σ Hc => ∃ (q : Nat) (us : List V) (xs : List Sh.Layer) (v : Option V), σ = [some (.ref R), some v1, some (.ref l), v] ∧ Lp K d bs a R x l (RLayer d) (Sh.layerAt n1) n3 q3 H3 i Hc q us xs)
      ⟨q3, [], [], none, rfl, Lp.start h3l A3 far⟩ ?_ ?_
    · rintro i σ Hc hi ⟨q, us, xs, v, rfl, L⟩
      have fc : RField d H Hc v1 n1 := RField.ins t3 fun b C dx fs n h => L.kp b _ (fun z => by rw [z, A0.hR] at n; cases n) (fun z => by rw [z, h3l] at h; cases h) h
      refine ⟨_, rfl, .inl ⟨rfl, _, SqL.of L.hl⟩, _, rfl, _, rfl, R, _, bs, a, x, q, _, rfl, L.at_, ⟨v1, n1, H, rfl, fc, rfl⟩, ?_⟩
      cases e5 : Sh.layerAt n1 q (bs.drop q) with
      | error e =>
        have e6 : n3 - i = (n3 - (i + 1)) + 1 := by omega
        rw [L.eq, e6, ahead_err e5] at k
        exact k
      | ok y =>
        obtain ⟨n5, q5, r5⟩ := y
        intro v5 H5 k5 h5 l5 g5 t5
        dsimp only at h5 l5 g5 t5
        subst g5
        refine ⟨l, us, v5, rfl, rfl, k5 l _ L.ne L.hl, ?_, ?_⟩
        · rw [L.len]
          exact Nat.lt_of_lt_of_le hi (Nat.le_trans b4 (by decide))
        · exact ⟨q5, _, _, _, rfl, Lp.turn (R1 := RLayer d) (fun _ _ _ _ _ _ m z => RLayer.mv z m) h3 h3l L hi e5 k5 h5 l5 t5⟩
    · rintro σ Hc ⟨q, us, xs, v, rfl, L⟩
      refine ⟨_, rfl, _, rfl, ?_⟩
      refine made rfl fun y dy H7 ny s7 hy => ?_
      have ee : many (Sh.layerAt n1) n3 q3 (bs.drop q3) = .ok (xs, q, bs.drop q) := by
        rw [L.eq, Nat.sub_self]
        show Except.ok (xs ++ [], q, bs.drop q) = _
        rw [List.append_nil]
      rw [ee] at k
      have kc : Keep R H Hc := fun b o nb hb => L.kp b o nb (ne_of_none hb nlH) (K3 b o nb hb)
      have fc : RField d H Hc v1 n1 := RField.ins t3 fun b C dx fs n h => L.kp b _ (fun z => by rw [z, A0.hR] at n; cases n) (fun z => by rw [z, h3l] at h; cases h) h
      refine k _ H7 (kc.trans (Keep.of s7)) (s7 _ _ L.at_.hR) L.at_.le rfl ⟨v1, l, us, ⟨y, dy, rfl, kc.free L.at_.hR ny, hy⟩, fc.mv (Mv.here s7), ⟨nlH, s7 _ _ L.hl⟩, ?_⟩
      exact L.all.mono fun _ _ z => RLayer.mv z ⟨fun b h => K3.free h3 h, fun b o _ h => s7 b o h⟩
end
end HC

namespace HC
open PySem PySem.Spec PyProof.Rows L2
section
variable {P : Program} {w : World} {K : PySem.W.Frag} {mg : Str → Option Value} {base : Heap} {d : Ad}
theorem Mv.keep {R : Addr} {H0 H H0' H' H2 : Hp} {o : HO} (m : Mv H0 H H0' H') (hR : H0 R = some o) (k : Keep R H' H2) : Mv H0 H H0' H2 :=
  ⟨m.nw, fun b u n h => k b u (fun z => by rw [z, hR] at n; cases n) (m.st b u n h)⟩
theorem Mv.id (H0 H : Hp) : Mv H0 H H0 H := ⟨fun _ h => h, fun _ _ _ h => h⟩
/-! ### marks -/
def marksAt : Par (List (Nat × Nat)) := fun p b => match Sh.numAt 0 ShMarsh.MARKS Sh.ANY p b with
  | .error e => .error e
  | .ok n => ShMarsh.marksFrom n.1 n.2.1 n.2.2
abbrev spMarks (K : PySem.W.Frag) (d : Ad) : Sp := spRd K d (pre0 marksAt) (RMarks d)
theorem sc_take_marks : FnScope ["reader", "marks", "slot", "g"] ["reader"] (defScope s_take_marks) := ⟨rfl, rfl, rfl, by decide +kernel, rfl, by decide +kernel, by decide +kernel⟩
theorem ok_take_marks (T : Txt K mg d) : OkD P w K mg base (L2.CX P w) 7 d.f_take_marks ["reader"] (spMarks K d) := by
  obtain ⟨fd, F, B⟩ := T.k_take_marks.ex
  obtain ⟨⟨fd_Reader_take, G_Reader_take, B_Reader_take⟩, kp_Reader_take⟩ := ok_Reader_take (P := P) (w := w) (base := base) T
  obtain ⟨⟨fd_Mark, G_Mark, B_Mark⟩, kp_Mark⟩ := ok_Mark_init (P := P) (w := w) (base := base) T
  obtain ⟨c_MOST_MARKS, m_MOST_MARKS⟩ := T.nMOST_MARKS
  obtain ⟨c_MOST_G, m_MOST_G⟩ := T.nMOST_G
  obtain ⟨c_LEAST_K, m_LEAST_K⟩ := T.nLEAST_K
  obtain ⟨c_MOST_K, m_MOST_K⟩ := T.nMOST_K
  refine ⟨⟨fd, F.okX sc_take_marks (fun vs H Q E h => ?_) (fun cdv A outer s H vs Q E hr h => ?_), B⟩, F.kp⟩
  · obtain ⟨R, us, bs, a, x, p, par, rfl, _, ⟨rfl, rfl⟩, _⟩ := h
    rfl
  · obtain ⟨R, us, bs, a, x, q0, par, rfl, A0, ⟨rfl, rfl⟩, k⟩ := h
    have hr_Reader_take : Room 3 _ := hr.mono (by decide)
    have hr_Mark : Room 2 _ := hr.mono (by decide)
    have K0 : Keep R H H := Keep.refl R H
    refine ⟨_, pss_cons (ps_set (i := 1) sc_take_marks.nd rfl (Or.inl rfl) (pe_lst pa_nil))
      (pss_cons (ps_for ownX rfl (pi_range1 rfl T.b_range (pa_cons (pe_meth (pv 0) T.kReader.cl T.kReader_take.me G_Reader_take hr_Reader_take B_Reader_take .nil passX (pa_cons pe_int (pa_cons (pgi m_MOST_MARKS) pa_nil))) pa_nil)) (pg_name (i := 2) sc_take_marks.nd rfl (Or.inl rfl))
        (pss_cons (ps_set (i := 3) sc_take_marks.nd rfl (Or.inl rfl) (pe_meth (pv 0) T.kReader.cl T.kReader_take.me G_Reader_take hr_Reader_take B_Reader_take .nil passX (pa_cons pe_int (pa_cons (pgi m_MOST_G) pa_nil))))
      (pss_one (ps_expr (pe_bm PySem.F.plainAttrs_list PySem.F.slot_list_append PySem.F.type_list_append mt_append (pv 1) (pa_cons (pe_make T.kMark.mak G_Mark hr_Mark rfl T.kMark.gl B_Mark .nil pass0 (pa_cons (pv 3) (pa_cons (pe_meth (pv 0) T.kReader.cl T.kReader_take.me G_Reader_take hr_Reader_take B_Reader_take .nil passX (pa_cons (pgi m_LEAST_K) (pa_cons (pgi m_MOST_K) pa_nil))) pa_nil))) pa_nil))))))
      (pss_one (ps_ret (pv 1)))), ?_⟩
    unfold marksAt at k
    refine ⟨Nat.zero_le _, fun l nl => ?_⟩
    have nlR : l ≠ R := (ne_of_none A0.hR nl).symm
    have far := A0.far nl
    have A2 : At K d bs a R x (upd H l (.lst [])) q0 := A0.off far nlR.symm
    have K2 : Keep R H (upd H l (.lst [])) := fun b o nb hb => by
      rw [upd_ne (ne_of_none hb nl)]
      exact hb
    refine ⟨_, rfl, R, x, _, rfl, A2.hR, lk_take, R, _, bs, a, x, q0, _, rfl, A2, ⟨0, ShMarsh.MARKS, rfl, rfl⟩, ?_⟩
    cases e3 : Sh.numAt 0 ShMarsh.MARKS Sh.ANY q0 (bs.drop q0) with
    | error e =>
      rw [e3] at k
      exact k
    | ok y =>
    obtain ⟨n3, q3, r3⟩ := y
    rw [e3] at k
    have b3 := (num_ok (x := 0) e3).2.2.1
    have b4 : n3 ≤ 60 := b3
    intro v3 H3 k3 h3 l3 g3 t3
    dsimp only at k h3 l3 g3 t3
    subst g3
    cases t3
    have A3 := A2.step k3 h3 l3
    have h3l : H3 l = some (.lst []) := k3 l _ nlR upd_same
    have K3 : Keep R H H3 := K2.trans k3
    rw [marks_many] at k
    refine ⟨_, rfl, by omega, by omega, ?_⟩
    refine for_range (lo := 0) (n := n3) (fun i σ Hc => ∃ (q : Nat) (us : List V) (xs : List (Nat × Nat)) (v g : Option V), σ = [some (.ref R), some (.ref l), v, g] ∧ Lp K d bs a R x l (RMark d) markAt n3 q3 H3 i Hc q us xs)
      ⟨q3, [], [], none, none, rfl, Lp.start h3l A3 far⟩ ?_ ?_
    · rintro i σ Hc hi ⟨q, us, xs, v, g, rfl, L⟩
      have e6 : n3 - i = (n3 - (i + 1)) + 1 := by omega
      refine ⟨_, rfl, R, x, _, rfl, L.at_.hR, lk_take, R, _, bs, a, x, q, _, rfl, L.at_, ⟨0, 127, rfl, rfl⟩, ?_⟩
      cases e4 : Sh.numAt 0 127 Sh.ANY q (bs.drop q) with
      | error e =>
        have e5 : markAt q (bs.drop q) = .error e := by
          unfold markAt
          rw [e4]
        rw [L.eq, e6, ahead_err e5] at k
        exact k
      | ok y =>
      obtain ⟨n4, q4, r4⟩ := y
      intro v4 H4 k4 h4 l4 g4 t4
      dsimp only at h4 l4 g4 t4
      subst g4
      cases t4
      have A4 := L.at_.step k4 h4 l4
      refine ⟨_, rfl, .inl ⟨rfl, _, SqL.of (k4 l _ L.ne L.hl)⟩, _, rfl, _, rfl, R, x, _, rfl, A4.hR, lk_take, R, _, bs, a, x, q4, _, rfl, A4, ⟨1, 255, rfl, rfl⟩, ?_⟩
      cases e7 : Sh.numAt 1 255 Sh.ANY q4 (bs.drop q4) with
      | error e =>
        have e5 : markAt q (bs.drop q) = .error e := by
          unfold markAt
          rw [e4]
          dsimp only
          rw [e7]
        rw [L.eq, e6, ahead_err e5] at k
        exact k
      | ok y =>
      obtain ⟨n7, q7, r7⟩ := y
      intro v7 H7 k7 h7 l7 g7 t7
      dsimp only at h7 l7 g7 t7
      subst g7
      cases t7
      have e5 : markAt q (bs.drop q) = .ok ((n4, n7), q7, bs.drop q7) := by
        unfold markAt
        rw [e4]
        dsimp only
        rw [e7]
      have K7 : Keep R Hc H7 := k4.trans k7
      refine made rfl fun y dy H8 ny s8 hy => ?_
      have K8 : Keep R Hc H8 := K7.trans (Keep.of s8)
      refine ⟨l, us, _, rfl, rfl, K8 l _ L.ne L.hl, ?_, ?_⟩
      · rw [L.len]
        exact Nat.lt_of_lt_of_le hi (Nat.le_trans b4 (by decide))
      · exact ⟨q7, _, _, _, _, rfl, Lp.turn (R1 := RMark d) (fun _ _ _ _ _ _ m z => RMark.mv z m) h3 h3l L hi e5 K8 (s8 _ _ h7) l7 ⟨y, dy, rfl, K7.free h7 ny, hy⟩⟩
    · rintro σ Hc ⟨q, us, xs, v, g, rfl, L⟩
      have ee : many markAt n3 q3 (bs.drop q3) = .ok (xs, q, bs.drop q) := by
        rw [L.eq, Nat.sub_self]
        show Except.ok (xs ++ [], q, bs.drop q) = _
        rw [List.append_nil]
      rw [ee] at k
      have kc : Keep R H Hc := fun b o nb hb => L.kp b o nb (ne_of_none hb nl) (K3 b o nb hb)
      refine ⟨_, rfl, k _ Hc kc L.at_.hR L.at_.le rfl ⟨l, us, rfl, ⟨nl, L.hl⟩, ?_⟩⟩
      exact L.all.mono fun _ _ z => RMark.mv z ⟨fun b h => K3.free h3 h, fun b o _ h => h⟩
/-! ### marked arms -/
abbrev spMarked (K : PySem.W.Frag) (d : Ad) : Sp := spRd K d (pre0 ShMarsh.markedFrom) (RMarked d)
theorem sc_take_marked : FnScope ["reader", "arms", "canton"] ["reader"] (defScope s_take_marked) := ⟨rfl, rfl, rfl, by decide +kernel, rfl, by decide +kernel, by decide +kernel⟩
theorem ok_take_marked (T : Txt K mg d) : OkD P w K mg base (L2.CX P w) 17 d.f_take_marked ["reader"] (spMarked K d) := by
  obtain ⟨fd, F, B⟩ := T.k_take_marked.ex
  obtain ⟨⟨fd_take_arms, G_take_arms, B_take_arms⟩, kp_take_arms⟩ := ok_take_arms (P := P) (w := w) (base := base) T
  obtain ⟨⟨fd_Marked, G_Marked, B_Marked⟩, kp_Marked⟩ := ok_Marked_init (P := P) (w := w) (base := base) T
  obtain ⟨⟨fd_Reader_take, G_Reader_take, B_Reader_take⟩, kp_Reader_take⟩ := ok_Reader_take (P := P) (w := w) (base := base) T
  obtain ⟨⟨fd_take_marks, G_take_marks, B_take_marks⟩, kp_take_marks⟩ := ok_take_marks (P := P) (w := w) (base := base) T
  refine ⟨⟨fd, F.okX sc_take_marked (fun vs H Q E h => ?_) (fun cdv A outer s H vs Q E hr h => ?_), B⟩, F.kp⟩
  · obtain ⟨R, us, bs, a, x, p, par, rfl, _, ⟨rfl, rfl⟩, _⟩ := h
    rfl
  · obtain ⟨R, us, bs, a, x, q0, par, rfl, A0, ⟨rfl, rfl⟩, k⟩ := h
    have hr_take_arms : Room 15 _ := hr.mono (by decide)
    have hr_Marked : Room 2 _ := hr.mono (by decide)
    have hr_Reader_take : Room 3 _ := hr.mono (by decide)
    have hr_take_marks : Room 7 _ := hr.mono (by decide)
    have K0 : Keep R H H := Keep.refl R H
    refine ⟨_, pss_cons (ps_set (i := 1) sc_take_marked.nd rfl (Or.inl rfl) (pe_call G_take_arms hr_take_arms rfl T.k_take_arms.gl kp_take_arms B_take_arms .nil passX (pa_cons (pv 0) pa_nil)))
      (pss_cons (ps_set (i := 2) sc_take_marked.nd rfl (Or.inl rfl) pe_non)
      (pss_cons (ps_if (pt_cmpR op_eq (pe_meth (pv 0) T.kReader.cl T.kReader_take.me G_Reader_take hr_Reader_take B_Reader_take .nil passX (pa_cons pe_int (pa_cons pe_int pa_nil))) pe_int (nomark _))
        (pss_one (ps_set (i := 2) sc_take_marked.nd rfl (Or.inl rfl) (pe_call G_take_arms hr_take_arms rfl T.k_take_arms.gl kp_take_arms B_take_arms .nil passX (pa_cons (pv 0) pa_nil))))
        pss_nil)
      (pss_one (ps_ret (pe_make T.kMarked.mak G_Marked hr_Marked rfl T.kMarked.gl B_Marked .nil pass0 (pa_cons (pv 1) (pa_cons (pv 2) (pa_cons (pe_call G_take_marks hr_take_marks rfl T.k_take_marks.gl kp_take_marks B_take_marks .nil passX (pa_cons (pv 0) pa_nil)) pa_nil)))))))), ?_⟩
    unfold ShMarsh.markedFrom at k
    refine ⟨_, rfl, R, _, bs, a, x, q0, _, rfl, A0, ⟨rfl, rfl⟩, ?_⟩
    cases e1 : ShMarsh.armsFrom q0 (bs.drop q0) with
    | error e =>
      rw [e1] at k
      exact k
    | ok y =>
    obtain ⟨n1, q1, r1⟩ := y
    rw [e1] at k
    intro v1 H1 k1 h1 l1 g1 t1
    dsimp only at k h1 l1 g1 t1
    subst g1
    have K1 : Keep R H H1 := K0.trans k1
    have A1 := A0.step k1 h1 l1
    refine ⟨_, rfl, R, x, _, rfl, A1.hR, lk_take, R, _, bs, a, x, q1, _, rfl, A1, ⟨0, 1, rfl, rfl⟩, ?_⟩
    cases e2 : Sh.numAt 0 1 Sh.ANY q1 (bs.drop q1) with
    | error e =>
      rw [e2] at k
      exact k
    | ok y =>
    obtain ⟨n2, q2, r2⟩ := y
    rw [e2] at k
    intro v2 H2 k2 h2 l2 g2 t2
    dsimp only at k h2 l2 g2 t2
    subst g2
    have K2 : Keep R H H2 := K1.trans k2
    have A2 := A1.step k2 h2 l2
    cases t2
    refine ⟨rfl, _, rfl, ?_⟩
    refine ite2 (fun c => ?_) (fun c => ?_)
    · have c' : ¬ n2 = 0 := by have := eqv c; omega
      rw [if_neg c'] at k
      refine ⟨_, rfl, R, _, bs, a, x, q2, _, rfl, A2, ⟨rfl, rfl⟩, ?_⟩
      cases e3 : ShMarsh.armsFrom q2 (bs.drop q2) with
      | error e =>
        rw [e3] at k
        exact k
      | ok y =>
      obtain ⟨n3, q3, r3⟩ := y
      rw [e3] at k
      intro v3 H3 k3 h3 l3 g3 t3
      dsimp only [Except.map] at k h3 l3 g3 t3
      subst g3
      have K3 : Keep R H H3 := K2.trans k3
      have A3 := A2.step k3 h3 l3
      refine ⟨_, rfl, _, rfl, _, rfl, R, _, bs, a, x, q3, _, rfl, A3, ⟨rfl, rfl⟩, ?_⟩
      cases e4 : marksAt q3 (bs.drop q3) with
      | error e =>
        unfold marksAt at e4
        cases e5 : Sh.numAt 0 ShMarsh.MARKS Sh.ANY q3 (bs.drop q3) with
        | error e' =>
          rw [e5] at e4 k
          cases e4
          exact k
        | ok n =>
          rw [e5] at e4 k
          dsimp only at e4 k
          rw [e4] at k
          exact k
      | ok y =>
      obtain ⟨n4, q4, r4⟩ := y
      intro v4 H4 k4 h4 l4 g4 t4
      dsimp only at h4 l4 g4 t4
      subst g4
      have K4 : Keep R H H4 := K3.trans k4
      refine made rfl fun y dy H5 ny s5 hy => ?_
      have k' : Give d bs a R x (RMarked d) H Q E (.ok (⟨n1, some n3, n4⟩, q4, bs.drop q4)) := by
        unfold marksAt at e4
        cases e5 : Sh.numAt 0 ShMarsh.MARKS Sh.ANY q3 (bs.drop q3) with
        | error e' =>
          rw [e5] at e4
          cases e4
        | ok n =>
          rw [e5] at e4 k
          dsimp only at e4 k
          rw [e4] at k
          exact k
      refine k' _ H5 (K4.trans (Keep.of s5)) (s5 _ _ h4) l4 rfl ⟨v1, v3, v4, ⟨y, dy, rfl, K4.free h4 ny, hy⟩, ?_, ?_, ?_⟩
      · exact RArms.mv t1 ((((Mv.id H H1).keep A0.hR k2).keep A0.hR k3).keep A0.hR (k4.trans (Keep.of s5)))
      · exact RArms.mv t3 (((K2.mv h2).keep h2 k4).same s5)
      · exact RMarks.mv t4 ((K3.mv h3).same s5)
    · have b2 := (num_ok (x := 0) e2).2.2.1
      have c' : n2 = 0 := by
        have := neqv c
        omega
      rw [if_pos c'] at k
      dsimp only at k
      refine ⟨_, rfl, _, rfl, _, rfl, R, _, bs, a, x, q2, _, rfl, A2, ⟨rfl, rfl⟩, ?_⟩
      cases e4 : marksAt q2 (bs.drop q2) with
      | error e =>
        unfold marksAt at e4
        cases e5 : Sh.numAt 0 ShMarsh.MARKS Sh.ANY q2 (bs.drop q2) with
        | error e' =>
          rw [e5] at e4 k
          cases e4
          exact k
        | ok n =>
          rw [e5] at e4 k
          dsimp only at e4 k
          rw [e4] at k
          exact k
      | ok y =>
      obtain ⟨n4, q4, r4⟩ := y
      intro v4 H4 k4 h4 l4 g4 t4
      dsimp only at h4 l4 g4 t4
      subst g4
      have K4 : Keep R H H4 := K2.trans k4
      refine made rfl fun y dy H5 ny s5 hy => ?_
      have k' : Give d bs a R x (RMarked d) H Q E (.ok (⟨n1, none, n4⟩, q4, bs.drop q4)) := by
        unfold marksAt at e4
        cases e5 : Sh.numAt 0 ShMarsh.MARKS Sh.ANY q2 (bs.drop q2) with
        | error e' =>
          rw [e5] at e4
          cases e4
        | ok n =>
          rw [e5] at e4 k
          dsimp only at e4 k
          rw [e4] at k
          exact k
      refine k' _ H5 (K4.trans (Keep.of s5)) (s5 _ _ h4) l4 rfl ⟨v1, .non, v4, ⟨y, dy, rfl, K4.free h4 ny, hy⟩, ?_, rfl, ?_⟩
      · exact RArms.mv t1 (((Mv.id H H1).keep A0.hR k2).keep A0.hR (k4.trans (Keep.of s5)))
      · exact RMarks.mv t4 ((K2.mv h2).same s5)
end
end HC

namespace HC
open PySem PySem.Spec PyProof.Rows L2
section
variable {P : Program} {w : World} {K : PySem.W.Frag} {mg : Str → Option Value} {base : Heap} {d : Ad}
/-! ### coats -/
/-- a coat n deep at most, at the depth 5 - n -/
def preCoat (n : Nat) (_ : Hp) (us : List V) (par : Par ShMarsh.Coat) : Prop := ∃ z : Int, us = [.int z] ∧ z = 5 - (n : Int) ∧ 0 < n ∧ par = ShMarsh.coatFrom n
abbrev spCoat (K : PySem.W.Frag) (d : Ad) (n : Nat) : Sp := spRd K d (preCoat n) (RC d)
def quartAt (n : Nat) : Par ShMarsh.Coat := fun p b => match Sh.numAt 2 ShMarsh.QUARTERS Sh.ANY p b with
  | .error e => .error e
  | .ok m => match ShMarsh.several (ShMarsh.coatFrom n) m.1 m.2.1 m.2.2 with
    | .error e => .error e
    | .ok l => .ok (.quarters l.1, l.2)
def preQuart (n : Nat) (_ : Hp) (us : List V) (par : Par ShMarsh.Coat) : Prop := ∃ z : Int, us = [.int z] ∧ z + 1 = 5 - (n : Int) ∧ 0 < n ∧ par = quartAt n
abbrev spQuart (K : PySem.W.Frag) (d : Ad) (n : Nat) : Sp := spRd K d (preQuart n) (RC d)
def lc : Nat → Nat
  | 0 => 18
  | n + 1 => lc n + 1 + 1
theorem lc_le : ∀ n, 18 ≤ lc n
  | 0 => Nat.le_refl _
  | n + 1 => by
    have := lc_le n
    show 18 ≤ lc n + 1 + 1
    omega
theorem sc_take_quarterly : FnScope ["reader", "depth", "coats", "k"] ["reader", "depth"] (defScope s_take_quarterly) := ⟨rfl, rfl, rfl, by decide +kernel, rfl, by decide +kernel, by decide +kernel⟩
theorem ok_take_quarterly (T : Txt K mg d) {n : Nat} (hC : OkD P w K mg base (L2.CX P w) (lc n) d.f_take_coat ["reader", "depth"] (spCoat K d n)) : OkD P w K mg base (L2.CX P w) (lc n + 1) d.f_take_quarterly ["reader", "depth"] (spQuart K d n) := by
  obtain ⟨fd, F, B⟩ := T.k_take_quarterly.ex
  obtain ⟨⟨fd_take_coat, G_take_coat, B_take_coat⟩, kp_take_coat⟩ := hC
  obtain ⟨⟨fd_Reader_take, G_Reader_take, B_Reader_take⟩, kp_Reader_take⟩ := ok_Reader_take (P := P) (w := w) (base := base) T
  obtain ⟨⟨fd_Quarterly, G_Quarterly, B_Quarterly⟩, kp_Quarterly⟩ := ok_Quarterly_init (P := P) (w := w) (base := base) T
  obtain ⟨c_FEWEST_QUARTERS, m_FEWEST_QUARTERS⟩ := T.nFEWEST_QUARTERS
  obtain ⟨c_MOST_QUARTERS, m_MOST_QUARTERS⟩ := T.nMOST_QUARTERS
  refine ⟨⟨fd, F.okX sc_take_quarterly (fun vs H Q E h => ?_) (fun cdv A outer s H vs Q E hr h => ?_), B⟩, F.kp⟩
  · obtain ⟨R, us, bs, a, x, p, par, rfl, _, ⟨z, rfl, _⟩, _⟩ := h
    rfl
  · obtain ⟨R, us, bs, a, x, q0, par, rfl, A0, ⟨z, rfl, hz, hn, rfl⟩, k⟩ := h
    have hlc := lc_le n
    have hr_take_coat : Room (lc n) _ := hr
    have hr_Reader_take : Room 3 _ := hr.mono (by omega)
    have hr_Quarterly : Room 2 _ := hr.mono (by omega)
    refine ⟨_, pss_cons (ps_set (i := 2) sc_take_quarterly.nd rfl (Or.inl rfl) (pe_lst pa_nil))
      (pss_cons (ps_for ownX rfl (pi_range1 rfl T.b_range (pa_cons (pe_meth (pv 0) T.kReader.cl T.kReader_take.me G_Reader_take hr_Reader_take B_Reader_take .nil passX (pa_cons (pgi m_FEWEST_QUARTERS) (pa_cons (pgi m_MOST_QUARTERS) pa_nil))) pa_nil)) (pg_name (i := 3) sc_take_quarterly.nd rfl (Or.inl rfl))
        (pss_one (ps_expr (pe_bm PySem.F.plainAttrs_list PySem.F.slot_list_append PySem.F.type_list_append mt_append (pv 2) (pa_cons (pe_call G_take_coat hr_take_coat rfl T.k_take_coat.gl kp_take_coat B_take_coat .nil passX (pa_cons (pv 0) (pa_cons (pe_op op_add (pv 1) pe_int) pa_nil))) pa_nil)))))
      (pss_one (ps_ret (pe_make T.kQuarterly.mak G_Quarterly hr_Quarterly rfl T.kQuarterly.gl B_Quarterly .nil pass0 (pa_cons (pv 2) pa_nil))))), ?_⟩
    unfold quartAt at k
    refine ⟨Nat.zero_le _, fun l nl => ?_⟩
    have nlR : l ≠ R := (ne_of_none A0.hR nl).symm
    have far := A0.far nl
    have A2 : At K d bs a R x (upd H l (.lst [])) q0 := A0.off far nlR.symm
    have K2 : Keep R H (upd H l (.lst [])) := fun b o nb hb => by
      rw [upd_ne (ne_of_none hb nl)]
      exact hb
    refine ⟨_, rfl, R, x, _, rfl, A2.hR, lk_take, R, _, bs, a, x, q0, _, rfl, A2, ⟨2, ShMarsh.QUARTERS, rfl, rfl⟩, ?_⟩
    cases e3 : Sh.numAt 2 ShMarsh.QUARTERS Sh.ANY q0 (bs.drop q0) with
    | error e =>
      rw [e3] at k
      exact k
    | ok y =>
    obtain ⟨n3, q3, r3⟩ := y
    rw [e3] at k
    have b3 := (num_ok (x := 0) e3).2.2.1
    have b4 : n3 ≤ 9 := b3
    intro v3 H3 k3 h3 l3 g3 t3
    dsimp only at k h3 l3 g3 t3
    subst g3
    cases t3
    have A3 := A2.step k3 h3 l3
    have h3l : H3 l = some (.lst []) := k3 l _ nlR upd_same
    have K3 : Keep R H H3 := K2.trans k3
    rw [several_many] at k
    refine ⟨_, rfl, by omega, by omega, ?_⟩
    refine for_range (lo := 0) (n := n3) (fun i σ Hc => ∃ (q : Nat) (us : List V) (xs : List ShMarsh.Coat) (v : Option V), σ = [some (.ref R), some (.int z), some (.ref l), v] ∧ Lp K d bs a R x l (RC d) (ShMarsh.coatFrom n) n3 q3 H3 i Hc q us xs)
      ⟨q3, [], [], none, rfl, Lp.start h3l A3 far⟩ ?_ ?_
    · rintro i σ Hc hi ⟨q, us, xs, v, rfl, L⟩
      refine ⟨_, rfl, .inl ⟨rfl, _, SqL.of L.hl⟩, _, rfl, _, rfl, _, _, rfl, rfl, R, _, bs, a, x, q, _, rfl, L.at_, ⟨_, rfl, hz, hn, rfl⟩, ?_⟩
      cases e5 : ShMarsh.coatFrom n q (bs.drop q) with
      | error e =>
        have e6 : n3 - i = (n3 - (i + 1)) + 1 := by omega
        rw [L.eq, e6, ahead_err e5] at k
        exact k
      | ok y =>
        obtain ⟨n5, q5, r5⟩ := y
        intro v5 H5 k5 h5 l5 g5 t5
        dsimp only at h5 l5 g5 t5
        subst g5
        refine ⟨l, us, v5, rfl, rfl, k5 l _ L.ne L.hl, ?_, ?_⟩
        · rw [L.len]
          exact Nat.lt_of_lt_of_le hi (Nat.le_trans b4 (by decide))
        · exact ⟨q5, _, _, _, rfl, Lp.turn (R1 := RC d) (fun _ _ _ _ _ _ m z => RC.mv z m) h3 h3l L hi e5 k5 h5 l5 t5⟩
    · rintro σ Hc ⟨q, us, xs, v, rfl, L⟩
      refine ⟨_, rfl, ?_⟩
      refine made rfl fun y dy H7 ny s7 hy => ?_
      have ee : many (ShMarsh.coatFrom n) n3 q3 (bs.drop q3) = .ok (xs, q, bs.drop q) := by
        rw [L.eq, Nat.sub_self]
        show Except.ok (xs ++ [], q, bs.drop q) = _
        rw [List.append_nil]
      rw [ee] at k
      have kc : Keep R H Hc := fun b o nb hb => L.kp b o nb (ne_of_none hb nl) (K3 b o nb hb)
      refine k _ H7 (kc.trans (Keep.of s7)) (s7 _ _ L.at_.hR) L.at_.le rfl ⟨l, us, ⟨y, dy, rfl, kc.free L.at_.hR ny, hy⟩, ⟨nl, s7 _ _ L.hl⟩, ?_⟩
      exact rcoats_of (L.all.mono fun _ _ z => RC.mv z ⟨fun b h => K3.free h3 h, fun b o _ h => s7 b o h⟩)
theorem sc_take_coat : FnScope ["reader", "depth", "kind", "first", "second"] ["reader", "depth"] (defScope s_take_coat) := ⟨rfl, rfl, rfl, by decide +kernel, rfl, by decide +kernel, by decide +kernel⟩
theorem ok_take_coat (T : Txt K mg d) : ∀ n : Nat, OkD P w K mg base (L2.CX P w) (lc n) d.f_take_coat ["reader", "depth"] (spCoat K d n)
  | 0 => by
    obtain ⟨fd, F, B⟩ := T.k_take_coat.ex
    refine ⟨⟨fd, ?_, B⟩, F.kp⟩
    refine F.okX (k := 17) sc_take_coat (fun vs H Q E h => ?_) (fun cdv A outer s H vs Q E hr h => ?_)
    · obtain ⟨R, us, bs, a, x, p, par, rfl, _, ⟨z, rfl, _⟩, _⟩ := h
      rfl
    · obtain ⟨R, us, bs, a, x, p, par, rfl, _, ⟨z, rfl, _, hn, _⟩, _⟩ := h
      exact absurd hn (Nat.lt_irrefl _)
  | n + 1 => by
    have hC := ok_take_coat T n
    obtain ⟨⟨fd_take_quarterly, G_take_quarterly, B_take_quarterly⟩, kp_take_quarterly⟩ := ok_take_quarterly T hC
    obtain ⟨⟨fd_take_coat, G_take_coat, B_take_coat⟩, kp_take_coat⟩ := hC
    obtain ⟨fd, F, B⟩ := T.k_take_coat.ex
    obtain ⟨⟨fd_Reader_take, G_Reader_take, B_Reader_take⟩, kp_Reader_take⟩ := ok_Reader_take (P := P) (w := w) (base := base) T
    obtain ⟨⟨fd_take_marked, G_take_marked, B_take_marked⟩, kp_take_marked⟩ := ok_take_marked (P := P) (w := w) (base := base) T
    obtain ⟨⟨fd_Impaled, G_Impaled, B_Impaled⟩, kp_Impaled⟩ := ok_Impaled_init (P := P) (w := w) (base := base) T
    obtain ⟨⟨fd_Pretence, G_Pretence, B_Pretence⟩, kp_Pretence⟩ := ok_Pretence_init (P := P) (w := w) (base := base) T
    obtain ⟨c_MOST_DEEP, m_MOST_DEEP⟩ := T.nMOST_DEEP
    refine ⟨⟨fd, ?_, B⟩, F.kp⟩
    refine F.okX (k := lc n + 1) sc_take_coat (fun vs H Q E h => ?_) (fun cdv A outer s H vs Q E hr h => ?_)
    · obtain ⟨R, us, bs, a, x, p, par, rfl, _, ⟨z, rfl, _⟩, _⟩ := h
      rfl
    · obtain ⟨R, us, bs, a, x, q0, par, rfl, A0, ⟨z, rfl, hz, hn, rfl⟩, k⟩ := h
      have hlc := lc_le n
      have hr_take_quarterly : Room (lc n + 1) _ := hr
      have hr_take_coat : Room (lc n) _ := hr.mono (Nat.le_succ _)
      have hr_Reader_take : Room 3 _ := hr.mono (by omega)
      have hr_take_marked : Room 17 _ := hr.mono (by omega)
      have hr_Impaled : Room 2 _ := hr.mono (by omega)
      have hr_Pretence : Room 2 _ := hr.mono (by omega)
      have K0 : Keep R H H := Keep.refl R H
      refine ⟨_, pss_cons (ps_set (i := 2) sc_take_coat.nd rfl (Or.inl rfl) (pe_meth (pv 0) T.kReader.cl T.kReader_take.me G_Reader_take hr_Reader_take B_Reader_take .nil passX (pa_cons pe_int (pa_cons (pe_ifExp (pt_cmpR op_lt (pv 1) (pgi m_MOST_DEEP) (nomark _)) pe_int pe_int) pa_nil))))
      (pss_cons (ps_if (pt_cmpR op_eq (pv 2) pe_int (nomark _))
        (pss_one (ps_ret (pe_call G_take_marked hr_take_marked rfl T.k_take_marked.gl kp_take_marked B_take_marked .nil passX (pa_cons (pv 0) pa_nil))))
        pss_nil)
      (pss_cons (ps_if (pt_cmpR op_eq (pv 2) pe_int (nomark _))
        (pss_one (ps_ret (pe_call G_take_quarterly hr_take_quarterly rfl T.k_take_quarterly.gl kp_take_quarterly B_take_quarterly .nil passX (pa_cons (pv 0) (pa_cons (pv 1) pa_nil)))))
        pss_nil)
      (pss_cons (ps_set (i := 3) sc_take_coat.nd rfl (Or.inl rfl) (pe_call G_take_coat hr_take_coat rfl T.k_take_coat.gl kp_take_coat B_take_coat .nil passX (pa_cons (pv 0) (pa_cons (pe_op op_add (pv 1) pe_int) pa_nil))))
      (pss_cons (ps_set (i := 4) sc_take_coat.nd rfl (Or.inl rfl) (pe_call G_take_coat hr_take_coat rfl T.k_take_coat.gl kp_take_coat B_take_coat .nil passX (pa_cons (pv 0) (pa_cons (pe_op op_add (pv 1) pe_int) pa_nil))))
      (pss_cons (ps_if (pt_cmpR op_eq (pv 2) pe_int (nomark _))
        (pss_one (ps_ret (pe_make T.kImpaled.mak G_Impaled hr_Impaled rfl T.kImpaled.gl B_Impaled .nil pass0 (pa_cons (pv 3) (pa_cons (pv 4) pa_nil)))))
        pss_nil)
      (pss_one (ps_ret (pe_make T.kPretence.mak G_Pretence hr_Pretence rfl T.kPretence.gl B_Pretence .nil pass0 (pa_cons (pv 3) (pa_cons (pv 4) pa_nil)))))))))), ?_⟩
      unfold ShMarsh.coatFrom at k
      refine ⟨_, rfl, R, x, _, rfl, A0.hR, lk_take, _, rfl, _, _, rfl, rfl, _, rfl, ?_⟩
      refine ite2 (fun c => ?_) (fun c => ?_)
      · have c' : ¬ n = 0 := by
          have := of_decide_eq_true c
          omega
        rw [if_neg c'] at k
        have hn' : 0 < n := Nat.pos_of_ne_zero c'
        have hz' : z + 1 = 5 - (n : Int) := by omega
        refine ⟨R, _, bs, a, x, q0, _, rfl, A0, ⟨0, 3, rfl, rfl⟩, ?_⟩
        cases e1 : Sh.numAt 0 3 Sh.ANY q0 (bs.drop q0) with
        | error e =>
          rw [e1] at k
          exact k
        | ok y =>
        obtain ⟨n1, q1, r1⟩ := y
        rw [e1] at k
        intro v1 H1 k1 h1 l1 g1 t1
        dsimp only at k h1 l1 g1 t1
        subst g1
        have K1 : Keep R H H1 := K0.trans k1
        have A1 := A0.step k1 h1 l1
        cases t1
        refine ⟨_, rfl, rfl, _, rfl, ?_⟩
        refine ite2 (fun c1 => ?_) (fun c1 => ?_)
        · have c2 : n1 = 0 := by have := eqv c1; omega
          rw [if_pos c2] at k
          refine ⟨_, rfl, R, _, bs, a, x, q1, _, rfl, A1, ⟨rfl, rfl⟩, ?_⟩
          cases e2 : ShMarsh.markedFrom q1 (bs.drop q1) with
          | error e =>
            rw [e2] at k
            exact k
          | ok y =>
          obtain ⟨n2, q2, r2⟩ := y
          rw [e2] at k
          intro v2 H2 k2 h2 l2 g2 t2
          dsimp only at k h2 l2 g2 t2
          subst g2
          have K2 : Keep R H H2 := K1.trans k2
          have A2 := A1.step k2 h2 l2
          exact k _ H2 K2 h2 l2 rfl (RMarked.mv t2 (K1.mv h1))
        · have c2 : ¬ n1 = 0 := fun e => neqv c1 (by rw [e]; rfl)
          rw [if_neg c2] at k
          refine ⟨_, rfl, rfl, _, rfl, ?_⟩
          refine ite2 (fun c3 => ?_) (fun c3 => ?_)
          · have c4 : n1 = 1 := by have := eqv c3; omega
            rw [if_pos c4] at k
            have k' : Give d bs a R x (RC d) H Q E (quartAt n q1 (bs.drop q1)) := k
            refine ⟨_, rfl, _, rfl, R, _, bs, a, x, q1, _, rfl, A1, ⟨z, rfl, hz', hn', rfl⟩, ?_⟩
            exact Give.up K1 h1 (fun _ _ _ _ _ m z => RC.mv z m) k'
          · have c4 : ¬ n1 = 1 := fun e => neqv c3 (by rw [e]; rfl)
            rw [if_neg c4] at k
            refine ⟨_, rfl, _, rfl, _, _, rfl, rfl, R, _, bs, a, x, q1, _, rfl, A1, ⟨_, rfl, hz', hn', rfl⟩, ?_⟩
            cases e2 : ShMarsh.coatFrom n q1 (bs.drop q1) with
            | error e =>
              rw [e2] at k
              exact k
            | ok y =>
            obtain ⟨n2, q2, r2⟩ := y
            rw [e2] at k
            intro v2 H2 k2 h2 l2 g2 t2
            dsimp only at k h2 l2 g2 t2
            subst g2
            have K2 : Keep R H H2 := K1.trans k2
            have A2 := A1.step k2 h2 l2
            refine ⟨_, rfl, _, rfl, _, _, rfl, rfl, R, _, bs, a, x, q2, _, rfl, A2, ⟨_, rfl, hz', hn', rfl⟩, ?_⟩
            cases e3 : ShMarsh.coatFrom n q2 (bs.drop q2) with
            | error e =>
              rw [e3] at k
              exact k
            | ok y =>
            obtain ⟨n3, q3, r3⟩ := y
            rw [e3] at k
            intro v3 H3 k3 h3 l3 g3 t3
            dsimp only at k h3 l3 g3 t3
            subst g3
            have K3 : Keep R H H3 := K2.trans k3
            have A3 := A2.step k3 h3 l3
            refine ⟨_, rfl, rfl, _, rfl, ?_⟩
            refine ite2 (fun c5 => ?_) (fun c5 => ?_)
            · have c6 : n1 = 2 := by have := eqv c5; omega
              rw [if_pos c6] at k
              refine ⟨_, rfl, _, rfl, ?_⟩
              refine made rfl fun y dy H4 ny s4 hy => ?_
              refine k _ H4 (K3.trans (Keep.of s4)) (s4 _ _ h3) l3 rfl ⟨v2, v3, ⟨y, dy, rfl, K3.free h3 ny, hy⟩, ?_, ?_⟩
              · exact RC.mv t2 (((K1.mv h1).keep h1 k3).same s4)
              · exact RC.mv t3 ((K2.mv h2).same s4)
            · have c6 : ¬ n1 = 2 := fun e => neqv c5 (by rw [e]; rfl)
              rw [if_neg c6] at k
              refine ⟨_, rfl, _, rfl, ?_⟩
              refine made rfl fun y dy H4 ny s4 hy => ?_
              refine k _ H4 (K3.trans (Keep.of s4)) (s4 _ _ h3) l3 rfl ⟨v2, v3, ⟨y, dy, rfl, K3.free h3 ny, hy⟩, ?_, ?_⟩
              · exact RC.mv t2 (((K1.mv h1).keep h1 k3).same s4)
              · exact RC.mv t3 ((K2.mv h2).same s4)
      · have c' : n = 0 := by
          have := of_decide_eq_false (by simpa using c : decide (z < 4) = false)
          omega
        rw [if_pos c'] at k
        refine ⟨R, _, bs, a, x, q0, _, rfl, A0, ⟨0, 0, rfl, rfl⟩, ?_⟩
        cases e1 : Sh.numAt 0 0 Sh.ANY q0 (bs.drop q0) with
        | error e =>
          rw [e1] at k
          exact k
        | ok y =>
        obtain ⟨n1, q1, r1⟩ := y
        rw [e1] at k
        intro v1 H1 k1 h1 l1 g1 t1
        dsimp only at k h1 l1 g1 t1
        subst g1
        have K1 : Keep R H H1 := K0.trans k1
        have A1 := A0.step k1 h1 l1
        cases t1
        have b1 := (num_ok (x := 0) e1).2.2.1
        have c2 : n1 = 0 := by omega
        rw [if_pos c2] at k
        refine ⟨_, rfl, rfl, _, rfl, ?_⟩
        refine ite2 (fun c1 => ?_) (fun c1 => absurd (by rw [c2]; rfl) (neqv c1))
        refine ⟨_, rfl, R, _, bs, a, x, q1, _, rfl, A1, ⟨rfl, rfl⟩, ?_⟩
        cases e2 : ShMarsh.markedFrom q1 (bs.drop q1) with
        | error e =>
          rw [e2] at k
          exact k
        | ok y =>
        obtain ⟨n2, q2, r2⟩ := y
        rw [e2] at k
        intro v2 H2 k2 h2 l2 g2 t2
        dsimp only at k h2 l2 g2 t2
        subst g2
        have K2 : Keep R H H2 := K1.trans k2
        have A2 := A1.step k2 h2 l2
        exact k _ H2 K2 h2 l2 rfl (RMarked.mv t2 (K1.mv h1))
/-! ### decode -/
def spDecode (K : PySem.W.Frag) (d : Ad) : Sp := fun vs H Q E => ∃ (a : Addr) (bs : List UInt8), vs = [.ref a] ∧ SqL K H a (vals bs) ∧
  match ShMarsh.readCoat bs with
  | .error e => Err d E e
  | .ok c => ∀ v H', Same H H' → RC d H H' v c → Q v H'
theorem sc_decode : FnScope ["numbers", "reader", "coat"] ["numbers"] (defScope s_decode) := ⟨rfl, rfl, rfl, by decide +kernel, rfl, by decide +kernel, by decide +kernel⟩
theorem ok_decode (T : Txt K mg d) : OkD P w K mg base (L2.CX P w) 28 d.f_decode ["numbers"] (spDecode K d) := by
  obtain ⟨fd, F, B⟩ := T.k_decode.ex
  obtain ⟨⟨fd_Reader, G_Reader, B_Reader⟩, kp_Reader⟩ := ok_Reader_init (P := P) (w := w) (base := base) T
  obtain ⟨⟨fd_take_coat, G_take_coat, B_take_coat⟩, kp_take_coat⟩ := ok_take_coat (P := P) (w := w) (base := base) T 4
  obtain ⟨⟨fd_Reader_at_end, G_Reader_at_end, B_Reader_at_end⟩, kp_Reader_at_end⟩ := ok_Reader_at_end (P := P) (w := w) (base := base) T
  refine ⟨⟨fd, F.okX sc_decode (fun vs H Q E h => ?_) (fun cdv A outer s H vs Q E hr h => ?_), B⟩, F.kp⟩
  · obtain ⟨a, bs, rfl, _⟩ := h
    rfl
  · obtain ⟨a, bs, rfl, hS, k⟩ := h
    have hr_take_coat : Room (lc 4) _ := hr.mono (by decide)
    have hr_Reader : Room 2 _ := hr.mono (by decide)
    have hr_Reader_at_end : Room 1 _ := hr.mono (by decide)
    refine ⟨_, pss_cons (ps_set (i := 1) sc_decode.nd rfl (Or.inl rfl) (pe_make T.kReader.mak G_Reader hr_Reader rfl T.kReader.gl B_Reader .nil pass0 (pa_cons (pv 0) pa_nil)))
      (pss_cons (ps_set (i := 2) sc_decode.nd rfl (Or.inl rfl) (pe_call G_take_coat hr_take_coat rfl T.k_take_coat.gl kp_take_coat B_take_coat .nil passX (pa_cons (pv 1) (pa_cons pe_int pa_nil))))
      (pss_cons (ps_if (pt_not (pt_val (pe_meth0 (pv 1) T.kReader.cl T.kReader_at_end.me G_Reader_at_end hr_Reader_at_end B_Reader_at_end .nil pass0)))
        (pss_one (ps_raiseLow rfl T.xMisplaced hr takesX (pa_cons (pe_fld (pv 1) rfl) pa_nil)))
        pss_nil)
      (pss_one (ps_ret (pv 2))))), ?_⟩
    refine ⟨_, rfl, ?_⟩
    intro R x nR nx ne
    refine ⟨R, x, a, rfl, upd_same, fun H1 hb hR => ⟨rfl, ?_⟩⟩
    have s1 : Same H H1 := fun b o e => by
      rw [hb b (ne_of_none e nR), upd_ne (ne_of_none e nR), upd_ne (ne_of_none e nx)]
      exact e
    have A1 : At K d bs a R x H1 0 := ⟨hR, s1.seq hS, Nat.zero_le _⟩
    refine ⟨_, rfl, R, _, bs, a, x, 0, _, rfl, A1, ⟨_, rfl, by decide, by decide, rfl⟩, ?_⟩
    unfold ShMarsh.readCoat at k
    cases e2 : ShMarsh.coatFrom 4 0 (bs.drop 0) with
    | error e =>
      have e3 : ShMarsh.coatFrom ShMarsh.DEEP 0 bs = .error e := e2
      rw [e3] at k
      exact k
    | ok y =>
    obtain ⟨n2, q2, r2⟩ := y
    have e3 : ShMarsh.coatFrom ShMarsh.DEEP 0 bs = .ok (n2, q2, r2) := e2
    rw [e3] at k
    intro v2 H2 k2 h2 l2 g2 t2
    dsimp only at k h2 l2 g2 t2
    subst g2
    have A2 := A1.step k2 h2 l2
    refine ⟨_, rfl, R, x, _, rfl, A2.hR, lk_end, R, bs, a, x, q2, rfl, A2, _, rfl, ?_⟩
    by_cases c : q2 = bs.length
    · rw [decide_eq_true c]
      have c' : bs.drop q2 = [] := by rw [c, List.drop_length]
      rw [if_pos c'] at k
      refine iteF ?_
      refine ⟨_, rfl, k v2 H2 (fun b o e => k2 b o (ne_of_none e nR) (s1 b o e)) (RC.mv t2 ⟨fun b h => s1.free h, fun _ _ _ h => h⟩)⟩
    · rw [decide_eq_false c]
      have c' : ¬ bs.drop q2 = [] := fun z => c (by
        have := List.drop_eq_nil_iff.mp z
        omega)
      rw [if_neg c'] at k
      refine iteT ?_
      exact ⟨_, rfl, R, d.cReader, x, _, _, rfl, h2, T.kReader.cl, T.kReader.no.2.1, lk_pla, _, rfl, fun z hz => k z _ upd_same⟩
/-- return [-1, fault.place], fault the error that the suite holds at a (class cls, dict x), in slot i -/
def t_fault (d : Ad) (i : Nat) : Addr → Value → Option Addr → TS := fun a cls x => tRet (tLst (tCons (tUn (rU fun i => .int (-i)) (tC (.int 1))) (tCons (tByLow d.xMisplaced a cls x (tVar i)) tNil)))
end
end HC

namespace HC
open PySem L2
/-- the bytes that are handed in -/
def bytesOf (ns : List Int) : List UInt8 := ns.map fun n => UInt8.ofNat n.toNat
def Byt (ns : List Int) : Prop := ∀ n ∈ ns, 0 ≤ n ∧ n ≤ 255
theorem text_some {ns : List Int} (h : Byt ns) : CoatNeutral.text? ns = some (bytesOf ns) := by
  unfold CoatNeutral.text?
  rw [if_pos]
  · rfl
  · unfold NeutralIO.bytes
    rw [List.all_eq_true]
    intro n hn
    have := h n hn
    simp
    omega
theorem vals_of : ∀ {ns : List Int}, Byt ns → vals (bytesOf ns) = ns.map V.int
  | [], _ => rfl
  | n :: ns, h => by
    have h1 := h n List.mem_cons_self
    have ih := vals_of (ns := ns) fun m hm => h m (List.mem_cons_of_mem _ hm)
    show V.int ((UInt8.ofNat n.toNat).toNat : Int) :: vals (bytesOf ns) = V.int n :: ns.map V.int
    rw [ih]
    have e : ((UInt8.ofNat n.toNat).toNat : Int) = n := by
      rw [UInt8.toNat_ofNat']
      omega
    rw [e]
theorem f_of {c : CoatNeutral.Call} {x : ShCoats.Call} (h : CoatNeutral.callOf c = some x) : CoatNeutral.f c = (ShCoats.answer x).ret :: (((ShCoats.answer x).nums.map fun (n : Nat) => (n : Int)) ++ (ShCoats.answer x).bytes.map fun (b : UInt8) => (b.toNat : Int)) := by
  unfold CoatNeutral.f
  rw [h]
theorem check_is {ns : List Int} (h : Byt ns) : PyWqaqbh.check ns = match ShMarsh.readCoat (bytesOf ns) with
    | .error e => [-1, (e : Int)]
    | .ok _ => [0] := by
  have hc : CoatNeutral.callOf [[1], ns] = some (.check (bytesOf ns)) := by
    show (CoatNeutral.text? ns).map ShCoats.Call.check = _
    rw [text_some h]
    rfl
  show CoatNeutral.f [[1], ns] = _
  rw [f_of hc]
  unfold ShCoats.answer ShCoats.ofCoat
  dsimp only
  cases ShMarsh.readCoat (bytesOf ns) with
  | error e => rfl
  | ok c => rfl
theorem byt_of {l : List Int} (q : l.all (PySem.W.Codec.inInt 0 255) = true) : Byt l := by
  intro n hn
  have h := List.all_eq_true.mp q n hn
  unfold PySem.W.Codec.inInt at h
  simp at h
  omega
end HC
namespace HC
open PySem PySem.Spec PyProof.Rows L2 LamX NdefX
section
variable {P : Program} {w : World} {K : PySem.W.Frag} {mg : Str → Option Value} {base : Heap} {d : Ad}
/-! ### answered: the coat is taken in and handed on -/
def spAns (K : PySem.W.Frag) (d : Ad) (f : Addr) (sp : Sp) : Sp := fun vs H Q _ => ∃ (a : Addr) (bs : List UInt8), vs = [.ref a, .ref f] ∧ SqL K H a (vals bs) ∧ IsF H f ∧
  match ShMarsh.readCoat bs with
  | .error e => ∀ (H' : Hp) (q : Addr), H' q = some (.lst [.int (-1), vN e]) → Q (.ref q) H'
  | .ok c => ∀ v H', Same H H' → RC d H H' v c → sp [v] H' Q E0
theorem sc_answered : FnScope ["c", "tell", "coat", "fault"] ["c", "tell"] (defScope s_answered) := ⟨rfl, rfl, rfl, by decide +kernel, rfl, by decide +kernel, by decide +kernel⟩
theorem ok_answered (T : Txt K mg d) : ∃ fd, GivOk P w K mg base 40 39 d.f_answered fd ["c", "tell"] (spAns K d) ∧ Binds K fd ["c", "tell"] [] ∧ PySem.W.keepIn K (.ref d.f_answered) = true := by
  obtain ⟨fd, F, B⟩ := T.k_answered.ex
  obtain ⟨⟨fd_decode, G_decode, B_decode⟩, kp_decode⟩ := ok_decode (P := P) (w := w) (base := base) T
  refine ⟨fd, giv_of F sc_answered (fun f sp vs H Q E h => ?_) (fun cdv A outer s H vs Q f sp hr TL h => ?_), B, F.kp⟩
  · obtain ⟨a, bs, rfl, _⟩ := h
    rfl
  · obtain ⟨a, bs, rfl, hS, hF, k⟩ := h
    have hr_decode : Room 28 _ := hr.mono (by decide)
    refine ⟨_, pss_cons (ps_try_as (i := 3) (tb := fun W => tAsg (tCallS (spDecode K d) (WE W) (tCons (tVar 0) tNil)) (gName 2)) (ts := t_fault d 3) (Wout := fun _ _ _ _ => False) rfl rfl sc_answered.nd rfl rfl ⟨rfl, by decide, Or.inl T.xMisplaced.gC⟩ L2.takes0
        (fun W pn xe tk _ => pss_one (ps_set (i := 2) sc_answered.nd rfl (Or.inl rfl) (by exact (pe_callS G_decode hr_decode rfl T.k_decode.gl kp_decode B_decode (fun σ => passAt tk σ) (by exact (pa_cons (pv 0) pa_nil))))))
        (fun a oe cls x pn hz hf => pss_one (ps_ret (by exact (pe_lst (pa_cons (pe_un un_neg pe_int) (pa_cons (pe_byLow T.xMisplaced hz hf (pv 3)) pa_nil)))))))
      (pss_one (ps_ret (pe_tell (i := 1) (f := f) (sp := sp) TL rfl hr rfl (Or.inl rfl) (pa_cons (pv 2) pa_nil)))), ?_⟩
    refine ⟨_, rfl, a, bs, rfl, hS, ?_⟩
    cases e : ShMarsh.readCoat bs with
    | error e' =>
      rw [e] at k
      intro x H1 hx
      refine ⟨true, T.xMisplaced.te, fun _ a0 _ => ?_, fun q => Bool.noConfusion q⟩
      refine ⟨_, rfl, _, rfl, rfl, rfl, x, _, rfl, hx, ?_⟩
      exact ⟨(by show 2 ≤ sizeLine; decide), fun q hq => k _ q upd_same⟩
    | ok c =>
      rw [e] at k
      intro v H1 s1 t1
      exact ⟨rfl, hF.same s1, _, rfl, hF.same s1, k v H1 s1 t1⟩
/-- a call of one list of bytes -/
def spOne (g : List Int → List Int) (K : PySem.W.Frag) (cs : List (Addr × Addr)) : Sp := fun vs H Q _ => ∃ (a : Addr) (ns : List Int), vs = [.ref a] ∧ (∀ p ∈ cs, H p.2 = some (.tbl #[])) ∧ SqL K H a (ns.map V.int) ∧ Byt ns ∧
  ∀ (H' : Hp) (p : Addr), H' p = some (.lst ((g ns).map V.int)) → Q (.ref p) H'
end
end HC

namespace HC
/-! ### the specification's tables, row by row -/
theorem off_1 (t : Int) : Sh.off 1 t = if t % 48 < 24 then 12 - (t % 24 - 12) * (t % 24 - 12) / 12 else (t % 24 - 12) * (t % 24 - 12) / 12 - 12 := rfl
theorem off_2 (t : Int) : Sh.off 2 t = if t % 48 < 24 then 12 else -12 := rfl
theorem off_3 (t : Int) : Sh.off 3 t = if t % 48 < 24 then t % 48 - 12 else 36 - t % 48 := rfl
theorem off_4 (t : Int) : Sh.off 4 t = (t % 24 - 12) * (t % 24 - 12) / 6 - 12 := rfl
theorem off_5 (t : Int) : Sh.off 5 t = 12 - (t % 24 - 12) * (t % 24 - 12) / 6 := rfl
theorem oh_6 (l : Nat) (p r : Int) : Sh.ordHas 6 l p r = Sh.within 0 (r - 168 - Sh.dist p - Sh.off l p) 144 := rfl
theorem oh_7 (l : Nat) (p r : Int) : Sh.ordHas 7 l p r = (Sh.within (180 + Sh.off l r) p (300 + Sh.off l r) || Sh.within (228 + Sh.off l p) r (348 + Sh.off l p)) := rfl
theorem oh_8 (l : Nat) (p r : Int) : Sh.ordHas 8 l p r = (Sh.nearDiag l 560 p r || Sh.nearDiag l 560 (Sh.flip p) r) := rfl
theorem oh_10 (l : Nat) (p r : Int) : Sh.ordHas 10 l p r = (decide (p < 48 + Sh.off l r) || (decide (432 - Sh.off l r ≤ p) || (decide (r < 48 + Sh.off l p) || decide (528 - Sh.off l p ≤ r)))) := rfl
section
variable {x y : Int} (h : -48 ≤ x ∧ x ≤ 48 ∧ -48 ≤ y ∧ y ≤ 48)
include h
theorem in48 : ¬ (48 < Sh.size x ∨ 48 < Sh.size y) := by
  unfold Sh.size
  split <;> split <;> omega
theorem ch_0 : Sh.chargeHas 0 x y = decide (x * x + y * y < 2304) := by
  unfold Sh.chargeHas; rw [if_neg (in48 h)]; rfl
theorem ch_1 : Sh.chargeHas 1 x y = Sh.within 1024 (x * x + y * y) 2304 := by
  unfold Sh.chargeHas; rw [if_neg (in48 h)]; rfl
theorem ch_2 : Sh.chargeHas 2 x y = decide (4 * Sh.size x + 3 * Sh.size y < 144) := by
  unfold Sh.chargeHas; rw [if_neg (in48 h)]; rfl
theorem ch_3 : Sh.chargeHas 3 x y = Sh.within 60 (4 * Sh.size x + 3 * Sh.size y) 144 := by
  unfold Sh.chargeHas; rw [if_neg (in48 h)]; rfl
theorem ch_4 : Sh.chargeHas 4 x y = decide (3 * Sh.size x + Sh.size y < 48) := by
  unfold Sh.chargeHas; rw [if_neg (in48 h)]; rfl
theorem ch_5 : Sh.chargeHas 5 x y = (decide (Sh.size x < 24) && decide (Sh.size y < 44)) := by
  unfold Sh.chargeHas; rw [if_neg (in48 h)]; rfl
theorem ch_6 : Sh.chargeHas 6 x y = ((decide (y ≤ 24) && decide (7 * Sh.size x ≤ 4 * (y + 48))) || (decide (-24 ≤ y) && decide (7 * Sh.size x ≤ 4 * (48 - y)))) := by
  unfold Sh.chargeHas; rw [if_neg (in48 h)]; rfl
theorem ch_7 : Sh.chargeHas 7 x y = (decide (x * x + y * y < 2304) && decide (1444 ≤ x * x + (y + 18) * (y + 18))) := by
  unfold Sh.chargeHas; rw [if_neg (in48 h)]; rfl
theorem ch_8 : Sh.chargeHas 8 x y = (decide (x * x + y * y < 2304) && decide (1444 ≤ (x + 18) * (x + 18) + y * y)) := by
  unfold Sh.chargeHas; rw [if_neg (in48 h)]; rfl
theorem ch_9 : Sh.chargeHas 9 x y = ((decide (Sh.size x < 14) && decide (Sh.size y < 44)) || (decide (Sh.size y < 14) && decide (Sh.size x < 44))) := by
  unfold Sh.chargeHas; rw [if_neg (in48 h)]; rfl
theorem ch_10 : Sh.chargeHas 10 x y = (decide (Sh.size (Sh.size x - Sh.size y) < 14) && (decide (Sh.size x < 40) && decide (Sh.size y < 40))) := by
  unfold Sh.chargeHas; rw [if_neg (in48 h)]; rfl
theorem ch_11 : Sh.chargeHas 11 x y = (decide (Sh.size x < 32) && (decide (-40 ≤ y) && decide (2 * Sh.size x + y < 72))) := by
  unfold Sh.chargeHas; rw [if_neg (in48 h)]; rfl
theorem ch_12 : Sh.chargeHas 12 x y = ((decide (Sh.size x < 30) && Sh.within (-20) y 44) || (Sh.within (-40) y (-20) && (decide (Sh.size x < 8) || Sh.within 22 (Sh.size x) 38))) := by
  unfold Sh.chargeHas; rw [if_neg (in48 h)]; rfl
theorem ch_13 : Sh.chargeHas 13 x y = ((decide (Sh.size x < 4) && decide (Sh.size y < 46)) || (decide (Sh.size x < 20) && Sh.within 18 y 26)) := by
  unfold Sh.chargeHas; rw [if_neg (in48 h)]; rfl
theorem ch_14 : Sh.chargeHas 14 x y = (Sh.within 1156 (x * x + y * y) 2304 || (decide (x * x + y * y < 1156) && (decide (Sh.size x < 5) || decide (Sh.size y < 5)))) := by
  unfold Sh.chargeHas; rw [if_neg (in48 h)]; rfl
theorem ch_15 : Sh.chargeHas 15 x y = ((decide (Sh.size x < 4) && decide (Sh.size y < 46)) || ((Sh.within (-46) y (-16) && decide (2 * Sh.size x < y + 48)) || (Sh.within 30 y 46 && decide (Sh.size x < 12)))) := by
  unfold Sh.chargeHas; rw [if_neg (in48 h)]; rfl
end
end HC
namespace HC
/-! ### what the bytes of a well made coat tell -/
def WField : Sh.Field → Prop
  | .plain _ => True
  | .parted d l a b => d ≤ 7 ∧ l ≤ 5 ∧ a ≠ b
  | .varied v n l a b => v ≤ 6 ∧ 2 ≤ n ∧ n ≤ 24 ∧ l ≤ 5 ∧ a ≠ b
def WFill (below : Sh.Field) : Sh.Fill → Prop
  | .solid f => WField f
  | .counter => below.two.isSome = true
def WLayer (below : Sh.Field) : Sh.Layer → Prop
  | .ord o l f => o ≤ 12 ∧ l ≤ 5 ∧ WFill below f
  | .group c n m s f => c ≤ 15 ∧ 1 ≤ n ∧ n ≤ 10 ∧ m ≤ 6 ∧ 1 ≤ s ∧ s ≤ 4 ∧ WFill below f
def WArms (a : Sh.Arms) : Prop := WField a.field ∧ ∀ x ∈ a.layers, WLayer a.field x
def WOpt : Option Sh.Arms → Prop
  | none => True
  | some a => WArms a
def WMarked (m : ShMarsh.Marked) : Prop := WArms m.arms ∧ WOpt m.canton ∧ m.marks.length ≤ 60 ∧ ∀ x ∈ m.marks, x.1 ≤ 127 ∧ x.2 ≤ 255
mutual
def WCoat : ShMarsh.Coat → Prop
  | .one m => WMarked m
  | .quarters l => 2 ≤ l.length ∧ l.length ≤ 9 ∧ WCoats l
  | .impaled a b => WCoat a ∧ WCoat b
  | .pretence a b => WCoat a ∧ WCoat b
def WCoats : List ShMarsh.Coat → Prop
  | [] => True
  | x :: l => WCoat x ∧ WCoats l
end
theorem na {lo hi x p : Nat} {b : Sh.Bytes} {y : Nat × Nat × Sh.Bytes} (h : Sh.numAt lo hi x p b = .ok y) : lo ≤ y.1 ∧ y.1 ≤ hi ∧ y.1 ≠ x := by
  unfold Sh.numAt at h
  split at h
  · cases h
  · split at h
    · cases h
    · rename_i c r hn
      cases h
      refine ⟨?_, ?_, ?_⟩
      · have : ¬ c.toNat < lo := fun z => hn (.inl z)
        show lo ≤ c.toNat
        omega
      · have : ¬ hi < c.toNat := fun z => hn (.inr (.inl z))
        show c.toNat ≤ hi
        omega
      · exact fun z => hn (.inr (.inr z))
theorem two_ok {p : Nat} {b : Sh.Bytes} {y : (Nat × Nat) × Nat × Sh.Bytes} (h : Sh.twoAt p b = .ok y) : y.1.1 ≠ y.1.2 := by
  unfold Sh.twoAt at h
  split at h
  · cases h
  · split at h
    · cases h
    · rename_i a _ c hc
      cases h
      exact fun e => (na hc).2.2 e.symm
theorem field_ok {p : Nat} {b : Sh.Bytes} {y : Sh.Field × Nat × Sh.Bytes} (h : Sh.fieldAt p b = .ok y) : WField y.1 := by
  unfold Sh.fieldAt at h
  split at h
  · cases h
  · split at h
    · split at h
      · cases h
      · cases h; trivial
    · split at h
      · split at h
        · cases h
        · rename_i d hd
          split at h
          · cases h
          · rename_i l hl
            split at h
            · cases h
            · rename_i t ht
              cases h
              exact ⟨(na hd).2.1, (na hl).2.1, two_ok ht⟩
      · split at h
        · cases h
        · rename_i v hv
          split at h
          · cases h
          · rename_i n hn
            split at h
            · cases h
            · rename_i l hl
              split at h
              · cases h
              · rename_i t ht
                cases h
                refine ⟨(na hv).2.1, (na hn).1, (na hn).2.1, ?_, two_ok ht⟩
                have := (na hl).2.1
                split at this <;> omega
theorem fill_ok {f : Sh.Field} {p : Nat} {b : Sh.Bytes} {y : Sh.Fill × Nat × Sh.Bytes} (h : Sh.fillAt f p b = .ok y) : WFill f y.1 := by
  unfold Sh.fillAt at h
  split at h
  · cases h
  · rename_i k hk
    split at h
    · rename_i h1
      cases h
      have := (na hk).2.1
      show f.two.isSome = true
      split at this
      · assumption
      · omega
    · split at h
      · cases h
      · rename_i g hg
        cases h
        exact field_ok hg
theorem layer_ok {f : Sh.Field} {p : Nat} {b : Sh.Bytes} {y : Sh.Layer × Nat × Sh.Bytes} (h : Sh.layerAt f p b = .ok y) : WLayer f y.1 := by
  unfold Sh.layerAt at h
  split at h
  · cases h
  · split at h
    · split at h
      · cases h
      · rename_i o ho
        split at h
        · cases h
        · rename_i l hl
          split at h
          · cases h
          · rename_i g hg
            cases h
            exact ⟨(na ho).2.1, (na hl).2.1, fill_ok hg⟩
    · split at h
      · cases h
      · rename_i c hc
        split at h
        · cases h
        · rename_i n hn
          split at h
          · cases h
          · rename_i m hm
            split at h
            · cases h
            · rename_i s hs
              split at h
              · cases h
              · rename_i g hg
                cases h
                exact ⟨(na hc).2.1, (na hn).1, (na hn).2.1, (na hm).2.1, (na hs).1, (na hs).2.1, fill_ok hg⟩
theorem layers_ok {f : Sh.Field} : ∀ {n p : Nat} {b : Sh.Bytes} {y : List Sh.Layer × Nat × Sh.Bytes}, Sh.layersFrom f n p b = .ok y → ∀ x ∈ y.1, WLayer f x
  | 0, _, _, _, h => by
    cases h
    intro x hx
    cases hx
  | n + 1, _, _, _, h => by
    unfold Sh.layersFrom at h
    split at h
    · cases h
    · rename_i x hx
      split at h
      · cases h
      · rename_i l hl
        cases h
        intro z hz
        rcases List.mem_cons.mp hz with e | e
        · subst e; exact layer_ok hx
        · exact layers_ok hl z e
theorem arms_ok {p : Nat} {b : Sh.Bytes} {y : Sh.Arms × Nat × Sh.Bytes} (h : ShMarsh.armsFrom p b = .ok y) : WArms y.1 := by
  unfold ShMarsh.armsFrom at h
  split at h
  · cases h
  · rename_i f hf
    split at h
    · cases h
    · split at h
      · cases h
      · rename_i l hl
        cases h
        exact ⟨field_ok hf, layers_ok hl⟩
theorem marks_ok : ∀ {n p : Nat} {b : Sh.Bytes} {y : List (Nat × Nat) × Nat × Sh.Bytes}, ShMarsh.marksFrom n p b = .ok y → y.1.length = n ∧ ∀ x ∈ y.1, x.1 ≤ 127 ∧ x.2 ≤ 255
  | 0, _, _, _, h => by
    cases h
    exact ⟨rfl, fun x hx => nomatch hx⟩
  | n + 1, _, _, _, h => by
    unfold ShMarsh.marksFrom at h
    split at h
    · cases h
    · rename_i g hg
      split at h
      · cases h
      · rename_i k hk
        split at h
        · cases h
        · rename_i l hl
          cases h
          have ih := marks_ok hl
          refine ⟨by rw [List.length_cons, ih.1], fun z hz => ?_⟩
          rcases List.mem_cons.mp hz with e | e
          · subst e; exact ⟨(na hg).2.1, (na hk).2.1⟩
          · exact ih.2 z e
theorem marked_ok {p : Nat} {b : Sh.Bytes} {y : ShMarsh.Marked × Nat × Sh.Bytes} (h : ShMarsh.markedFrom p b = .ok y) : WMarked y.1 := by
  unfold ShMarsh.markedFrom at h
  split at h
  · cases h
  · rename_i a ha
    split at h
    · cases h
    · rename_i k hk
      split at h
      · cases h
      · rename_i c hc
        split at h
        · cases h
        · rename_i n hn
          split at h
          · cases h
          · rename_i m hm
            cases h
            have hmk := marks_ok hm
            refine ⟨arms_ok ha, ?_, by rw [hmk.1]; exact (na hn).2.1, hmk.2⟩
            split at hc
            · cases hc; trivial
            · cases e : ShMarsh.armsFrom k.2.1 k.2.2 with
              | error e' => rw [e] at hc; cases hc
              | ok z => rw [e] at hc; cases hc; exact arms_ok e
theorem several_ok {one : Nat → Sh.Bytes → Except Nat (ShMarsh.Coat × Nat × Sh.Bytes)} (ho : ∀ p b y, one p b = .ok y → WCoat y.1) : ∀ {n p : Nat} {b : Sh.Bytes} {y : List ShMarsh.Coat × Nat × Sh.Bytes}, ShMarsh.several one n p b = .ok y → y.1.length = n ∧ WCoats y.1
  | 0, _, _, _, h => by
    cases h
    exact ⟨rfl, trivial⟩
  | n + 1, _, _, _, h => by
    unfold ShMarsh.several at h
    split at h
    · cases h
    · rename_i x hx
      split at h
      · cases h
      · rename_i l hl
        cases h
        have ih := several_ok ho hl
        exact ⟨by rw [List.length_cons, ih.1], ho _ _ _ hx, ih.2⟩
theorem coat_ok : ∀ {d p : Nat} {b : Sh.Bytes} {y : ShMarsh.Coat × Nat × Sh.Bytes}, ShMarsh.coatFrom d p b = .ok y → WCoat y.1
  | 0, _, _, _, h => by cases h
  | d + 1, _, _, _, h => by
    unfold ShMarsh.coatFrom at h
    split at h
    · cases h
    · split at h
      · split at h
        · cases h
        · rename_i m hm
          cases h
          exact marked_ok hm
      · split at h
        · split at h
          · cases h
          · rename_i n hn
            split at h
            · cases h
            · rename_i l hl
              cases h
              have hs := several_ok (fun p b y => coat_ok) hl
              exact ⟨by rw [hs.1]; exact (na hn).1, by rw [hs.1]; exact (na hn).2.1, hs.2⟩
        · split at h
          · cases h
          · rename_i x hx
            split at h
            · cases h
            · rename_i z hz
              cases h
              show WCoat (if _ then ShMarsh.Coat.impaled x.1 z.1 else ShMarsh.Coat.pretence x.1 z.1)
              split
              · exact ⟨coat_ok hx, coat_ok hz⟩
              · exact ⟨coat_ok hx, coat_ok hz⟩
theorem read_ok {b : Sh.Bytes} {c : ShMarsh.Coat} (h : ShMarsh.readCoat b = .ok c) : WCoat c := by
  unfold ShMarsh.readCoat at h
  split at h
  · cases h
  · rename_i x hx
    split at h
    · cases h
      exact coat_ok hx
    · cases h
end HC
namespace HC
/-! ### how deep what is read may be -/
theorem several_deep {one : Nat → Sh.Bytes → Except Nat (ShMarsh.Coat × Nat × Sh.Bytes)} {m : Nat} (ho : ∀ p b y, one p b = .ok y → y.1.deep ≤ m) : ∀ {n p : Nat} {b : Sh.Bytes} {y : List ShMarsh.Coat × Nat × Sh.Bytes}, ShMarsh.several one n p b = .ok y → ShMarsh.deepest y.1 ≤ m
  | 0, p, b, y, h => by
    cases h
    exact Nat.zero_le _
  | n + 1, p, b, y, h => by
    unfold ShMarsh.several at h
    cases e : one p b with
    | error z => rw [e] at h; cases h
    | ok x =>
      rw [e] at h
      dsimp only at h
      cases e2 : ShMarsh.several one n x.2.1 x.2.2 with
      | error z => rw [e2] at h; cases h
      | ok l =>
        rw [e2] at h
        cases h
        exact Nat.max_le.mpr ⟨ho _ _ _ e, several_deep ho e2⟩
theorem coat_deep : ∀ {n p : Nat} {b : Sh.Bytes} {y : ShMarsh.Coat × Nat × Sh.Bytes}, ShMarsh.coatFrom n p b = .ok y → y.1.deep ≤ n
  | 0, p, b, y, h => by cases h
  | n + 1, p, b, y, h => by
    unfold ShMarsh.coatFrom at h
    cases e : Sh.numAt 0 (if n = 0 then 0 else 3) Sh.ANY p b with
    | error z => rw [e] at h; cases h
    | ok k =>
      rw [e] at h
      dsimp only at h
      by_cases c0 : k.1 = 0
      · rw [if_pos c0] at h
        cases e1 : ShMarsh.markedFrom k.2.1 k.2.2 with
        | error z => rw [e1] at h; cases h
        | ok m =>
          rw [e1] at h
          cases h
          show 1 ≤ n + 1
          omega
      · rw [if_neg c0] at h
        by_cases c1 : k.1 = 1
        · rw [if_pos c1] at h
          cases e1 : Sh.numAt 2 ShMarsh.QUARTERS Sh.ANY k.2.1 k.2.2 with
          | error z => rw [e1] at h; cases h
          | ok m =>
            rw [e1] at h
            dsimp only at h
            cases e2 : ShMarsh.several (ShMarsh.coatFrom n) m.1 m.2.1 m.2.2 with
            | error z => rw [e2] at h; cases h
            | ok l =>
              rw [e2] at h
              cases h
              exact Nat.succ_le_succ (several_deep (fun _ _ _ z => coat_deep z) e2)
        · rw [if_neg c1] at h
          cases e1 : ShMarsh.coatFrom n k.2.1 k.2.2 with
          | error z => rw [e1] at h; cases h
          | ok x =>
            rw [e1] at h
            dsimp only at h
            cases e2 : ShMarsh.coatFrom n x.2.1 x.2.2 with
            | error z => rw [e2] at h; cases h
            | ok z =>
              rw [e2] at h
              cases h
              have h1 := coat_deep e1
              have h2 := coat_deep e2
              show ShMarsh.Coat.deep (if _ then ShMarsh.Coat.impaled x.1 z.1 else ShMarsh.Coat.pretence x.1 z.1) ≤ n + 1
              split
              · exact Nat.succ_le_succ (Nat.max_le.mpr ⟨h1, h2⟩)
              · exact Nat.succ_le_succ (Nat.max_le.mpr ⟨h1, h2⟩)
theorem read_deep {b : Sh.Bytes} {c : ShMarsh.Coat} (h : ShMarsh.readCoat b = .ok c) : c.deep ≤ 4 := by
  unfold ShMarsh.readCoat at h
  cases e : ShMarsh.coatFrom ShMarsh.DEEP 0 b with
  | error z => rw [e] at h; cases h
  | ok x =>
    rw [e] at h
    dsimp only at h
    by_cases c : x.2.2 = []
    · rw [if_pos c] at h
      cases h
      exact coat_deep e
    · rw [if_neg c] at h
      cases h
end HC
namespace HC
/-! ### well made coats, with all bounds -/
def VField : Sh.Field → Prop
  | .plain t => t ≤ 8
  | .parted d l a b => d ≤ 7 ∧ l ≤ 5 ∧ a ≤ 8 ∧ b ≤ 8
  | .varied v n l a b => v ≤ 6 ∧ 2 ≤ n ∧ n ≤ 24 ∧ l ≤ 5 ∧ a ≤ 8 ∧ b ≤ 8
def VFill : Sh.Fill → Prop
  | .solid f => VField f
  | .counter => True
def VLayer : Sh.Layer → Prop
  | .ord o l f => o ≤ 12 ∧ l ≤ 5 ∧ VFill f
  | .group c n m s f => c ≤ 15 ∧ 1 ≤ n ∧ n ≤ 10 ∧ m ≤ 6 ∧ 1 ≤ s ∧ s ≤ 4 ∧ VFill f
def VArms (a : Sh.Arms) : Prop := VField a.field ∧ a.layers.length ≤ 8 ∧ ∀ x ∈ a.layers, VLayer x
def VOpt : Option Sh.Arms → Prop
  | none => True
  | some a => VArms a
def VMarked (m : ShMarsh.Marked) : Prop := VArms m.arms ∧ VOpt m.canton ∧ m.marks.length ≤ 60 ∧ ∀ x ∈ m.marks, x.1 ≤ 127 ∧ x.2 ≤ 255
mutual
def VCoat : ShMarsh.Coat → Prop
  | .one m => VMarked m
  | .quarters l => 2 ≤ l.length ∧ l.length ≤ 9 ∧ VCoats l
  | .impaled a b => VCoat a ∧ VCoat b
  | .pretence a b => VCoat a ∧ VCoat b
def VCoats : List ShMarsh.Coat → Prop
  | [] => True
  | x :: l => VCoat x ∧ VCoats l
end
theorem vcoats_mem : ∀ {l : List ShMarsh.Coat} {x : ShMarsh.Coat}, VCoats l → x ∈ l → VCoat x
  | y :: l, x, h, m => by
    rcases List.mem_cons.mp m with e | e
    · rw [e]
      exact h.1
    · exact vcoats_mem h.2 e
end HC
namespace HC
theorem vna {lo hi x p : Nat} {b : Sh.Bytes} {y : Nat × Nat × Sh.Bytes} (h : Sh.numAt lo hi x p b = .ok y) : lo ≤ y.1 ∧ y.1 ≤ hi ∧ y.1 ≠ x := by
  unfold Sh.numAt at h
  split at h
  · cases h
  · split at h
    · cases h
    · rename_i c r hn
      cases h
      refine ⟨?_, ?_, ?_⟩
      · have : ¬ c.toNat < lo := fun z => hn (.inl z)
        show lo ≤ c.toNat
        omega
      · have : ¬ hi < c.toNat := fun z => hn (.inr (.inl z))
        show c.toNat ≤ hi
        omega
      · exact fun z => hn (.inr (.inr z))
theorem vtwo_ok {p : Nat} {b : Sh.Bytes} {y : (Nat × Nat) × Nat × Sh.Bytes} (h : Sh.twoAt p b = .ok y) : y.1.1 ≤ 8 ∧ y.1.2 ≤ 8 := by
  unfold Sh.twoAt at h
  split at h
  · cases h
  · split at h
    · cases h
    · rename_i ha _ c hc
      cases h
      exact ⟨(vna ha).2.1, (vna hc).2.1⟩
theorem vfield_ok {p : Nat} {b : Sh.Bytes} {y : Sh.Field × Nat × Sh.Bytes} (h : Sh.fieldAt p b = .ok y) : VField y.1 := by
  unfold Sh.fieldAt at h
  split at h
  · cases h
  · split at h
    · split at h
      · cases h
      · rename_i t ht
        cases h; exact (vna ht).2.1
    · split at h
      · split at h
        · cases h
        · rename_i d hd
          split at h
          · cases h
          · rename_i l hl
            split at h
            · cases h
            · rename_i t ht
              cases h
              exact ⟨(vna hd).2.1, (vna hl).2.1, vtwo_ok ht⟩
      · split at h
        · cases h
        · rename_i v hv
          split at h
          · cases h
          · rename_i n hn
            split at h
            · cases h
            · rename_i l hl
              split at h
              · cases h
              · rename_i t ht
                cases h
                refine ⟨(vna hv).2.1, (vna hn).1, (vna hn).2.1, ?_, vtwo_ok ht⟩
                have := (vna hl).2.1
                split at this <;> omega
theorem vfill_ok {f : Sh.Field} {p : Nat} {b : Sh.Bytes} {y : Sh.Fill × Nat × Sh.Bytes} (h : Sh.fillAt f p b = .ok y) : VFill y.1 := by
  unfold Sh.fillAt at h
  split at h
  · cases h
  · rename_i k hk
    split at h
    · rename_i h1
      cases h
      trivial
    · split at h
      · cases h
      · rename_i g hg
        cases h
        exact vfield_ok hg
theorem vlayer_ok {f : Sh.Field} {p : Nat} {b : Sh.Bytes} {y : Sh.Layer × Nat × Sh.Bytes} (h : Sh.layerAt f p b = .ok y) : VLayer y.1 := by
  unfold Sh.layerAt at h
  split at h
  · cases h
  · split at h
    · split at h
      · cases h
      · rename_i o ho
        split at h
        · cases h
        · rename_i l hl
          split at h
          · cases h
          · rename_i g hg
            cases h
            exact ⟨(vna ho).2.1, (vna hl).2.1, vfill_ok hg⟩
    · split at h
      · cases h
      · rename_i c hc
        split at h
        · cases h
        · rename_i n hn
          split at h
          · cases h
          · rename_i m hm
            split at h
            · cases h
            · rename_i s hs
              split at h
              · cases h
              · rename_i g hg
                cases h
                exact ⟨(vna hc).2.1, (vna hn).1, (vna hn).2.1, (vna hm).2.1, (vna hs).1, (vna hs).2.1, vfill_ok hg⟩
theorem vlayers_ok {f : Sh.Field} : ∀ {n p : Nat} {b : Sh.Bytes} {y : List Sh.Layer × Nat × Sh.Bytes}, Sh.layersFrom f n p b = .ok y → y.1.length = n ∧ ∀ x ∈ y.1, VLayer x
  | 0, _, _, _, h => by
    cases h
    exact ⟨rfl, fun x hx => nomatch hx⟩
  | n + 1, _, _, _, h => by
    unfold Sh.layersFrom at h
    split at h
    · cases h
    · rename_i x hx
      split at h
      · cases h
      · rename_i l hl
        cases h
        have ih := vlayers_ok hl
        refine ⟨by rw [List.length_cons, ih.1], fun z hz => ?_⟩
        rcases List.mem_cons.mp hz with e | e
        · subst e; exact vlayer_ok hx
        · exact ih.2 z e
theorem varms_ok {p : Nat} {b : Sh.Bytes} {y : Sh.Arms × Nat × Sh.Bytes} (h : ShMarsh.armsFrom p b = .ok y) : VArms y.1 := by
  unfold ShMarsh.armsFrom at h
  split at h
  · cases h
  · rename_i f hf
    split at h
    · cases h
    · rename_i n hn
      split at h
      · cases h
      · rename_i l hl
        cases h
        have ih := vlayers_ok hl
        exact ⟨vfield_ok hf, by rw [ih.1]; exact (vna hn).2.1, ih.2⟩
theorem vmarks_ok : ∀ {n p : Nat} {b : Sh.Bytes} {y : List (Nat × Nat) × Nat × Sh.Bytes}, ShMarsh.marksFrom n p b = .ok y → y.1.length = n ∧ ∀ x ∈ y.1, x.1 ≤ 127 ∧ x.2 ≤ 255
  | 0, _, _, _, h => by
    cases h
    exact ⟨rfl, fun x hx => nomatch hx⟩
  | n + 1, _, _, _, h => by
    unfold ShMarsh.marksFrom at h
    split at h
    · cases h
    · rename_i g hg
      split at h
      · cases h
      · rename_i k hk
        split at h
        · cases h
        · rename_i l hl
          cases h
          have ih := vmarks_ok hl
          refine ⟨by rw [List.length_cons, ih.1], fun z hz => ?_⟩
          rcases List.mem_cons.mp hz with e | e
          · subst e; exact ⟨(vna hg).2.1, (vna hk).2.1⟩
          · exact ih.2 z e
theorem vmarked_ok {p : Nat} {b : Sh.Bytes} {y : ShMarsh.Marked × Nat × Sh.Bytes} (h : ShMarsh.markedFrom p b = .ok y) : VMarked y.1 := by
  unfold ShMarsh.markedFrom at h
  split at h
  · cases h
  · rename_i a ha
    split at h
    · cases h
    · rename_i k hk
      split at h
      · cases h
      · rename_i c hc
        split at h
        · cases h
        · rename_i n hn
          split at h
          · cases h
          · rename_i m hm
            cases h
            have hmk := vmarks_ok hm
            refine ⟨varms_ok ha, ?_, by rw [hmk.1]; exact (vna hn).2.1, hmk.2⟩
            split at hc
            · cases hc; trivial
            · cases e : ShMarsh.armsFrom k.2.1 k.2.2 with
              | error e' => rw [e] at hc; cases hc
              | ok z => rw [e] at hc; cases hc; exact varms_ok e
theorem vseveral_ok {one : Nat → Sh.Bytes → Except Nat (ShMarsh.Coat × Nat × Sh.Bytes)} (ho : ∀ p b y, one p b = .ok y → VCoat y.1) : ∀ {n p : Nat} {b : Sh.Bytes} {y : List ShMarsh.Coat × Nat × Sh.Bytes}, ShMarsh.several one n p b = .ok y → y.1.length = n ∧ VCoats y.1
  | 0, _, _, _, h => by
    cases h
    exact ⟨rfl, trivial⟩
  | n + 1, _, _, _, h => by
    unfold ShMarsh.several at h
    split at h
    · cases h
    · rename_i x hx
      split at h
      · cases h
      · rename_i l hl
        cases h
        have ih := vseveral_ok ho hl
        exact ⟨by rw [List.length_cons, ih.1], ho _ _ _ hx, ih.2⟩
theorem vcoat_ok : ∀ {d p : Nat} {b : Sh.Bytes} {y : ShMarsh.Coat × Nat × Sh.Bytes}, ShMarsh.coatFrom d p b = .ok y → VCoat y.1
  | 0, _, _, _, h => by cases h
  | d + 1, _, _, _, h => by
    unfold ShMarsh.coatFrom at h
    split at h
    · cases h
    · split at h
      · split at h
        · cases h
        · rename_i m hm
          cases h
          exact vmarked_ok hm
      · split at h
        · split at h
          · cases h
          · rename_i n hn
            split at h
            · cases h
            · rename_i l hl
              cases h
              have hs := vseveral_ok (fun p b y => vcoat_ok) hl
              exact ⟨by rw [hs.1]; exact (vna hn).1, by rw [hs.1]; exact (vna hn).2.1, hs.2⟩
        · split at h
          · cases h
          · rename_i x hx
            split at h
            · cases h
            · rename_i z hz
              cases h
              show VCoat (if _ then ShMarsh.Coat.impaled x.1 z.1 else ShMarsh.Coat.pretence x.1 z.1)
              split
              · exact ⟨vcoat_ok hx, vcoat_ok hz⟩
              · exact ⟨vcoat_ok hx, vcoat_ok hz⟩
theorem vread_ok {b : Sh.Bytes} {c : ShMarsh.Coat} (h : ShMarsh.readCoat b = .ok c) : VCoat c := by
  unfold ShMarsh.readCoat at h
  split at h
  · cases h
  · rename_i x hx
    split at h
    · cases h
      exact vcoat_ok hx
    · cases h
end HC
namespace HC
open PySem PySem.Spec PyProof.Rows L2
/-! ### max(xs, default=z) of a list of ints -/
def rMaxD (K : PySem.W.Frag) : List V → List V → Hp → VK → Prop := fun vs zs H Q => ∃ (a : Addr) (ns : List Int) (z : V), vs = [V.ref a] ∧ zs = [z] ∧ SqL K H a (ns.map V.int) ∧ (ns = [] → Q z H) ∧ ∀ n r, ns = n :: r → Q (.int (PySem.W.maxOf n r)) H
theorem int_holds {h : Heap} {v : Value} {n : Int} (hv : PySem.W.Holds h v n) : ∃ t, v = .int n t := by
  obtain ⟨as, r⟩ := hv
  cases r with
  | int _ t => exact ⟨t, rfl⟩
theorem cr_maxD {X : Cx} {k : Nat} (hc : X.calm = true) (hr : Room k X.A) : CallRK X (.builtin "max") ["default"] (rMaxD X.K) := by
  intro pins sh st Hh xs zs us ws Qv Iv r1 r2 hw
  obtain ⟨a, ns, z, rfl, rfl, hs, q0, q1⟩ := hw
  obtain ⟨its, rv, hl, _⟩ := Iv.list hs
  obtain ⟨u, rfl, ru⟩ := vals1 r2
  rw [Vals.ref1 r1]
  have hu : X.A.units + 1 + PySem.W.Datum.depth Int < cLine := by
    have h1 := hr.units
    have h2 : PySem.W.Datum.depth Int ≤ 8 := by decide
    omega
  refine PySem.W.max_list_datum_default (xs := ns) (Iv.ok.hd hc) hl.isList (PySem.W.HoldAll.of_ints (by simpa using rv.ints)) hu (fun e h' tk hk => ?_) (fun n r i v h' tk e hi hv hk => ?_)
  · exact ⟨z, Hh, Iv.kept hk, ru, q0 e⟩
  · obtain ⟨t, rfl⟩ := int_holds hv
    exact ⟨.int _, Hh, Iv.kept hk, ⟨_, rfl⟩, q1 n r e⟩
/-! ### the coats in a coat -/
def inn : ShMarsh.Coat → List ShMarsh.Coat
  | .one _ => []
  | .quarters l => l
  | .impaled a b => [a, b]
  | .pretence a b => [a, b]
mutual
/-- lists of coats are short, all the way -/
def Small : ShMarsh.Coat → Prop
  | .one _ => True
  | .quarters l => l.length ≤ 1000 ∧ Smalls l
  | .impaled a b => Small a ∧ Small b
  | .pretence a b => Small a ∧ Small b
def Smalls : List ShMarsh.Coat → Prop
  | [] => True
  | x :: l => Small x ∧ Smalls l
end
theorem smalls_mem : ∀ {l : List ShMarsh.Coat} {x : ShMarsh.Coat}, Smalls l → x ∈ l → Small x
  | y :: l, x, h, m => by
    rcases List.mem_cons.mp m with e | e
    · rw [e]
      exact h.1
    · exact smalls_mem h.2 e
theorem Small.sub {c x : ShMarsh.Coat} (h : Small c) (m : x ∈ inn c) : Small x := by
  cases c with
  | one _ => cases m
  | quarters l => exact smalls_mem h.2 m
  | impaled a b =>
    obtain ⟨h1, h2⟩ : Small a ∧ Small b := h
    rcases List.mem_cons.mp m with e | e
    · rw [e]; exact h1
    · rcases List.mem_cons.mp e with e | e
      · rw [e]; exact h2
      · cases e
  | pretence a b =>
    obtain ⟨h1, h2⟩ : Small a ∧ Small b := h
    rcases List.mem_cons.mp m with e | e
    · rw [e]; exact h1
    · rcases List.mem_cons.mp e with e | e
      · rw [e]; exact h2
      · cases e
theorem small_len {c : ShMarsh.Coat} (h : Small c) : (inn c).length ≤ 1000 := by
  cases c with
  | one _ => exact Nat.zero_le _
  | quarters l => exact h.1
  | impaled a b => show 2 ≤ 1000; decide
  | pretence a b => show 2 ≤ 1000; decide
theorem Small.len {c x : ShMarsh.Coat} (h : Small c) (m : x ∈ inn c) : (inn x).length ≤ 1000 := small_len (h.sub m)
mutual
theorem small_of : ∀ {c : ShMarsh.Coat}, WCoat c → Small c
  | .one _, _ => trivial
  | .quarters l, h => by
    obtain ⟨h1, h2, h3⟩ : 2 ≤ l.length ∧ l.length ≤ 9 ∧ WCoats l := h
    exact ⟨by omega, smalls_of h3⟩
  | .impaled a b, h => by
    obtain ⟨h1, h2⟩ : WCoat a ∧ WCoat b := h
    exact ⟨small_of h1, small_of h2⟩
  | .pretence a b, h => by
    obtain ⟨h1, h2⟩ : WCoat a ∧ WCoat b := h
    exact ⟨small_of h1, small_of h2⟩
theorem smalls_of : ∀ {l : List ShMarsh.Coat}, WCoats l → Smalls l
  | [], _ => trivial
  | x :: l, h => by
    obtain ⟨h1, h2⟩ : WCoat x ∧ WCoats l := h
    exact ⟨small_of h1, smalls_of h2⟩
end
def isOne : ShMarsh.Coat → Bool
  | .one _ => true
  | _ => false
theorem parts_sum : ∀ l : List ShMarsh.Coat, ShMarsh.partsOf l = (l.map ShMarsh.Coat.parts).sum
  | [] => rfl
  | x :: l => by
    show x.parts + ShMarsh.partsOf l = _
    rw [parts_sum l, List.map_cons, List.sum_cons]
theorem parts_inn {c : ShMarsh.Coat} (h : isOne c = false) : c.parts = ((inn c).map ShMarsh.Coat.parts).sum := by
  cases c with
  | one m => cases h
  | quarters l => exact parts_sum l
  | impaled a b =>
    show a.parts + b.parts = a.parts + (b.parts + 0)
    omega
  | pretence a b =>
    show a.parts + b.parts = a.parts + (b.parts + 0)
    omega
def most : List Nat → Nat
  | [] => 0
  | x :: l => max x (most l)
theorem deepest_most : ∀ l : List ShMarsh.Coat, ShMarsh.deepest l = most (l.map ShMarsh.Coat.deep)
  | [] => rfl
  | x :: l => by
    show max x.deep (ShMarsh.deepest l) = max x.deep (most (l.map ShMarsh.Coat.deep))
    rw [deepest_most l]
theorem deep_inn (c : ShMarsh.Coat) : c.deep = 1 + most ((inn c).map ShMarsh.Coat.deep) := by
  cases c with
  | one m => rfl
  | quarters l =>
    show ShMarsh.deepest l + 1 = _
    rw [deepest_most, Nat.add_comm]
    rfl
  | impaled a b =>
    show max a.deep b.deep + 1 = 1 + max a.deep (max b.deep 0)
    omega
  | pretence a b =>
    show max a.deep b.deep + 1 = 1 + max a.deep (max b.deep 0)
    omega
theorem most_le : ∀ {l : List Nat} {x : Nat}, x ∈ l → x ≤ most l
  | y :: l, x, h => by
    rcases List.mem_cons.mp h with e | e
    · subst e
      exact Nat.le_max_left _ _
    · exact Nat.le_trans (most_le e) (Nat.le_max_right _ _)
theorem inn_deep {c x : ShMarsh.Coat} (h : x ∈ inn c) : x.deep + 1 ≤ c.deep := by
  have := most_le (List.mem_map.mpr ⟨x, h, rfl⟩ : x.deep ∈ (inn c).map ShMarsh.Coat.deep)
  rw [deep_inn c]
  omega
theorem lt_int (a b : Int) : PySem.W.DatumOrd.lt a b = decide (a < b) := rfl
theorem max_step (n x : Nat) (r : List Int) : PySem.W.maxOf (n : Int) ((x : Int) :: r) = PySem.W.maxOf ((max n x : Nat) : Int) r := by
  show PySem.W.maxOf (if PySem.W.DatumOrd.lt (n : Int) (x : Int) = true then (x : Int) else (n : Int)) r = _
  have e : (if PySem.W.DatumOrd.lt (n : Int) (x : Int) = true then (x : Int) else (n : Int)) = ((max n x : Nat) : Int) := by
    rw [lt_int]
    by_cases h : (n : Int) < (x : Int)
    · rw [decide_eq_true h, if_pos rfl]
      omega
    · rw [decide_eq_false h, if_neg (by decide)]
      omega
  rw [e]
theorem max_most : ∀ (r : List Nat) (n : Nat), PySem.W.maxOf (n : Int) (r.map fun (x : Nat) => (x : Int)) = ((max n (most r) : Nat) : Int)
  | [], n => by
    show (n : Int) = ((max n 0 : Nat) : Int)
    rw [Nat.max_zero]
  | x :: r, n => by
    rw [List.map_cons, max_step, max_most r]
    show ((max (max n x) (most r) : Nat) : Int) = ((max n (max x (most r)) : Nat) : Int)
    rw [Nat.max_assoc]
theorem sum_cast : ∀ l : List Nat, (l.map fun (x : Nat) => (x : Int)).sum = ((l.sum : Nat) : Int)
  | [] => rfl
  | x :: l => by
    rw [List.map_cons, List.sum_cons, List.sum_cons, sum_cast l]
    omega
theorem map_vN (l : List Nat) : l.map vN = (l.map fun (x : Nat) => (x : Int)).map V.int := by
  rw [List.map_map]
  rfl
/-- a list of numbers that a comprehension builds at D -/
structure Cn (H : Hp) (D : Addr) (ys : List Nat) (i : Nat) (H' : Hp) : Prop where
  sm : ∀ b o, b ≠ D → H b = some o → H' b = some o
  ac : H' D = some (.lst ((ys.take i).map vN))
theorem Cn.start {H : Hp} {D : Addr} {ys : List Nat} : Cn H D ys 0 (upd H D (.lst [])) := ⟨fun b o n h => by rw [upd_ne n]; exact h, upd_same⟩
theorem Cn.turn {H H' H4 : Hp} {D : Addr} {ys : List Nat} {i y : Nat} (c : Cn H D ys i H') (s : Same H' H4) (hy : ys[i]? = some y) : H4 D = some (.lst ((ys.take i).map vN)) ∧ Cn H D ys (i + 1) (upd H4 D (.lst ((ys.take i).map vN ++ [vN y]))) := by
  refine ⟨s _ _ c.ac, fun b o n h => ?_, ?_⟩
  · rw [upd_ne n]
    exact s _ _ (c.sm b o n h)
  · rw [upd_same, List.take_add_one, hy, List.map_append]
    rfl
theorem Cn.fin {H H' : Hp} {D : Addr} {ys : List Nat} (c : Cn H D ys ys.length H') (hD : H D = none) : Same H H' ∧ H' D = some (.lst (ys.map vN)) := by
  refine ⟨fun b o h => c.sm b o (ne_of_none h hD) h, ?_⟩
  have := c.ac
  rw [List.take_length] at this
  exact this
section
variable {P : Program} {w : World} {K : PySem.W.Frag} {mg : Str → Option Value} {base : Heap} {d : Ad}
theorem all_of {H0 H : Hp} : ∀ {l : List ShMarsh.Coat} {us : List V}, RCoats d H0 H l us → All2 (RC d H0 H) us l
  | [], us, h => by
    have h' : us = [] := h
    subst h'
    exact .nil
  | x :: l, us, h => by
    obtain ⟨u, r, rfl, h1, h2⟩ := h
    exact .cons h1 (all_of h2)
theorem All2.at_ {α : Type} {R : V → α → Prop} {vs : List V} {xs : List α} (t : All2 R vs xs) : ∀ {i : Nat} {v : V}, vs[i]? = some v → ∃ x, xs[i]? = some x ∧ R v x := by
  induction t with
  | nil => intro i v h; simp at h
  | cons h' _ ih =>
    intro i v h
    cases i with
    | zero =>
      simp at h
      subst h
      exact ⟨_, rfl, h'⟩
    | succ i =>
      obtain ⟨x, e, r⟩ := ih (i := i) (by simpa using h)
      exact ⟨x, by simpa using e, r⟩
/-- a new list of the coats in the coat -/
def spInn (d : Ad) : Sp := fun vs H Q _ => ∃ (v : V) (c : ShMarsh.Coat) (H0 : Hp), vs = [v] ∧ RC d H0 H v c ∧ ∀ (H' : Hp) (p : Addr) (us : List V), Same H H' → H p = none → H' p = some (.lst us) → All2 (RC d H0 H) us (inn c) → Q (.ref p) H'
theorem sc_coats_in : FnScope ["coat"] ["coat"] (defScope s_coats_in) := ⟨rfl, rfl, rfl, by decide +kernel, rfl, by decide +kernel, by decide +kernel⟩
theorem ok_coats_in (T : Txt K mg d) : OkD P w K mg base CX0 2 d.f_coats_in ["coat"] (spInn d) := by
  obtain ⟨fd, F, B⟩ := T.k_coats_in.ex
  refine ⟨⟨fd, F.ok sc_coats_in (fun vs H Q E h => ?_) (fun cdv A outer s H vs Q E hr h => ?_), B⟩, F.kp⟩
  · obtain ⟨v, c, H0, rfl, _⟩ := h
    rfl
  · obtain ⟨v, c, H0, rfl, hv, k⟩ := h
    refine ⟨_, pss_cons (ps_if (pt_val (pe_callB call_isi (by rfl) T.b_isinstance (by decide +kernel) (pa_cons (pv 0) (pa_cons (pe_glob (v := .ref d.cMarked) rfl T.kMarked.gl rfl) pa_nil))))
        (pss_one (ps_ret (pe_lst pa_nil)))
        pss_nil)
      (pss_cons (ps_if (pt_val (pe_callB call_isi (by rfl) T.b_isinstance (by decide +kernel) (pa_cons (pv 0) (pa_cons (pe_glob (v := .ref d.cQuarterly) rfl T.kQuarterly.gl rfl) pa_nil))))
        (pss_one (ps_ret (pe_callTy call_list_of (by rfl) T.b_list (by decide +kernel) (pa_cons (pe_fld (pv 0) rfl) pa_nil))))
        pss_nil)
      (pss_cons (ps_if (pt_val (pe_callB call_isi (by rfl) T.b_isinstance (by decide +kernel) (pa_cons (pv 0) (pa_cons (pe_glob (v := .ref d.cImpaled) rfl T.kImpaled.gl rfl) pa_nil))))
        (pss_one (ps_ret (pe_lst (pa_cons (pe_fld (pv 0) rfl) (pa_cons (pe_fld (pv 0) rfl) pa_nil)))))
        pss_nil)
      (pss_one (ps_ret (pe_lst (pa_cons (pe_fld (pv 0) rfl) (pa_cons (pe_fld (pv 0) rfl) pa_nil))))))), ?_⟩
    have new : ∀ (p : Addr) (us : List V), H p = none → All2 (RC d H0 H) us (inn c) → Q (.ref p) (upd H p (.lst us)) := fun p us np ha => k _ p us (fun b o e => by rw [upd_ne (ne_of_none e np)]; exact e) np upd_same ha
    cases c with
    | one m =>
      obtain ⟨a1, a2, a3, ⟨b, dxb, rfl, _, hb⟩, _⟩ := hv
      refine ⟨_, rfl, _, _, _, _, _, rfl, ClsV.own _, .base (.ins hb T.kMarked.cl T.kMarked.cla T.gs T.tk T.kMarked.mro), T.iMarked_Marked, _, rfl, ?_⟩
      refine iteT ?_
      exact ⟨Nat.zero_le _, fun p np => new p [] np .nil⟩
    | quarters l =>
      obtain ⟨q, us, ⟨b, dxb, rfl, _, hb⟩, ⟨_, hq⟩, hc⟩ := hv
      refine ⟨_, rfl, _, _, _, _, _, rfl, ClsV.own _, .base (.ins hb T.kQuarterly.cl T.kQuarterly.cla T.gs T.tk T.kQuarterly.mro), T.iQuarterly_Marked, _, rfl, ?_⟩
      refine iteF ?_
      refine ⟨_, rfl, _, _, _, _, _, rfl, ClsV.own _, .base (.ins hb T.kQuarterly.cl T.kQuarterly.cla T.gs T.tk T.kQuarterly.mro), T.iQuarterly_Quarterly, _, rfl, ?_⟩
      refine iteT ?_
      exact ⟨_, rfl, b, d.cQuarterly, dxb, _, _, rfl, hb, T.kQuarterly.cl, T.kQuarterly.no.1, look_at _ _ _ 0 rfl (by decide +kernel), q, us, rfl, .inl (SqL.of hq), fun p np => new p us np (all_of hc)⟩
    | impaled x y =>
      obtain ⟨ux, uy, ⟨b, dxb, rfl, _, hb⟩, hx, hy⟩ := hv
      refine ⟨_, rfl, _, _, _, _, _, rfl, ClsV.own _, .base (.ins hb T.kImpaled.cl T.kImpaled.cla T.gs T.tk T.kImpaled.mro), T.iImpaled_Marked, _, rfl, ?_⟩
      refine iteF ?_
      refine ⟨_, rfl, _, _, _, _, _, rfl, ClsV.own _, .base (.ins hb T.kImpaled.cl T.kImpaled.cla T.gs T.tk T.kImpaled.mro), T.iImpaled_Quarterly, _, rfl, ?_⟩
      refine iteF ?_
      refine ⟨_, rfl, _, _, _, _, _, rfl, ClsV.own _, .base (.ins hb T.kImpaled.cl T.kImpaled.cla T.gs T.tk T.kImpaled.mro), T.iImpaled_Impaled, _, rfl, ?_⟩
      refine iteT ?_
      exact ⟨_, rfl, b, d.cImpaled, dxb, _, _, rfl, hb, T.kImpaled.cl, T.kImpaled.no.1, look_at _ _ _ 0 rfl (by decide +kernel), _, rfl, b, d.cImpaled, dxb, _, _, rfl, hb, T.kImpaled.cl, T.kImpaled.no.2.1, look_at _ _ _ 1 rfl (by decide +kernel), (by show 2 ≤ sizeLine; decide), fun p np => new p [ux, uy] np (.cons hx (.cons hy .nil))⟩
    | pretence x y =>
      obtain ⟨ux, uy, ⟨b, dxb, rfl, _, hb⟩, hx, hy⟩ := hv
      refine ⟨_, rfl, _, _, _, _, _, rfl, ClsV.own _, .base (.ins hb T.kPretence.cl T.kPretence.cla T.gs T.tk T.kPretence.mro), T.iPretence_Marked, _, rfl, ?_⟩
      refine iteF ?_
      refine ⟨_, rfl, _, _, _, _, _, rfl, ClsV.own _, .base (.ins hb T.kPretence.cl T.kPretence.cla T.gs T.tk T.kPretence.mro), T.iPretence_Quarterly, _, rfl, ?_⟩
      refine iteF ?_
      refine ⟨_, rfl, _, _, _, _, _, rfl, ClsV.own _, .base (.ins hb T.kPretence.cl T.kPretence.cla T.gs T.tk T.kPretence.mro), T.iPretence_Impaled, _, rfl, ?_⟩
      refine iteF ?_
      exact ⟨_, rfl, b, d.cPretence, dxb, _, _, rfl, hb, T.kPretence.cl, T.kPretence.no.1, look_at _ _ _ 0 rfl (by decide +kernel), _, rfl, b, d.cPretence, dxb, _, _, rfl, hb, T.kPretence.cl, T.kPretence.no.2.1, look_at _ _ _ 1 rfl (by decide +kernel), (by show 2 ≤ sizeLine; decide), fun p np => new p [ux, uy] np (.cons hx (.cons hy .nil))⟩
end
end HC


namespace HC
open PySem PySem.Spec PyProof.Rows L2
/-! ### texts as bytes -/
def strOf (b : List UInt8) : Str := ⟨(b.map UInt8.toNat).toArray⟩
abbrev vS (b : List UInt8) : V := .str (strOf b)
theorem tl_strOf (b : List UInt8) : (strOf b).cps.toList = b.map UInt8.toNat := rfl
theorem strOf_app (a b : List UInt8) : strOf a ++ strOf b = strOf (a ++ b) := TL.ext_tl (by
  rw [TL.tl_append]
  show a.map _ ++ b.map _ = (a ++ b).map _
  rw [List.map_append])
theorem strOf_len (b : List UInt8) : (strOf b).length = b.length := by
  rw [TL.len_tl]
  show (b.map UInt8.toNat).length = _
  rw [List.length_map]
theorem u8map_inj : ∀ {a b : List UInt8}, a.map UInt8.toNat = b.map UInt8.toNat → a = b
  | [], [], _ => rfl
  | [], _ :: _, h => by simp at h
  | _ :: _, [], h => by simp at h
  | x :: a, y :: b, h => by
    rw [List.map_cons, List.map_cons] at h
    injection h with h1 h2
    rw [UInt8.toNat_inj.mp h1, u8map_inj h2]
theorem strOf_inj {a b : List UInt8} (h : strOf a = strOf b) : a = b := u8map_inj (congrArg (fun z : Str => z.cps.toList) h)
theorem vS_inj {a b : List UInt8} (h : vS a = vS b) : a = b := strOf_inj (by injection h)
theorem dec_vS (a b : List UInt8) : decide (vS a = vS b) = decide (a = b) := by
  by_cases h : a = b
  · rw [h, decide_eq_true rfl, decide_eq_true rfl]
  · rw [decide_eq_false h, decide_eq_false fun e => h (vS_inj e)]
def ne (b : List UInt8) : Bool := !decide (b = [])
theorem ne_str (w : List UInt8) {z : Str} (hz : z = strOf []) : (!decide (V.str (strOf w) = V.str z)) = ne w := by
  subst hz
  unfold ne
  rw [dec_vS]
/-! ### texts put together -/
def glue (sep : List UInt8) : List (List UInt8) → List UInt8
  | [] => []
  | [b] => b
  | b :: r => b ++ (sep ++ glue sep r)
theorem join_glue (sep : List UInt8) : ∀ l : List (List UInt8), Str.join (strOf sep) (l.map strOf) = strOf (glue sep l)
  | [] => rfl
  | [_] => rfl
  | x :: y :: r => by
    show strOf x ++ strOf sep ++ Str.join (strOf sep) ((y :: r).map strOf) = strOf (x ++ (sep ++ glue sep (y :: r)))
    rw [join_glue sep (y :: r), strOf_app, strOf_app, List.append_assoc]
theorem txt_glue {z : Str} {sep : List UInt8} (hz : z = strOf sep) (l : List (List UInt8)) : Txt.join z (l.map strOf) = strOf (glue sep l) := by
  subst hz
  show Builtin.Str.glued _ _ = _
  rw [StrLaws.glued_eq_join, join_glue]
theorem glue_spaced : ∀ l : List (List UInt8), glue [32] l = ShBlazon.spaced l
  | [] => rfl
  | [_] => rfl
  | x :: y :: r => by
    show x ++ ([32] ++ glue [32] (y :: r)) = x ++ (32 :: ShBlazon.spaced (y :: r))
    rw [glue_spaced (y :: r)]
    rfl
theorem glue_flat (sep : List UInt8) : ∀ (x : List UInt8) (l : List (List UInt8)), glue sep (x :: l) = x ++ l.flatMap fun w => sep ++ w
  | x, [] => by
    show x = x ++ []
    rw [List.append_nil]
  | x, y :: r => by
    show x ++ (sep ++ glue sep (y :: r)) = x ++ (y :: r).flatMap fun w => sep ++ w
    rw [glue_flat sep y r, List.flatMap_cons, List.append_assoc]
theorem glue_len (sep : List UInt8) : ∀ l : List (List UInt8), (glue sep l).length ≤ (l.map List.length).sum + l.length * sep.length
  | [] => Nat.zero_le _
  | [x] => by
    show x.length ≤ x.length + 0 + 1 * sep.length
    omega
  | x :: y :: r => by
    have h := glue_len sep (y :: r)
    show (x ++ (sep ++ glue sep (y :: r))).length ≤ _
    rw [List.length_append, List.length_append]
    simp only [List.map_cons, List.sum_cons, List.length_cons, Nat.succ_mul] at h ⊢
    omega
theorem sum_le : ∀ (l : List (List UInt8)) (n : Nat), (∀ w ∈ l, w.length ≤ n) → (l.map List.length).sum ≤ l.length * n
  | [], _, _ => Nat.zero_le _
  | x :: l, n, h => by
    have h1 := h x List.mem_cons_self
    have h2 := sum_le l n fun w hw => h w (List.mem_cons_of_mem _ hw)
    rw [List.map_cons, List.sum_cons, List.length_cons, Nat.succ_mul]
    omega
theorem lens_of (l : List (List UInt8)) : (l.map strOf).map (fun z : Str => z.length) = l.map List.length := by
  rw [List.map_map]
  exact List.map_congr_left fun w _ => strOf_len w
open ShBlazon
theorem spaced_cons {x : List UInt8} {l : List (List UInt8)} (h : l ≠ []) : spaced (x :: l) = x ++ (32 :: spaced l) := by
  cases l with
  | nil => exact absurd rfl h
  | cons y r => rfl
theorem spaced_app : ∀ {a b : List (List UInt8)}, a ≠ [] → b ≠ [] → spaced (a ++ b) = spaced a ++ (32 :: spaced b)
  | [], _, h, _ => absurd rfl h
  | [x], b, _, hb => spaced_cons hb
  | x :: y :: r, b, _, hb => by
    show x ++ (32 :: spaced ((y :: r) ++ b)) = (x ++ (32 :: spaced (y :: r))) ++ (32 :: spaced b)
    rw [spaced_app (a := y :: r) (fun z => by cases z) hb, List.append_assoc]
    rfl
theorem spaced_ne {g : List (List UInt8)} (h : g ≠ []) (hw : ∀ w ∈ g, w ≠ []) : spaced g ≠ [] := by
  cases g with
  | nil => exact absurd rfl h
  | cons x r =>
    have hx := hw x List.mem_cons_self
    cases r with
    | nil => exact hx
    | cons y r =>
      intro z
      have z' : x ++ (32 :: spaced (y :: r)) = [] := z
      exact hx (List.append_eq_nil_iff.mp z').1
theorem ne_true {w : List UInt8} (h : w ≠ []) : ne w = true := by
  unfold ne
  rw [decide_eq_false h]
  rfl
theorem spaced_groups : ∀ gs : List (List (List UInt8)), (∀ g ∈ gs, ∀ w ∈ g, w ≠ []) → spaced ((gs.map spaced).filter ne) = spaced gs.flatten ∧ (gs.flatten ≠ [] → (gs.map spaced).filter ne ≠ [])
  | [], _ => ⟨rfl, fun h => absurd rfl h⟩
  | g :: r, h => by
    obtain ⟨i1, i2⟩ := spaced_groups r fun g' hg => h g' (List.mem_cons_of_mem _ hg)
    have hg := h g List.mem_cons_self
    by_cases c : g = []
    · subst c
      have e : ((([] : List (List UInt8)) :: r).map spaced).filter ne = (r.map spaced).filter ne := by
        rw [List.map_cons, List.filter_cons_of_neg (by decide)]
      rw [e]
      exact ⟨i1, i2⟩
    · have e : ((g :: r).map spaced).filter ne = spaced g :: (r.map spaced).filter ne := by
        rw [List.map_cons, List.filter_cons_of_pos (ne_true (spaced_ne c hg))]
      rw [e]
      refine ⟨?_, fun _ z => by cases z⟩
      by_cases q : r.flatten = []
      · have f0 : (r.map spaced).filter ne = [] := by
          rw [List.filter_eq_nil_iff]
          intro w hw
          obtain ⟨g', hg', rfl⟩ := List.mem_map.mp hw
          have : g' = [] := List.flatten_eq_nil_iff.mp q g' hg'
          subst this
          decide
        rw [f0, List.flatten_cons, q, List.append_nil]
        rfl
      · rw [spaced_cons (i2 q), i1, List.flatten_cons, spaced_app c q]
theorem spaced_join {gs : List (List (List UInt8))} (h : ∀ g ∈ gs, ∀ w ∈ g, w ≠ []) : spaced ((gs.map spaced).filter ne) = spaced gs.flatten := (spaced_groups gs h).1
/-! ### words that are short, and not empty -/
def wd (n : Nat) (l : List (List UInt8)) : Bool := decide (l.length ≤ n) && l.all fun w => decide (w.length ≤ 14) && ne w
def Wd (n : Nat) (l : List (List UInt8)) : Prop := wd n l = true
theorem Wd.ne {n : Nat} {l : List (List UInt8)} (h : Wd n l) : ∀ w ∈ l, w ≠ [] := by
  intro w hw
  unfold Wd wd at h
  rw [Bool.and_eq_true] at h
  have := List.all_eq_true.mp h.2 w hw
  rw [Bool.and_eq_true] at this
  intro z
  subst z
  exact absurd this.2 (by decide)
theorem Wd.le {n : Nat} {l : List (List UInt8)} (h : Wd n l) : l.length ≤ n := by
  unfold Wd wd at h
  rw [Bool.and_eq_true] at h
  exact of_decide_eq_true h.1
theorem Wd.short {n : Nat} {l : List (List UInt8)} (h : Wd n l) : ∀ w ∈ l, w.length ≤ 14 := by
  intro w hw
  unfold Wd wd at h
  rw [Bool.and_eq_true] at h
  have := List.all_eq_true.mp h.2 w hw
  rw [Bool.and_eq_true] at this
  exact of_decide_eq_true this.1
theorem Wd.app {n m k : Nat} {a b : List (List UInt8)} (h1 : Wd n a) (h2 : Wd m b) (hk : n + m ≤ k) : Wd k (a ++ b) := by
  have l1 := h1.le
  have l2 := h2.le
  unfold Wd wd at h1 h2 ⊢
  rw [Bool.and_eq_true] at h1 h2 ⊢
  refine ⟨decide_eq_true ?_, ?_⟩
  · rw [List.length_append]
    omega
  · rw [List.all_append, h1.2, h2.2]
    rfl
theorem Wd.len {n : Nat} {l : List (List UInt8)} (h : Wd n l) : (spaced l).length ≤ n * 15 := by
  have h1 := glue_len [32] l
  have h2 := sum_le l 14 h.short
  have h3 := h.le
  rw [glue_spaced] at h1
  have h4 : l.length * ([32] : List UInt8).length = l.length := Nat.mul_one _
  rw [h4] at h1
  have h5 : l.length * 14 + l.length ≤ n * 15 := by omega
  omega
theorem Wd.none : Wd 0 [] := by
  show wd 0 [] = true
  decide
/-! ### the tables -/
def tinW (t : Nat) : List (List UInt8) := [TINCTWORDS.getD t []]
def partW (d : Nat) : List (List UInt8) := if d = 6 then [ascii "quarterly"] else if d = 7 then [ascii "gyronny"] else ascii "per" :: withSin WAYWORDS 3 d
def chW (c : Nat) : List (List UInt8) := [CHARGEWORDS.getD c []]
def sevW (c : Nat) : List (List UInt8) := [SEVERAL.getD c []]
def cntW (n : Nat) : List (List UInt8) := [ShBlazon.COUNTS.getD (n - 2) []]
theorem tin_wd : ∀ t : Fin 9, Wd 1 (tinW t.val) := by
  show ∀ t : Fin 9, wd 1 (tinW t.val) = true
  decide +kernel
theorem line_wd : ∀ t : Fin 6, Wd 1 (lineWords t.val) := by
  show ∀ t : Fin 6, wd 1 (lineWords t.val) = true
  decide +kernel
theorem part_wd : ∀ t : Fin 8, Wd 3 (partW t.val) := by
  show ∀ t : Fin 8, wd 3 (partW t.val) = true
  decide +kernel
theorem vary_wd : ∀ t : Fin 7, Wd 2 (withSin VARYWORDS 3 t.val) := by
  show ∀ t : Fin 7, wd 2 (withSin VARYWORDS 3 t.val) = true
  decide +kernel
theorem ord_wd : ∀ t : Fin 13, Wd 2 (withSin ORDWORDS 5 t.val) := by
  show ∀ t : Fin 13, wd 2 (withSin ORDWORDS 5 t.val) = true
  decide +kernel
theorem ch_wd : ∀ t : Fin 16, Wd 1 (chW t.val) := by
  show ∀ t : Fin 16, wd 1 (chW t.val) = true
  decide +kernel
theorem sev_wd : ∀ t : Fin 16, Wd 1 (sevW t.val) := by
  show ∀ t : Fin 16, wd 1 (sevW t.val) = true
  decide +kernel
theorem man_wd : ∀ t : Fin 7, Wd 3 (mannerWords t.val) := by
  show ∀ t : Fin 7, wd 3 (mannerWords t.val) = true
  decide +kernel
theorem siz_wd : ∀ t : Fin 5, Wd 1 (if t.val = 0 then [] else sizeWords t.val) := by
  show ∀ t : Fin 5, wd 1 (if t.val = 0 then [] else sizeWords t.val) = true
  decide +kernel
theorem cnt_wd : ∀ t : Fin 11, Wd 1 (if t.val < 2 then [] else cntW t.val) := by
  show ∀ t : Fin 11, wd 1 (if t.val < 2 then [] else cntW t.val) = true
  decide +kernel
theorem num_wd : ∀ t : Fin 25, Wd 1 [decimal t.val] := by
  show ∀ t : Fin 25, wd 1 [decimal t.val] = true
  decide +kernel
theorem tin_tb : ∀ t : Fin 9, wTINCTURES[t.val]? = some (strOf (spaced (tinW t.val))) := by decide +kernel
theorem line_tb : ∀ t : Fin 6, wLINES[t.val]? = some (strOf (spaced (lineWords t.val))) := by decide +kernel
theorem part_tb : ∀ t : Fin 8, wPARTED_WAYS[t.val]? = some (strOf (spaced (partW t.val))) := by decide +kernel
theorem vary_tb : ∀ t : Fin 7, wVARIED_WAYS[t.val]? = some (strOf (spaced (withSin VARYWORDS 3 t.val))) := by decide +kernel
theorem ord_tb : ∀ t : Fin 13, wORDINARIES[t.val]? = some (strOf (spaced (withSin ORDWORDS 5 t.val))) := by decide +kernel
theorem ch_tb : ∀ t : Fin 16, wCHARGES[t.val]? = some (strOf (spaced (chW t.val))) := by decide +kernel
theorem man_tb : ∀ t : Fin 7, wMANNERS[t.val]? = some (strOf (spaced (mannerWords t.val))) := by decide +kernel
theorem siz_tb : ∀ t : Fin 4, wSIZES[t.val]? = some (strOf (spaced (sizeWords (t.val + 1)))) := by decide +kernel
theorem cnt_tb : ∀ t : Fin 9, wCOUNTS[t.val]? = some (strOf (spaced (cntW (t.val + 2)))) := by decide +kernel
theorem sev_is : ∀ c : Fin 16, spaced (chW c.val) ++ [115] = spaced (sevW c.val) := by decide +kernel
theorem num_tb : ∀ n : Fin 256, Str.ofString (toString ((n.val : Nat) : Int)) = strOf (ShMarsh.number3 n.val) := by decide +kernel
theorem num_dec : ∀ n : Fin 100, ShMarsh.number3 n.val = decimal n.val := by decide +kernel
theorem num_len : ∀ n : Fin 256, (ShMarsh.number3 n.val).length ≤ 3 := by decide +kernel
theorem txt_and : ("and" : Str) = strOf (spaced [ascii "and"]) := by decide +kernel
theorem txt_of' : ("of" : Str) = strOf (spaced [ascii "of"]) := by decide +kernel
theorem txt_a : ("a" : Str) = strOf (spaced [ascii "a"]) := by decide +kernel
theorem txt_cc : ("counterchanged" : Str) = strOf (spaced [ascii "counterchanged"]) := by decide +kernel
theorem cc_wd : Wd 1 [ascii "counterchanged"] := by
  show wd 1 [ascii "counterchanged"] = true
  decide +kernel
theorem and_wd : Wd 1 [ascii "and"] := by
  show wd 1 [ascii "and"] = true
  decide +kernel
theorem of_wd : Wd 1 [ascii "of"] := by
  show wd 1 [ascii "of"] = true
  decide +kernel
theorem a_wd : Wd 1 [ascii "a"] := by
  show wd 1 [ascii "a"] = true
  decide +kernel
theorem an_wd : Wd 1 [ascii "an"] := by
  show wd 1 [ascii "an"] = true
  decide +kernel
theorem field_wd {f : Sh.Field} (h : VField f) : Wd 9 (fieldWords f) := by
  cases f with
  | plain t =>
    exact Wd.app (tin_wd ⟨t, Nat.lt_succ_of_le h⟩) Wd.none (by decide)
  | parted w l a b =>
    obtain ⟨h1, h2, h3, h4⟩ : w ≤ 7 ∧ l ≤ 5 ∧ a ≤ 8 ∧ b ≤ 8 := h
    refine Wd.app (part_wd ⟨w, by omega⟩) (Wd.app (line_wd ⟨l, by omega⟩) (Wd.app (tin_wd ⟨a, Nat.lt_succ_of_le h3⟩) (Wd.app and_wd (tin_wd ⟨b, Nat.lt_succ_of_le h4⟩) (Nat.le_refl _)) (Nat.le_refl _)) (Nat.le_refl _)) (by decide)
  | varied w n l a b =>
    obtain ⟨h1, h2, h2', h3, h4, h5⟩ : w ≤ 6 ∧ 2 ≤ n ∧ n ≤ 24 ∧ l ≤ 5 ∧ a ≤ 8 ∧ b ≤ 8 := h
    refine Wd.app (vary_wd ⟨w, by omega⟩) (Wd.app (Wd.app of_wd (num_wd ⟨n, by omega⟩) (Nat.le_refl _)) (Wd.app (line_wd ⟨l, by omega⟩) (Wd.app (tin_wd ⟨a, Nat.lt_succ_of_le h4⟩) (Wd.app and_wd (tin_wd ⟨b, Nat.lt_succ_of_le h5⟩) (Nat.le_refl _)) (Nat.le_refl _)) (Nat.le_refl _)) (Nat.le_refl _)) (by decide)
theorem fill_wd {f : Sh.Fill} (h : VFill f) : Wd 9 (fillWords f) := by
  cases f with
  | counter => exact Wd.app cc_wd Wd.none (by decide)
  | solid f => exact field_wd h
/-- a group ahead of its manner -/
def chargesW (c n s : Nat) : List (List UInt8) :=
  (if n = 1 then (if vowel ((sizeWords s ++ [(if n = 1 then CHARGEWORDS else SEVERAL).getD c []]).headD []) = true then ascii "an" else ascii "a") else ShBlazon.COUNTS.getD (n - 2) []) :: (sizeWords s ++ [(if n = 1 then CHARGEWORDS else SEVERAL).getD c []])
theorem charges_wd {c n s : Nat} (hc : c ≤ 15) (h1 : 1 ≤ n) (h2 : n ≤ 10) (h3 : 1 ≤ s) (h4 : s ≤ 4) : Wd 3 (chargesW c n s) := by
  have hs := siz_wd ⟨s, by omega⟩
  rw [if_neg (show ¬ s = 0 by omega)] at hs
  have tail : Wd 2 (sizeWords s ++ [(if n = 1 then CHARGEWORDS else SEVERAL).getD c []]) := by
    refine Wd.app (m := 1) hs ?_ (Nat.le_refl _)
    by_cases e : n = 1
    · rw [if_pos e]
      exact ch_wd ⟨c, by omega⟩
    · rw [if_neg e]
      exact sev_wd ⟨c, by omega⟩
  unfold chargesW
  by_cases e : n = 1
  · rw [if_pos e]
    by_cases v : vowel ((sizeWords s ++ [(if n = 1 then CHARGEWORDS else SEVERAL).getD c []]).headD []) = true
    · rw [if_pos v]
      exact Wd.app an_wd tail (by decide)
    · rw [if_neg v]
      exact Wd.app a_wd tail (by decide)
  · rw [if_neg e]
    have hn := cnt_wd ⟨n, by omega⟩
    rw [if_neg (show ¬ n < 2 by omega)] at hn
    exact Wd.app hn tail (by decide)
theorem layer_wd {x : Sh.Layer} (h : VLayer x) : Wd 15 (layerWords x) := by
  cases x with
  | ord o l f =>
    obtain ⟨h1, h2, h3⟩ : o ≤ 12 ∧ l ≤ 5 ∧ VFill f := h
    exact Wd.app a_wd (Wd.app (ord_wd ⟨o, by omega⟩) (Wd.app (line_wd ⟨l, by omega⟩) (fill_wd h3) (Nat.le_refl _)) (Nat.le_refl _)) (by decide)
  | group c n m s f =>
    obtain ⟨h1, h2, h3, h4, h5, h6, h7⟩ : c ≤ 15 ∧ 1 ≤ n ∧ n ≤ 10 ∧ m ≤ 6 ∧ 1 ≤ s ∧ s ≤ 4 ∧ VFill f := h
    exact Wd.app (charges_wd h1 h2 h3 h5 h6) (Wd.app (man_wd ⟨m, by omega⟩) (fill_wd h7) (Nat.le_refl _)) (by decide)
theorem flat_le {α : Type} (g : α → List UInt8) (n : Nat) : ∀ l : List α, (∀ x ∈ l, (g x).length ≤ n) → (l.flatMap g).length ≤ l.length * n
  | [], _ => Nat.zero_le _
  | x :: l, h => by
    have h1 := h x List.mem_cons_self
    have h2 := flat_le g n l fun y hy => h y (List.mem_cons_of_mem _ hy)
    rw [List.flatMap_cons, List.length_append, List.length_cons, Nat.succ_mul]
    omega
theorem print_len {a : Sh.Arms} (h : VArms a) : (print a).length ≤ 2000 := by
  obtain ⟨h1, h2, h3⟩ := h
  have e1 := (field_wd h1).len
  have e2 := flat_le (fun x : Sh.Layer => 44 :: 32 :: spaced (layerWords x)) 227 a.layers fun x hx => by
    have := (layer_wd (h3 x hx)).len
    show (spaced (layerWords x)).length + 1 + 1 ≤ 227
    omega
  unfold print
  rw [List.length_append]
  have e3 : a.layers.length * 227 ≤ 8 * 227 := Nat.mul_le_mul_right _ h2
  omega
theorem print_glue (a : Sh.Arms) : glue [44, 32] (spaced (fieldWords a.field) :: a.layers.map fun x => spaced (layerWords x)) = print a := by
  rw [glue_flat, List.flatMap_map]
  rfl
end HC
namespace HC
open PySem PySem.Spec PyProof.Rows L2
/-- a list that a comprehension builds at D -/
structure Cm (H : Hp) (D : Addr) (acc : List V) (H' : Hp) : Prop where
  sm : Same H H'
  ac : H' D = some (.lst acc)
theorem Cm.start {H : Hp} {D : Addr} (hD : H D = none) : Cm H D [] (upd H D (.lst [])) := ⟨fun b o h => by rw [upd_ne (ne_of_none h hD)]; exact h, upd_same⟩
theorem Cm.turn {H H' H4 : Hp} {D : Addr} {acc : List V} (hD : H D = none) (c : Cm H D acc H') (s : Same H' H4) (y : V) : H4 D = some (.lst acc) ∧ Cm H D (acc ++ [y]) (upd H4 D (.lst (acc ++ [y]))) := by
  refine ⟨s _ _ c.ac, fun b o h => ?_, upd_same⟩
  rw [upd_ne (ne_of_none h hD)]
  exact s _ _ (c.sm b o h)
theorem get_map {α : Type} {f : α → V} {l : List α} {i : Nat} {x : V} (h : (l.map f)[i]? = some x) : ∃ w, l[i]? = some w ∧ x = f w := by
  rw [List.getElem?_map] at h
  cases q : l[i]? with
  | none => rw [q] at h; cases h
  | some w => rw [q] at h; cases h; exact ⟨w, rfl, rfl⟩
theorem get_lt {α : Type} {l : List α} {i : Nat} {x : α} (h : l[i]? = some x) : i < l.length := by
  rcases Nat.lt_or_ge i l.length with z | z
  · exact z
  · rw [List.getElem?_eq_none z] at h
    cases h
theorem new_same {H : Hp} {p : Addr} {o : HO} (np : H p = none) : Same H (upd H p o) := fun b u h => by rw [upd_ne (ne_of_none h np)]; exact h
theorem num_log {n : Nat} (h : n < 1000) : ((n : Nat) : Int).natAbs.log2 < 1920 := by
  have e : ((n : Nat) : Int).natAbs = n := Int.natAbs_natCast n
  have := Nat.log2_le_self n
  rw [e]
  omega
section
variable {P : Program} {w : World} {K : PySem.W.Frag} {mg : Str → Option Value} {base : Heap} {d : Ad}
/-! ### joined, article_before, several -/
def spJoined (K : PySem.W.Frag) : Sp := fun vs H Q _ => ∃ (p : Addr) (ws : List (List UInt8)), vs = [.ref p] ∧ SqL K H p (ws.map vS) ∧ (ws.map List.length).sum + ws.length ≤ 16000000 ∧ ∀ H', Same H H' → Q (vS (ShBlazon.spaced (ws.filter ne))) H'
theorem filter_sum : ∀ ws : List (List UInt8), ((ws.filter ne).map List.length).sum + (ws.filter ne).length ≤ (ws.map List.length).sum + ws.length
  | [] => Nat.le_refl _
  | x :: ws => by
    have ih := filter_sum ws
    by_cases c : ne x = true
    · rw [List.filter_cons_of_pos c]
      simp only [List.map_cons, List.sum_cons, List.length_cons]
      omega
    · rw [List.filter_cons_of_neg c]
      simp only [List.map_cons, List.sum_cons, List.length_cons]
      omega
theorem sc_joined : FnScope ["phrases", "phrase"] ["phrases"] (defScope s_joined) := ⟨rfl, rfl, rfl, by decide +kernel, rfl, by decide +kernel, by decide +kernel⟩
theorem ok_joined (T : Txt K mg d) : OkD P w K mg base CX0 1 d.f_joined ["phrases"] (spJoined K) := by
  obtain ⟨fd, F, B⟩ := T.k_joined.ex
  refine ⟨⟨fd, F.ok sc_joined (fun vs H Q E h => ?_) (fun cdv A outer s H vs Q E hr h => ?_), B⟩, F.kp⟩
  · obtain ⟨p, ws, rfl, _⟩ := h
    rfl
  · obtain ⟨p, ws, rfl, hS, hz, k⟩ := h
    refine ⟨_, pss_one (ps_ret (pe_join pe_str (pe_lc (own := [("phrase", 1)]) (g := gName 1) rfl sc_joined.nd (pi_list (pv 0)) (blkOk_by (N := ["phrases", "phrase"]) (sc := defScope s_joined) (by decide +kernel)) (fun _ _ _ _ _ => pg_name (i := 1) sc_joined.nd rfl (Or.inl rfl)) (fun _ _ _ _ _ => pts_one (pt_cmpR op_ne (pv 1) pe_str (nomark _))) (fun _ _ _ _ _ => (pv 1))))), ?_⟩
    refine ⟨⟨_, rfl⟩, _, rfl, p, rfl, ⟨_, hS⟩, fun D hD => ?_⟩
    refine lc_list (xs := ws.map vS) (fun i H' => Cm H D (((ws.take i).filter ne).map vS) H') (Cm.start hD) (fun i H' _ cm => cm.sm.seq hS) (fun i x H' hx cm => ?_) (fun H' cm => ?_)
    · obtain ⟨y, hy, rfl⟩ := get_map hx
      have hi := get_lt hy
      refine ⟨rfl, _, rfl, rfl, _, rfl, ?_⟩
      dsimp only
      rw [ne_str y (by decide +kernel), List.take_add_one, hy, Option.toList_some, List.filter_append, List.map_append]
      by_cases c : ne y = true
      · rw [if_pos c, List.filter_cons_of_pos c]
        obtain ⟨t1, t2⟩ := cm.turn hD (Same.refl _) (vS y)
        refine ⟨_, rfl, _, t1, ?_, t2⟩
        rw [List.length_map]
        have h1 := List.length_filter_le ne (ws.take i)
        rw [List.length_take] at h1
        have h2 : (16777216 : Nat) = sizeLine := rfl
        omega
      · rw [if_neg c, List.filter_cons_of_neg c]
        show Cm H D (((ws.take i).filter ne).map vS ++ []) H'
        rw [List.append_nil]
        exact cm
    · rw [List.length_map, List.take_length] at cm
      have e : ((ws.filter ne).map strOf).map V.str = (ws.filter ne).map vS := by
        rw [List.map_map]
        rfl
      refine ⟨_, D, (ws.filter ne).map strOf, rfl, rfl, .inl (by rw [e]; exact SqL.of cm.ac), ?_, ?_⟩
      · rw [lens_of, List.length_map]
        have h1 := filter_sum ws
        have h2 : (" " : Str).length = 1 := by decide +kernel
        rw [h2]
        omega
      · rw [txt_glue (sep := [32]) (by decide +kernel), glue_spaced]
        exact k _ cm.sm
def spArticle : Sp := fun vs H Q _ => ∃ (b : List UInt8), vs = [vS b] ∧ b ≠ [] ∧ b.length ≤ 1000 ∧ Q (vS (if ShBlazon.vowel b = true then ShBlazon.ascii "an" else ShBlazon.ascii "a")) H
theorem vow_tb : ∀ n : Fin 256, decide (n.val ∈ ("aeiou" : Str).cps.toList) = (ShBlazon.ascii "aeiou").contains (UInt8.ofNat n.val) := by decide +kernel
theorem vow_is (c : UInt8) (r : List UInt8) : decide (c.toNat ∈ ("aeiou" : Str).cps.toList) = ShBlazon.vowel (c :: r) := by
  have := vow_tb ⟨c.toNat, c.toNat_lt⟩
  rw [this]
  show (ShBlazon.ascii "aeiou").contains (UInt8.ofNat c.toNat) = _
  rw [UInt8.ofNat_toNat]
  rfl
theorem sc_article_before : FnScope ["word"] ["word"] (defScope s_article_before) := ⟨rfl, rfl, rfl, by decide +kernel, rfl, by decide +kernel, by decide +kernel⟩
theorem ok_article_before (T : Txt K mg d) : OkD P w K mg base CX0 1 d.f_article_before ["word"] (spArticle) := by
  obtain ⟨fd, F, B⟩ := T.k_article_before.ex
  refine ⟨⟨fd, F.ok sc_article_before (fun vs H Q E h => ?_) (fun cdv A outer s H vs Q E hr h => ?_), B⟩, F.kp⟩
  · obtain ⟨b, rfl, _⟩ := h
    rfl
  · obtain ⟨b, rfl, hb, hl, k⟩ := h
    refine ⟨_, pss_one (ps_ret (pe_ifExp (pt_cmpR op_in_sign (pe_ix ix_str (pv 0) pe_int (fun _ _ => rfl)) pe_str (by rfl)) pe_str pe_str)), ?_⟩
    cases b with
    | nil => exact absurd rfl hb
    | cons c r =>
    refine ⟨_, rfl, _, _, c.toNat, rfl, rfl, (by rw [strOf_len]; exact Nat.le_trans hl (by decide)), atI_nat (j := 0) rfl, c.toNat, _, rfl, rfl, _, rfl, ?_⟩
    dsimp only
    rw [vow_is c r]
    by_cases v : ShBlazon.vowel (c :: r) = true
    · rw [if_pos v] at k ⊢
      exact k
    · rw [if_neg v] at k ⊢
      exact k
def spSeveral : Sp := fun vs H Q _ => ∃ (b : List UInt8), vs = [vS b] ∧ b.length ≤ 1000 ∧ Q (vS (b ++ [115])) H
theorem sc_several : FnScope ["charge"] ["charge"] (defScope s_several) := ⟨rfl, rfl, rfl, by decide +kernel, rfl, by decide +kernel, by decide +kernel⟩
theorem ok_several (T : Txt K mg d) : OkD P w K mg base CX0 1 d.f_several ["charge"] (spSeveral) := by
  obtain ⟨fd, F, B⟩ := T.k_several.ex
  refine ⟨⟨fd, F.ok sc_several (fun vs H Q E h => ?_) (fun cdv A outer s H vs Q E hr h => ?_), B⟩, F.kp⟩
  · obtain ⟨b, rfl, _⟩ := h
    rfl
  · obtain ⟨b, rfl, hl, k⟩ := h
    refine ⟨_, pss_one (ps_ret (pe_op op_add_str (pv 0) pe_str)), ?_⟩
    refine ⟨_, rfl, _, _, rfl, rfl, ?_, ?_⟩
    · rw [strOf_len]
      have h2 : ("s" : Str).length = 1 := by decide +kernel
      have h3 : (16777216 : Nat) = sizeLine := rfl
      rw [h2]
      omega
    · have e : ("s" : Str) = strOf [115] := by decide +kernel
      rw [e, strOf_app]
      exact k
end
end HC


namespace HC
open PySem PySem.Spec PyProof.Rows L2 ShBlazon
section
variable {P : Program} {w : World} {K : PySem.W.Frag} {mg : Str → Option Value} {base : Heap} {d : Ad}
/-- an item of a table of words -/
theorem tb_at {ws : List Str} {i : Nat} {z : Str} (h : ws[i]? = some z) : atI (ws.map V.str) (i : Int) = some (V.str z) := atI_nat (by rw [List.getElem?_map, h]; rfl)
/-- groups of words, joined -/
theorem joined_of {K : PySem.W.Frag} {H : Hp} {p : Addr} {gs : List (List (List UInt8))} {Q : VK} {E : XK} (n : Nat) (hp : H p = some (.lst (gs.map fun g => vS (spaced g)))) (hw : ∀ g ∈ gs, Wd n g) (hz : gs.length * (n * 15 + 1) ≤ 16000000)
    (k : ∀ H', Same H H' → Q (vS (spaced gs.flatten)) H') : spJoined K [.ref p] H Q E := by
  have e : (gs.map spaced).map vS = gs.map fun g => vS (spaced g) := by
    rw [List.map_map]
    rfl
  refine ⟨p, gs.map spaced, rfl, by rw [e]; exact SqL.of hp, ?_, fun H' s => ?_⟩
  · have h1 := sum_le (gs.map spaced) (n * 15) fun x hx => by
      obtain ⟨g, hg, rfl⟩ := List.mem_map.mp hx
      exact (hw g hg).len
    rw [List.length_map] at h1 ⊢
    rw [Nat.mul_add, Nat.mul_one] at hz
    omega
  · rw [spaced_join fun g hg => (hw g hg).ne]
    exact k H' s
theorem Wd.mono {n m : Nat} {l : List (List UInt8)} (h : Wd n l) (hm : n ≤ m) : Wd m l := by
  have := h.app Wd.none (k := m) (by omega)
  rw [List.append_nil] at this
  exact this
/-! ### field_words, fill_words -/
def spFW (d : Ad) : Sp := fun vs H Q _ => ∃ (v : V) (f : Sh.Field) (H0 : Hp), vs = [v] ∧ RField d H0 H v f ∧ VField f ∧ ∀ H', Same H H' → Q (vS (spaced (fieldWords f))) H'
theorem len2 : (2 : Nat) ≤ sizeLine := by decide
theorem len6' {n : Nat} (h : n < 9) : n < sizeLine := Nat.lt_of_lt_of_le h (by decide)
theorem len6 {n : Nat} (h : n ≤ 9) : n ≤ sizeLine := Nat.le_trans h (by decide)
theorem sc_field_words : FnScope ["field", "behind"] ["field"] (defScope s_field_words) := ⟨rfl, rfl, rfl, by decide +kernel, rfl, by decide +kernel, by decide +kernel⟩
theorem ok_field_words (T : Txt K mg d) : OkD P w K mg base CX0 2 d.f_field_words ["field"] (spFW d) := by
  obtain ⟨fd, F, B⟩ := T.k_field_words.ex
  obtain ⟨⟨fd_joined, G_joined, B_joined⟩, kp_joined⟩ := ok_joined (P := P) (w := w) (base := base) T
  obtain ⟨a_TINCTURES, m_TINCTURES, q_TINCTURES⟩ := T.tTINCTURES
  obtain ⟨a_LINES, m_LINES, q_LINES⟩ := T.tLINES
  obtain ⟨a_VARIED_WAYS, m_VARIED_WAYS, q_VARIED_WAYS⟩ := T.tVARIED_WAYS
  obtain ⟨a_PARTED_WAYS, m_PARTED_WAYS, q_PARTED_WAYS⟩ := T.tPARTED_WAYS
  refine ⟨⟨fd, F.ok sc_field_words (fun vs H Q E h => ?_) (fun cdv A outer s H vs Q E hr h => ?_), B⟩, F.kp⟩
  · obtain ⟨v, f, H0, rfl, _⟩ := h
    rfl
  · obtain ⟨v, f, H0, rfl, hf, hw, k⟩ := h
    have hr_joined : Room 1 _ := hr.mono (by decide)
    refine ⟨_, pss_cons (ps_if (pt_val (pe_callB call_isi (by rfl) T.b_isinstance (by decide +kernel) (pa_cons (pv 0) (pa_cons (pe_glob (v := .ref d.cPlain) rfl T.kPlain.gl rfl) pa_nil))))
        (pss_one (ps_ret (pe_ix ix_tup (pe_glob (v := .ref a_TINCTURES) rfl m_TINCTURES rfl) (pe_fld (pv 0) rfl) (fun _ _ => rfl))))
        pss_nil)
      (pss_cons (ps_set (i := 1) sc_field_words.nd rfl (Or.inl rfl) (pe_lst (pa_cons (pe_ix ix_tup (pe_glob (v := .ref a_LINES) rfl m_LINES rfl) (pe_fld (pv 0) rfl) (fun _ _ => rfl)) (pa_cons (pe_ix ix_tup (pe_glob (v := .ref a_TINCTURES) rfl m_TINCTURES rfl) (pe_fld (pv 0) rfl) (fun _ _ => rfl)) (pa_cons pe_str (pa_cons (pe_ix ix_tup (pe_glob (v := .ref a_TINCTURES) rfl m_TINCTURES rfl) (pe_fld (pv 0) rfl) (fun _ _ => rfl)) pa_nil))))))
      (pss_cons (ps_if (pt_val (pe_callB call_isi (by rfl) T.b_isinstance (by decide +kernel) (pa_cons (pv 0) (pa_cons (pe_glob (v := .ref d.cParted) rfl T.kParted.gl rfl) pa_nil))))
        (pss_one (ps_ret (pe_call G_joined hr_joined rfl T.k_joined.gl kp_joined B_joined .nil pass0 (pa_cons (pe_op op_cat (pe_lst (pa_cons (pe_ix ix_tup (pe_glob (v := .ref a_PARTED_WAYS) rfl m_PARTED_WAYS rfl) (pe_fld (pv 0) rfl) (fun _ _ => rfl)) pa_nil)) (pv 1)) pa_nil))))
        pss_nil)
      (pss_one (ps_ret (pe_call G_joined hr_joined rfl T.k_joined.gl kp_joined B_joined .nil pass0 (pa_cons (pe_op op_cat (pe_lst (pa_cons (pe_ix ix_tup (pe_glob (v := .ref a_VARIED_WAYS) rfl m_VARIED_WAYS rfl) (pe_fld (pv 0) rfl) (fun _ _ => rfl)) (pa_cons pe_str (pa_cons (pe_callTy call_str_int (by rfl) T.b_str (by decide +kernel) (pa_cons (pe_fld (pv 0) rfl) pa_nil)) pa_nil)))) (pv 1)) pa_nil)))))), ?_⟩
    cases f with
    | plain t =>
      obtain ⟨b, dxb, rfl, _, hb⟩ := hf
      refine ⟨_, rfl, _, _, _, _, _, rfl, ClsV.own _, .base (.ins hb T.kPlain.cl T.kPlain.cla T.gs T.tk T.kPlain.mro), T.iPlain_Plain, _, rfl, ?_⟩
      refine iteT ?_
      exact ⟨_, rfl, b, d.cPlain, dxb, _, _, rfl, hb, T.kPlain.cl, T.kPlain.no.1, look_at _ _ _ 0 rfl (by decide +kernel), _, _, _, _, rfl, rfl, q_TINCTURES _, tb_at (tin_tb ⟨t, Nat.lt_succ_of_le hw⟩), k _ (Same.refl _)⟩
    | parted wy l a c =>
      obtain ⟨b, dxb, rfl, _, hb⟩ := hf
      obtain ⟨h1, h2, h3, h4⟩ : wy ≤ 7 ∧ l ≤ 5 ∧ a ≤ 8 ∧ c ≤ 8 := hw
      refine ⟨_, rfl, _, _, _, _, _, rfl, ClsV.own _, .base (.ins hb T.kParted.cl T.kParted.cla T.gs T.tk T.kParted.mro), T.iParted_Plain, _, rfl, ?_⟩
      refine iteF ?_
      refine ⟨_, rfl, b, d.cParted, dxb, _, _, rfl, hb, T.kParted.cl, T.kParted.no.2.1, look_at _ _ _ 1 rfl (by decide +kernel), _, _, _, _, rfl, rfl, q_LINES _, tb_at (line_tb ⟨l, Nat.lt_succ_of_le h2⟩), ?_⟩
      refine ⟨_, rfl, b, d.cParted, dxb, _, _, rfl, hb, T.kParted.cl, T.kParted.no.2.2.1, look_at _ _ _ 2 rfl (by decide +kernel), _, _, _, _, rfl, rfl, q_TINCTURES _, tb_at (tin_tb ⟨a, Nat.lt_succ_of_le h3⟩), ?_⟩
      refine ⟨_, rfl, b, d.cParted, dxb, _, _, rfl, hb, T.kParted.cl, T.kParted.no.2.2.2.1, look_at _ _ _ 3 rfl (by decide +kernel), _, _, _, _, rfl, rfl, q_TINCTURES _, tb_at (tin_tb ⟨c, Nat.lt_succ_of_le h4⟩), ?_⟩
      refine ⟨len6 (by show 4 ≤ 9; decide), fun p1 n1 => ?_⟩
      have s1 : Same H (upd H p1 (.lst [vS (spaced (lineWords l)), vS (spaced (tinW a)), V.str "and", vS (spaced (tinW c))])) := new_same n1
      replace hb := s1 _ _ hb
      refine ⟨_, rfl, _, _, _, _, _, rfl, ClsV.own _, .base (.ins hb T.kParted.cl T.kParted.cla T.gs T.tk T.kParted.mro), T.iParted_Parted, _, rfl, ?_⟩
      refine iteT ?_
      refine ⟨_, rfl, b, d.cParted, dxb, _, _, rfl, hb, T.kParted.cl, T.kParted.no.1, look_at _ _ _ 0 rfl (by decide +kernel), _, _, _, _, rfl, rfl, q_PARTED_WAYS _, tb_at (part_tb ⟨wy, Nat.lt_succ_of_le h1⟩), ?_⟩
      refine ⟨len6 (by show 1 ≤ 9; decide), fun p2 n2 => ?_⟩
      refine ⟨_, rfl, p2, p1, _, _, rfl, rfl, upd_same, (by rw [upd_ne (ne_of_none upd_same n2)]; exact upd_same), len6 (by show 1 + 4 ≤ 9; decide), fun p3 n3 => ?_⟩
      refine joined_of (E := E0) (gs := [partW wy, lineWords l, tinW a, [ascii "and"], tinW c]) 3 (by rw [upd_same, txt_and]; rfl) ?_ (by show 5 * 46 ≤ 16000000; decide) (fun H' s => ?_)
      · intro g hg
        simp only [List.mem_cons, List.not_mem_nil, or_false] at hg
        rcases hg with rfl | rfl | rfl | rfl | rfl
        · exact part_wd ⟨wy, Nat.lt_succ_of_le h1⟩
        · exact (line_wd ⟨l, Nat.lt_succ_of_le h2⟩).mono (by decide)
        · exact (tin_wd ⟨a, Nat.lt_succ_of_le h3⟩).mono (by decide)
        · exact and_wd.mono (by decide)
        · exact (tin_wd ⟨c, Nat.lt_succ_of_le h4⟩).mono (by decide)
      · exact k H' (((s1.trans (new_same n2)).trans (new_same n3)).trans s)
    | varied wy n l a c =>
      obtain ⟨b, dxb, rfl, _, hb⟩ := hf
      obtain ⟨h1, h5, h6, h2, h3, h4⟩ : wy ≤ 6 ∧ 2 ≤ n ∧ n ≤ 24 ∧ l ≤ 5 ∧ a ≤ 8 ∧ c ≤ 8 := hw
      refine ⟨_, rfl, _, _, _, _, _, rfl, ClsV.own _, .base (.ins hb T.kVaried.cl T.kVaried.cla T.gs T.tk T.kVaried.mro), T.iVaried_Plain, _, rfl, ?_⟩
      refine iteF ?_
      refine ⟨_, rfl, b, d.cVaried, dxb, _, _, rfl, hb, T.kVaried.cl, T.kVaried.no.2.2.1, look_at _ _ _ 2 rfl (by decide +kernel), _, _, _, _, rfl, rfl, q_LINES _, tb_at (line_tb ⟨l, Nat.lt_succ_of_le h2⟩), ?_⟩
      refine ⟨_, rfl, b, d.cVaried, dxb, _, _, rfl, hb, T.kVaried.cl, T.kVaried.no.2.2.2.1, look_at _ _ _ 3 rfl (by decide +kernel), _, _, _, _, rfl, rfl, q_TINCTURES _, tb_at (tin_tb ⟨a, Nat.lt_succ_of_le h3⟩), ?_⟩
      refine ⟨_, rfl, b, d.cVaried, dxb, _, _, rfl, hb, T.kVaried.cl, T.kVaried.no.2.2.2.2.1, look_at _ _ _ 4 rfl (by decide +kernel), _, _, _, _, rfl, rfl, q_TINCTURES _, tb_at (tin_tb ⟨c, Nat.lt_succ_of_le h4⟩), ?_⟩
      refine ⟨len6 (by show 4 ≤ 9; decide), fun p1 n1 => ?_⟩
      have s1 : Same H (upd H p1 (.lst [vS (spaced (lineWords l)), vS (spaced (tinW a)), V.str "and", vS (spaced (tinW c))])) := new_same n1
      replace hb := s1 _ _ hb
      refine ⟨_, rfl, _, _, _, _, _, rfl, ClsV.own _, .base (.ins hb T.kVaried.cl T.kVaried.cla T.gs T.tk T.kVaried.mro), T.iVaried_Parted, _, rfl, ?_⟩
      refine iteF ?_
      refine ⟨_, rfl, b, d.cVaried, dxb, _, _, rfl, hb, T.kVaried.cl, T.kVaried.no.1, look_at _ _ _ 0 rfl (by decide +kernel), _, _, _, _, rfl, rfl, q_VARIED_WAYS _, tb_at (vary_tb ⟨wy, Nat.lt_succ_of_le h1⟩), ?_⟩
      refine ⟨_, rfl, b, d.cVaried, dxb, _, _, rfl, hb, T.kVaried.cl, T.kVaried.no.2.1, look_at _ _ _ 1 rfl (by decide +kernel), _, rfl, num_log (by omega), ?_⟩
      refine ⟨len6 (by show 3 ≤ 9; decide), fun p2 n2 => ?_⟩
      refine ⟨_, rfl, p2, p1, _, _, rfl, rfl, upd_same, (by rw [upd_ne (ne_of_none upd_same n2)]; exact upd_same), len6 (by show 3 + 4 ≤ 9; decide), fun p3 n3 => ?_⟩
      have en : (toString ((n : Nat) : Int) : Str) = strOf (spaced [decimal n]) := by
        have e1 := num_tb ⟨n, by omega⟩
        have e2 := num_dec ⟨n, by omega⟩
        dsimp only at e1 e2
        rw [e2] at e1
        exact e1
      refine joined_of (E := E0) (gs := [withSin VARYWORDS 3 wy, [ascii "of"], [decimal n], lineWords l, tinW a, [ascii "and"], tinW c]) 3 (by rw [upd_same, txt_and, txt_of', en]; rfl) ?_ (by show 7 * 46 ≤ 16000000; decide) (fun H' s => ?_)
      · intro g hg
        simp only [List.mem_cons, List.not_mem_nil, or_false] at hg
        rcases hg with rfl | rfl | rfl | rfl | rfl | rfl | rfl
        · exact (vary_wd ⟨wy, Nat.lt_succ_of_le h1⟩).mono (by decide)
        · exact of_wd.mono (by decide)
        · exact (num_wd ⟨n, by omega⟩).mono (by decide)
        · exact (line_wd ⟨l, Nat.lt_succ_of_le h2⟩).mono (by decide)
        · exact (tin_wd ⟨a, Nat.lt_succ_of_le h3⟩).mono (by decide)
        · exact and_wd.mono (by decide)
        · exact (tin_wd ⟨c, Nat.lt_succ_of_le h4⟩).mono (by decide)
      · exact k H' (((s1.trans (new_same n2)).trans (new_same n3)).trans s)
def spFillW (d : Ad) : Sp := fun vs H Q _ => ∃ (v : V) (f : Sh.Fill) (H0 : Hp), vs = [v] ∧ RFill d H0 H v f ∧ VFill f ∧ ∀ H', Same H H' → Q (vS (spaced (fillWords f))) H'
theorem sc_fill_words : FnScope ["fill"] ["fill"] (defScope s_fill_words) := ⟨rfl, rfl, rfl, by decide +kernel, rfl, by decide +kernel, by decide +kernel⟩
theorem ok_fill_words (T : Txt K mg d) : OkD P w K mg base CX0 3 d.f_fill_words ["fill"] (spFillW d) := by
  obtain ⟨fd, F, B⟩ := T.k_fill_words.ex
  obtain ⟨⟨fd_field_words, G_field_words, B_field_words⟩, kp_field_words⟩ := ok_field_words (P := P) (w := w) (base := base) T
  refine ⟨⟨fd, F.ok sc_fill_words (fun vs H Q E h => ?_) (fun cdv A outer s H vs Q E hr h => ?_), B⟩, F.kp⟩
  · obtain ⟨v, f, H0, rfl, _⟩ := h
    rfl
  · obtain ⟨v, f, H0, rfl, hf, hw, k⟩ := h
    have hr_field_words : Room 2 _ := hr.mono (by decide)
    refine ⟨_, pss_one (ps_ret (pe_ifExp (pt_cmp (pc_isN (pv 0))) pe_str (pe_call G_field_words hr_field_words rfl T.k_field_words.gl kp_field_words B_field_words .nil pass0 (pa_cons (pv 0) pa_nil)))), ?_⟩
    cases f with
    | counter =>
      cases hf
      refine ⟨_, rfl, _, rfl, ?_⟩
      refine iteT ?_
      rw [txt_cc]
      exact k _ (Same.refl _)
    | solid f =>
      have hn : v ≠ .non := by
        cases f <;> (obtain ⟨b, dxb, rfl, _⟩ := hf; intro z; cases z)
      refine ⟨_, rfl, _, rfl, ?_⟩
      dsimp only
      rw [decide_eq_false hn]
      refine iteF ?_
      exact ⟨_, rfl, v, f, H0, rfl, hf, hw, k⟩
end
end HC


namespace HC
open PySem PySem.Spec PyProof.Rows L2 ShBlazon
theorem charges_many {c n s : Nat} (h : n ≠ 1) : [cntW n, sizeWords s, sevW c].flatten = chargesW c n s := by
  unfold chargesW
  rw [if_neg h, if_neg h]
  rfl
theorem charges_one {c s : Nat} : [[if vowel ((sizeWords s ++ chW c).headD []) = true then ascii "an" else ascii "a"], sizeWords s ++ chW c].flatten = chargesW c 1 s := by
  unfold chargesW
  rw [if_pos rfl, if_pos rfl]
  show _ :: ((sizeWords s ++ chW c) ++ []) = _
  rw [List.append_nil]
  rfl
theorem vowel_spaced {l : List (List UInt8)} (hl : l ≠ []) (hw : ∀ w ∈ l, w ≠ []) : vowel (spaced l) = vowel (l.headD []) := by
  cases l with
  | nil => exact absurd rfl hl
  | cons x r =>
    have hx := hw x List.mem_cons_self
    cases x with
    | nil => exact absurd rfl hx
    | cons c t =>
      cases r with
      | nil => rfl
      | cons y r => rfl
section
variable {P : Program} {w : World} {K : PySem.W.Frag} {mg : Str → Option Value} {base : Heap} {d : Ad}
/-! ### charges_words, layer_words -/
def spChW (d : Ad) : Sp := fun vs H Q _ => ∃ (v : V) (c n m s : Nat) (f : Sh.Fill) (H0 : Hp), vs = [v] ∧ RLayer d H0 H v (.group c n m s f) ∧ c ≤ 15 ∧ 1 ≤ n ∧ n ≤ 10 ∧ 1 ≤ s ∧ s ≤ 4 ∧ ∀ H', Same H H' → Q (vS (spaced (chargesW c n s))) H'
theorem sc_charges_words : FnScope ["group", "size", "charge", "single"] ["group"] (defScope s_charges_words) := ⟨rfl, rfl, rfl, by decide +kernel, rfl, by decide +kernel, by decide +kernel⟩
theorem ok_charges_words (T : Txt K mg d) : OkD P w K mg base CX0 2 d.f_charges_words ["group"] (spChW d) := by
  obtain ⟨fd, F, B⟩ := T.k_charges_words.ex
  obtain ⟨⟨fd_joined, G_joined, B_joined⟩, kp_joined⟩ := ok_joined (P := P) (w := w) (base := base) T
  obtain ⟨⟨fd_article_before, G_article_before, B_article_before⟩, kp_article_before⟩ := ok_article_before (P := P) (w := w) (base := base) T
  obtain ⟨⟨fd_several, G_several, B_several⟩, kp_several⟩ := ok_several (P := P) (w := w) (base := base) T
  obtain ⟨a_SIZES, m_SIZES, q_SIZES⟩ := T.tSIZES
  obtain ⟨a_CHARGES, m_CHARGES, q_CHARGES⟩ := T.tCHARGES
  obtain ⟨c_FIRST_SIZE, m_FIRST_SIZE⟩ := T.nFIRST_SIZE
  obtain ⟨a_COUNTS, m_COUNTS, q_COUNTS⟩ := T.tCOUNTS
  obtain ⟨c_FIRST_COUNT, m_FIRST_COUNT⟩ := T.nFIRST_COUNT
  refine ⟨⟨fd, F.ok sc_charges_words (fun vs H Q E h => ?_) (fun cdv A outer s H vs Q E hr h => ?_), B⟩, F.kp⟩
  · obtain ⟨v, c, n, m, s, f, H0, rfl, _⟩ := h
    rfl
  · obtain ⟨v, c, n, m, sz, f, H0, rfl, hv, hc, h1, h2, h3, h4, k⟩ := h
    have hr_joined : Room 1 _ := hr.mono (by decide)
    have hr_article_before : Room 1 _ := hr.mono (by decide)
    have hr_several : Room 1 _ := hr.mono (by decide)
    refine ⟨_, pss_cons (ps_set (i := 1) sc_charges_words.nd rfl (Or.inl rfl) (pe_ix ix_tup (pe_glob (v := .ref a_SIZES) rfl m_SIZES rfl) (pe_op op_sub (pe_fld (pv 0) rfl) (pgi m_FIRST_SIZE)) (fun _ _ => rfl)))
      (pss_cons (ps_set (i := 2) sc_charges_words.nd rfl (Or.inl rfl) (pe_ix ix_tup (pe_glob (v := .ref a_CHARGES) rfl m_CHARGES rfl) (pe_fld (pv 0) rfl) (fun _ _ => rfl)))
      (pss_cons (ps_if (pt_cmpR op_gt (pe_fld (pv 0) rfl) pe_int (nomark _))
        (pss_one (ps_ret (pe_call G_joined hr_joined rfl T.k_joined.gl kp_joined B_joined .nil pass0 (pa_cons (pe_lst (pa_cons (pe_ix ix_tup (pe_glob (v := .ref a_COUNTS) rfl m_COUNTS rfl) (pe_op op_sub (pe_fld (pv 0) rfl) (pgi m_FIRST_COUNT)) (fun _ _ => rfl)) (pa_cons (pv 1) (pa_cons (pe_call G_several hr_several rfl T.k_several.gl kp_several B_several .nil pass0 (pa_cons (pv 2) pa_nil)) pa_nil)))) pa_nil))))
        pss_nil)
      (pss_cons (ps_set (i := 3) sc_charges_words.nd rfl (Or.inl rfl) (pe_call G_joined hr_joined rfl T.k_joined.gl kp_joined B_joined .nil pass0 (pa_cons (pe_lst (pa_cons (pv 1) (pa_cons (pv 2) pa_nil))) pa_nil)))
      (pss_one (ps_ret (pe_call G_joined hr_joined rfl T.k_joined.gl kp_joined B_joined .nil pass0 (pa_cons (pe_lst (pa_cons (pe_call G_article_before hr_article_before rfl T.k_article_before.gl kp_article_before B_article_before .nil pass0 (pa_cons (pv 3) pa_nil)) (pa_cons (pv 3) pa_nil))) pa_nil))))))), ?_⟩
    obtain ⟨u, ⟨b, dxb, rfl, _, hb⟩, _⟩ := hv
    obtain ⟨s', rfl⟩ : ∃ s', sz = s' + 1 := ⟨sz - 1, by omega⟩
    have es : (((s' + 1 : Nat) : Int)) - 1 = (s' : Int) := by omega
    have hsw : Wd 1 (sizeWords (s' + 1)) := by
      have := siz_wd ⟨s' + 1, by omega⟩
      rw [if_neg (show ¬ s' + 1 = 0 by omega)] at this
      exact this
    refine ⟨_, rfl, b, d.cGroup, dxb, _, _, rfl, hb, T.kGroup.cl, T.kGroup.no.2.2.2.1, look_at _ _ _ 3 rfl (by decide +kernel), _, _, rfl, rfl, _, _, _, _, rfl, rfl, q_SIZES _, (by rw [es]; exact tb_at (siz_tb ⟨s', by omega⟩)), ?_⟩
    refine ⟨_, rfl, b, d.cGroup, dxb, _, _, rfl, hb, T.kGroup.cl, T.kGroup.no.1, look_at _ _ _ 0 rfl (by decide +kernel), _, _, _, _, rfl, rfl, q_CHARGES _, tb_at (ch_tb ⟨c, by omega⟩), ?_⟩
    refine ⟨_, rfl, b, d.cGroup, dxb, _, _, rfl, hb, T.kGroup.cl, T.kGroup.no.2.1, look_at _ _ _ 1 rfl (by decide +kernel), _, _, rfl, rfl, _, rfl, ?_⟩
    refine ite2 (fun q => ?_) (fun q => ?_)
    · have q' : 1 < n := by
        have := of_decide_eq_true q
        omega
      obtain ⟨n', rfl⟩ : ∃ n', n = n' + 2 := ⟨n - 2, by omega⟩
      have en : (((n' + 2 : Nat) : Int)) - 2 = (n' : Int) := by omega
      refine ⟨_, rfl, b, d.cGroup, dxb, _, _, rfl, hb, T.kGroup.cl, T.kGroup.no.2.1, look_at _ _ _ 1 rfl (by decide +kernel), _, _, rfl, rfl, _, _, _, _, rfl, rfl, q_COUNTS _, (by rw [en]; exact tb_at (cnt_tb ⟨n', by omega⟩)), ?_⟩
      refine ⟨_, rfl, _, rfl, _, rfl, ?_, ?_⟩
      · have := (ch_wd ⟨c, by omega⟩).len
        dsimp only at this ⊢
        omega
      refine ⟨len6 (by show 3 ≤ 9; decide), fun p np => ?_⟩
      refine joined_of (E := E0) (gs := [cntW (n' + 2), sizeWords (s' + 1), sevW c]) 3 (by rw [upd_same, sev_is ⟨c, by omega⟩]; rfl) ?_ (by show 3 * 46 ≤ 16000000; decide) (fun H' s => ?_)
      · intro g hg
        simp only [List.mem_cons, List.not_mem_nil, or_false] at hg
        rcases hg with rfl | rfl | rfl
        · have := cnt_wd ⟨n' + 2, by omega⟩
          rw [if_neg (show ¬ n' + 2 < 2 by omega)] at this
          exact this.mono (by decide)
        · exact hsw.mono (by decide)
        · exact (sev_wd ⟨c, by omega⟩).mono (by decide)
      · rw [charges_many (by omega)]
        exact k H' ((new_same np).trans s)
    · have q' : n = 1 := by
        have : ¬ (n : Int) > 1 := fun z => q (decide_eq_true z)
        omega
      subst q'
      have hw2 : Wd 2 (sizeWords (s' + 1) ++ chW c) := Wd.app hsw (ch_wd ⟨c, by omega⟩) (Nat.le_refl _)
      have hn2 : sizeWords (s' + 1) ++ chW c ≠ [] := fun z => by
        have := (List.append_eq_nil_iff.mp z).2
        cases this
      refine ⟨_, rfl, _, rfl, len6 (by show 2 ≤ 9; decide), fun p np => ?_⟩
      dsimp only [tNil, List.append_nil]
      show spJoined K [V.ref p] (upd H p (.lst ([sizeWords (s' + 1), chW c].map fun g => vS (spaced g)))) _ E0
      refine joined_of (gs := [sizeWords (s' + 1), chW c]) 3 upd_same ?_ (by show 2 * 46 ≤ 16000000; decide) (fun H' s => ?_)
      · intro g hg
        simp only [List.mem_cons, List.not_mem_nil, or_false] at hg
        rcases hg with rfl | rfl
        · exact hsw.mono (by decide)
        · exact (ch_wd ⟨c, by omega⟩).mono (by decide)
      · have e1 : [sizeWords (s' + 1), chW c].flatten = sizeWords (s' + 1) ++ chW c := by
          show _ ++ (chW c ++ []) = _
          rw [List.append_nil]
        rw [e1]
        refine ⟨_, rfl, _, rfl, spaced_ne hn2 hw2.ne, ?_, ?_⟩
        · have := hw2.len
          omega
        refine ⟨_, rfl, len6 (by show 2 ≤ 9; decide), fun p2 np2 => ?_⟩
        rw [vowel_spaced hn2 hw2.ne]
        refine joined_of (E := E0) (gs := [[if vowel ((sizeWords (s' + 1) ++ chW c).headD []) = true then ascii "an" else ascii "a"], sizeWords (s' + 1) ++ chW c]) 3 (by rw [upd_same]; rfl) ?_ (by show 2 * 46 ≤ 16000000; decide) (fun H2 s2 => ?_)
        · intro g hg
          simp only [List.mem_cons, List.not_mem_nil, or_false] at hg
          rcases hg with rfl | rfl
          · by_cases vv : vowel ((sizeWords (s' + 1) ++ chW c).headD []) = true
            · rw [if_pos vv]
              exact an_wd.mono (by decide)
            · rw [if_neg vv]
              exact a_wd.mono (by decide)
          · exact hw2.mono (by decide)
        · rw [charges_one]
          exact k H2 ((((new_same np).trans s).trans (new_same np2)).trans s2)
def spLW (d : Ad) : Sp := fun vs H Q _ => ∃ (v : V) (x : Sh.Layer) (H0 : Hp), vs = [v] ∧ RLayer d H0 H v x ∧ VLayer x ∧ ∀ H', Same H H' → Q (vS (spaced (layerWords x))) H'
theorem sc_layer_words : FnScope ["layer"] ["layer"] (defScope s_layer_words) := ⟨rfl, rfl, rfl, by decide +kernel, rfl, by decide +kernel, by decide +kernel⟩
theorem ok_layer_words (T : Txt K mg d) : OkD P w K mg base CX0 4 d.f_layer_words ["layer"] (spLW d) := by
  obtain ⟨fd, F, B⟩ := T.k_layer_words.ex
  obtain ⟨⟨fd_joined, G_joined, B_joined⟩, kp_joined⟩ := ok_joined (P := P) (w := w) (base := base) T
  obtain ⟨⟨fd_charges_words, G_charges_words, B_charges_words⟩, kp_charges_words⟩ := ok_charges_words (P := P) (w := w) (base := base) T
  obtain ⟨⟨fd_fill_words, G_fill_words, B_fill_words⟩, kp_fill_words⟩ := ok_fill_words (P := P) (w := w) (base := base) T
  obtain ⟨a_MANNERS, m_MANNERS, q_MANNERS⟩ := T.tMANNERS
  obtain ⟨a_ORDINARIES, m_ORDINARIES, q_ORDINARIES⟩ := T.tORDINARIES
  obtain ⟨a_LINES, m_LINES, q_LINES⟩ := T.tLINES
  refine ⟨⟨fd, F.ok sc_layer_words (fun vs H Q E h => ?_) (fun cdv A outer s H vs Q E hr h => ?_), B⟩, F.kp⟩
  · obtain ⟨v, x, H0, rfl, _⟩ := h
    rfl
  · obtain ⟨v, x, H0, rfl, hv, hx, k⟩ := h
    have hr_joined : Room 1 _ := hr.mono (by decide)
    have hr_charges_words : Room 2 _ := hr.mono (by decide)
    have hr_fill_words : Room 3 _ := hr.mono (by decide)
    refine ⟨_, pss_cons (ps_if (pt_val (pe_callB call_isi (by rfl) T.b_isinstance (by decide +kernel) (pa_cons (pv 0) (pa_cons (pe_glob (v := .ref d.cOrdinary) rfl T.kOrdinary.gl rfl) pa_nil))))
        (pss_one (ps_ret (pe_call G_joined hr_joined rfl T.k_joined.gl kp_joined B_joined .nil pass0 (pa_cons (pe_lst (pa_cons pe_str (pa_cons (pe_ix ix_tup (pe_glob (v := .ref a_ORDINARIES) rfl m_ORDINARIES rfl) (pe_fld (pv 0) rfl) (fun _ _ => rfl)) (pa_cons (pe_ix ix_tup (pe_glob (v := .ref a_LINES) rfl m_LINES rfl) (pe_fld (pv 0) rfl) (fun _ _ => rfl)) (pa_cons (pe_call G_fill_words hr_fill_words rfl T.k_fill_words.gl kp_fill_words B_fill_words .nil pass0 (pa_cons (pe_fld (pv 0) rfl) pa_nil)) pa_nil))))) pa_nil))))
        pss_nil)
      (pss_one (ps_ret (pe_call G_joined hr_joined rfl T.k_joined.gl kp_joined B_joined .nil pass0 (pa_cons (pe_lst (pa_cons (pe_call G_charges_words hr_charges_words rfl T.k_charges_words.gl kp_charges_words B_charges_words .nil pass0 (pa_cons (pv 0) pa_nil)) (pa_cons (pe_ix ix_tup (pe_glob (v := .ref a_MANNERS) rfl m_MANNERS rfl) (pe_fld (pv 0) rfl) (fun _ _ => rfl)) (pa_cons (pe_call G_fill_words hr_fill_words rfl T.k_fill_words.gl kp_fill_words B_fill_words .nil pass0 (pa_cons (pe_fld (pv 0) rfl) pa_nil)) pa_nil)))) pa_nil)))), ?_⟩
    cases x with
    | ord o l f =>
      obtain ⟨u, ⟨b, dxb, rfl, nb, hb⟩, hu⟩ := hv
      obtain ⟨h1, h2, h3⟩ : o ≤ 12 ∧ l ≤ 5 ∧ VFill f := hx
      refine ⟨_, rfl, _, _, _, _, _, rfl, ClsV.own _, .base (.ins hb T.kOrdinary.cl T.kOrdinary.cla T.gs T.tk T.kOrdinary.mro), T.iOrdinary_Ordinary, _, rfl, ?_⟩
      refine iteT ?_
      refine ⟨_, rfl, b, d.cOrdinary, dxb, _, _, rfl, hb, T.kOrdinary.cl, T.kOrdinary.no.1, look_at _ _ _ 0 rfl (by decide +kernel), _, _, _, _, rfl, rfl, q_ORDINARIES _, tb_at (ord_tb ⟨o, by omega⟩), ?_⟩
      refine ⟨_, rfl, b, d.cOrdinary, dxb, _, _, rfl, hb, T.kOrdinary.cl, T.kOrdinary.no.2.1, look_at _ _ _ 1 rfl (by decide +kernel), _, _, _, _, rfl, rfl, q_LINES _, tb_at (line_tb ⟨l, by omega⟩), ?_⟩
      refine ⟨_, rfl, b, d.cOrdinary, dxb, _, _, rfl, hb, T.kOrdinary.cl, T.kOrdinary.no.2.2.1, look_at _ _ _ 2 rfl (by decide +kernel), u, f, H0, rfl, hu, h3, fun H1 s1 => ?_⟩
      refine ⟨len6 (by show 4 ≤ 9; decide), fun p np => ?_⟩
      refine joined_of (E := E0) (gs := [[ascii "a"], withSin ORDWORDS 5 o, lineWords l, fillWords f]) 9 (by rw [upd_same, txt_a]; rfl) ?_ (by show 4 * 136 ≤ 16000000; decide) (fun H' s => ?_)
      · intro g hg
        simp only [List.mem_cons, List.not_mem_nil, or_false] at hg
        rcases hg with rfl | rfl | rfl | rfl
        · exact a_wd.mono (by decide)
        · exact (ord_wd ⟨o, by omega⟩).mono (by decide)
        · exact (line_wd ⟨l, by omega⟩).mono (by decide)
        · exact fill_wd h3
      · have e : [[ascii "a"], withSin ORDWORDS 5 o, lineWords l, fillWords f].flatten = layerWords (.ord o l f) := by
          show [ascii "a"] ++ (withSin ORDWORDS 5 o ++ (lineWords l ++ (fillWords f ++ []))) = _
          rw [List.append_nil]
          rfl
        rw [e]
        exact k H' ((s1.trans (new_same np)).trans s)
    | group c n m sz f =>
      obtain ⟨u, ⟨b, dxb, rfl, nb, hb⟩, hu⟩ := hv
      obtain ⟨h1, h2, h3, h4, h5, h6, h7⟩ : c ≤ 15 ∧ 1 ≤ n ∧ n ≤ 10 ∧ m ≤ 6 ∧ 1 ≤ sz ∧ sz ≤ 4 ∧ VFill f := hx
      refine ⟨_, rfl, _, _, _, _, _, rfl, ClsV.own _, .base (.ins hb T.kGroup.cl T.kGroup.cla T.gs T.tk T.kGroup.mro), T.iGroup_Ordinary, _, rfl, ?_⟩
      refine iteF ?_
      refine ⟨_, rfl, _, c, n, m, sz, f, H0, rfl, ⟨u, ⟨b, dxb, rfl, nb, hb⟩, hu⟩, h1, h2, h3, h5, h6, fun H1 s1 => ?_⟩
      replace hb := s1 _ _ hb
      refine ⟨_, rfl, b, d.cGroup, dxb, _, _, rfl, hb, T.kGroup.cl, T.kGroup.no.2.2.1, look_at _ _ _ 2 rfl (by decide +kernel), _, _, _, _, rfl, rfl, q_MANNERS _, tb_at (man_tb ⟨m, by omega⟩), ?_⟩
      refine ⟨_, rfl, b, d.cGroup, dxb, _, _, rfl, hb, T.kGroup.cl, T.kGroup.no.2.2.2.2.1, look_at _ _ _ 4 rfl (by decide +kernel), u, f, H0, rfl, RFill.mv hu (Mv.here s1), h7, fun H2 s2 => ?_⟩
      refine ⟨len6 (by show 3 ≤ 9; decide), fun p np => ?_⟩
      refine joined_of (E := E0) (gs := [chargesW c n sz, mannerWords m, fillWords f]) 9 (by rw [upd_same]; rfl) ?_ (by show 3 * 136 ≤ 16000000; decide) (fun H' s => ?_)
      · intro g hg
        simp only [List.mem_cons, List.not_mem_nil, or_false] at hg
        rcases hg with rfl | rfl | rfl
        · exact (charges_wd h1 h2 h3 h5 h6).mono (by decide)
        · exact (man_wd ⟨m, by omega⟩).mono (by decide)
        · exact fill_wd h7
      · have e : [chargesW c n sz, mannerWords m, fillWords f].flatten = layerWords (.group c n m sz f) := by
          show chargesW c n sz ++ (mannerWords m ++ (fillWords f ++ [])) = _
          rw [List.append_nil]
          rfl
        rw [e]
        exact k H' (((s1.trans s2).trans (new_same np)).trans s)
end
end HC


namespace HC
open PySem PySem.Spec PyProof.Rows L2 ShBlazon
def parenW (a : Sh.Arms) : List UInt8 := 40 :: (print a ++ [41])
theorem paren_len {a : Sh.Arms} (h : VArms a) : (parenW a).length ≤ 2002 := by
  have := print_len h
  show (print a ++ [41]).length + 1 ≤ 2002
  rw [List.length_append]
  show (print a).length + 1 + 1 ≤ 2002
  omega
theorem par1 : Str.empty ++ ("(" : Str) = strOf [40] := by decide +kernel
theorem par2 : (")" : Str) = strOf [41] := by decide +kernel
theorem strOf_fit {b : List UInt8} (h : b.length ≤ 16000000) : (strOf b).length ≤ sizeLine := by
  rw [strOf_len]
  exact Nat.le_trans h (by decide)
def canW : Option Sh.Arms → List (List UInt8)
  | none => []
  | some a => [ascii "augmented", parenW a]
def mkdW (l : List (Nat × Nat)) : List (List UInt8) := if l.isEmpty = true then [] else [ascii "marked"]
def markedPh (m : ShMarsh.Marked) : List (List UInt8) := ((parenW m.arms :: canW m.canton) ++ mkdW m.marks) ++ m.marks.map ShMarsh.markWords
theorem markW_len {x : Nat × Nat} (h : x.1 ≤ 127 ∧ x.2 ≤ 255) : (ShMarsh.markWords x).length ≤ 7 ∧ ShMarsh.markWords x ≠ [] := by
  have h1 := num_len ⟨x.1, by omega⟩
  have h2 := num_len ⟨x.2, by omega⟩
  dsimp only at h1 h2
  unfold ShMarsh.markWords
  refine ⟨?_, fun z => ?_⟩
  · rw [List.length_append, List.length_cons]
    omega
  · have := (List.append_eq_nil_iff.mp z).2
    cases this
theorem can_ok {c : Option Sh.Arms} (h : VOpt c) : ∀ w ∈ canW c, w.length ≤ 2002 ∧ w ≠ [] := by
  cases c with
  | none => exact fun w hw => nomatch hw
  | some a =>
    intro w hw
    rcases List.mem_cons.mp hw with e | e
    · subst e
      exact ⟨by decide +kernel, by decide +kernel⟩
    · rcases List.mem_cons.mp e with e | e
      · subst e
        exact ⟨paren_len h, fun z => by cases z⟩
      · cases e
theorem mkd_ok (l : List (Nat × Nat)) : ∀ w ∈ mkdW l, w.length ≤ 2002 ∧ w ≠ [] := by
  unfold mkdW
  by_cases c : l.isEmpty = true
  · rw [if_pos c]
    exact fun w hw => nomatch hw
  · rw [if_neg c]
    intro w hw
    rcases List.mem_cons.mp hw with e | e
    · subst e
      exact ⟨by decide +kernel, by decide +kernel⟩
    · cases e
theorem ph_ok {m : ShMarsh.Marked} (h : VMarked m) : (∀ w ∈ markedPh m, w.length ≤ 2002 ∧ w ≠ []) ∧ (markedPh m).length ≤ 64 := by
  obtain ⟨h1, h2, h3, h4⟩ := h
  refine ⟨fun w hw => ?_, ?_⟩
  · rcases List.mem_append.mp hw with z | z
    · rcases List.mem_append.mp z with z | z
      · rcases List.mem_cons.mp z with e | e
        · subst e
          exact ⟨paren_len h1, fun z => by cases z⟩
        · exact can_ok h2 w e
      · exact mkd_ok _ w z
    · obtain ⟨x, hx, rfl⟩ := List.mem_map.mp z
      have := markW_len (h4 x hx)
      exact ⟨by omega, this.2⟩
  · unfold markedPh
    rw [List.length_append, List.length_append, List.length_cons, List.length_map]
    have e1 : (canW m.canton).length ≤ 2 := by
      cases m.canton with
      | none => exact Nat.zero_le _
      | some a => exact Nat.le_refl 2
    have e2 : (mkdW m.marks).length ≤ 1 := by
      unfold mkdW
      by_cases c : m.marks.isEmpty = true
      · rw [if_pos c]; decide
      · rw [if_neg c]; decide
    omega
theorem marked_is (m : ShMarsh.Marked) : spaced (markedPh m) = m.words := by
  rw [← glue_spaced]
  unfold markedPh
  rw [List.cons_append, List.cons_append, glue_flat, List.flatMap_append, List.flatMap_append, List.flatMap_map]
  unfold ShMarsh.Marked.words
  have e0 : ∀ X : List UInt8, parenW m.arms ++ X = ascii "(" ++ (print m.arms ++ (ascii ")" ++ X)) := by
    intro X
    show 40 :: ((print m.arms ++ [41]) ++ X) = 40 :: (print m.arms ++ ([41] ++ X))
    rw [List.append_assoc]
  rw [e0]
  congr 1
  congr 1
  congr 1
  have e1 : (canW m.canton).flatMap (fun w => [32] ++ w) = (match m.canton with
      | some a => ascii " augmented (" ++ (print a ++ ascii ")")
      | none => []) := by
    cases m.canton with
    | none => rfl
    | some a =>
      show (([32] ++ ascii "augmented") ++ (([32] ++ parenW a) ++ [])) = _
      rw [List.append_nil]
      have e : ascii " augmented (" = ([32] ++ ascii "augmented") ++ [32, 40] := by decide +kernel
      have e' : ascii ")" = [41] := by decide +kernel
      dsimp only
      rw [e, e', List.append_assoc]
      rfl
  rw [e1, List.append_assoc]
  congr 1
  unfold mkdW
  cases m.marks with
  | nil => rfl
  | cons x l =>
    have e : ascii " marked" = [32] ++ ascii "marked" := by decide +kernel
    rw [if_neg (by intro z; cases z), if_neg (by intro z; cases z), e]
    show ([32] ++ ascii "marked" ++ []) ++ _ = _
    rw [List.append_nil]
    rfl
section
variable {P : Program} {w : World} {K : PySem.W.Frag} {mg : Str → Option Value} {base : Heap} {d : Ad}
theorem Cm.put0 {H H1 : Hp} {p : Addr} {acc : List V} (s : Same H H1) (np : H1 p = none) : Cm H p acc (upd H1 p (.lst acc)) := ⟨s.trans (new_same np), upd_same⟩
/-! ### arms_words -/
def spAW (d : Ad) : Sp := fun vs H Q _ => ∃ (v : V) (a : Sh.Arms) (H0 : Hp), vs = [v] ∧ RArms d H0 H v a ∧ VArms a ∧ ∀ H', Same H H' → Q (vS (parenW a)) H'
theorem sc_arms_words : FnScope ["arms", "blazon", "layer"] ["arms"] (defScope s_arms_words) := ⟨rfl, rfl, rfl, by decide +kernel, rfl, by decide +kernel, by decide +kernel⟩
theorem ok_arms_words (T : Txt K mg d) : OkD P w K mg base CX0 5 d.f_arms_words ["arms"] (spAW d) := by
  obtain ⟨fd, F, B⟩ := T.k_arms_words.ex
  obtain ⟨⟨fd_field_words, G_field_words, B_field_words⟩, kp_field_words⟩ := ok_field_words (P := P) (w := w) (base := base) T
  obtain ⟨⟨fd_layer_words, G_layer_words, B_layer_words⟩, kp_layer_words⟩ := ok_layer_words (P := P) (w := w) (base := base) T
  refine ⟨⟨fd, F.ok sc_arms_words (fun vs H Q E h => ?_) (fun cdv A outer s H vs Q E hr h => ?_), B⟩, F.kp⟩
  · obtain ⟨v, a, H0, rfl, _⟩ := h
    rfl
  · obtain ⟨v, a, H0, rfl, hv, ha, k⟩ := h
    have hr_field_words : Room 2 _ := hr.mono (by decide)
    have hr_layer_words : Room 4 _ := hr.mono (by decide)
    refine ⟨_, pss_cons (ps_set (i := 1) sc_arms_words.nd rfl (Or.inl rfl) (pe_join pe_str (pe_op op_cat (pe_lst (pa_cons (pe_call G_field_words hr_field_words rfl T.k_field_words.gl kp_field_words B_field_words .nil pass0 (pa_cons (pe_fld (pv 0) rfl) pa_nil)) pa_nil)) (pe_lc (own := [("layer", 2)]) (g := gName 2) (tt := tYes) rfl sc_arms_words.nd (pi_list (pe_fld (pv 0) rfl)) (blkOk_by (N := ["arms", "blazon", "layer"]) (sc := defScope s_arms_words) (by decide +kernel)) (fun _ _ _ _ _ => pg_name (i := 2) sc_arms_words.nd rfl (Or.inl rfl)) (fun _ _ _ _ _ => pts_nil) (fun _ _ _ _ _ => (pe_call G_layer_words hr_layer_words rfl T.k_layer_words.gl kp_layer_words B_layer_words .nil pass0 (pa_cons (pv 2) pa_nil)))))))
      (pss_one (ps_ret (pe_joined (PJ.cons pe_str (PJ.cons (pe_fmt (pv 1)) (PJ.cons pe_str PJ.nil)))))), ?_⟩
    obtain ⟨u, l, us, ⟨b, dxb, rfl, nb, hb⟩, hu, ⟨nl, hl⟩, hall⟩ := hv
    have hlen := hall.length
    refine ⟨⟨_, rfl⟩, _, rfl, b, d.cArms, dxb, _, _, rfl, hb, T.kArms.cl, T.kArms.no.1, look_at _ _ _ 0 rfl (by decide +kernel), u, a.field, H0, rfl, hu, ha.1, fun H1 s1 => ?_⟩
    refine ⟨len6 (by show 1 ≤ 9; decide), fun p np => ?_⟩
    have s2 : Same H (upd H1 p (.lst [vS (spaced (fieldWords a.field))])) := s1.trans (new_same np)
    replace hb := s2 _ _ hb
    have hl2 := s2 _ _ hl
    refine ⟨_, rfl, b, d.cArms, dxb, _, _, rfl, hb, T.kArms.cl, T.kArms.no.2.1, look_at _ _ _ 1 rfl (by decide +kernel), l, rfl, ⟨us, SqL.of hl2⟩, fun D hD => ?_⟩
    refine lc_list (xs := us) (fun i H' => Cm (upd H1 p (.lst [vS (spaced (fieldWords a.field))])) D ((a.layers.take i).map fun x => vS (spaced (layerWords x))) H') (Cm.start hD) (fun i H' _ cm => SqL.of (cm.sm _ _ hl2)) (fun i x H' hx cm => ?_) (fun H' cm => ?_)
    · obtain ⟨y, hy, ry⟩ := hall.at_ hx
      have mem : y ∈ a.layers := List.mem_of_getElem? hy
      have hi := get_lt hy
      refine ⟨rfl, ?_⟩
      unfold tYes
      dsimp only
      rw [if_pos rfl]
      refine ⟨_, rfl, x, y, H0, rfl, RLayer.mv ry (Mv.here (s2.trans cm.sm)), ha.2.2 y mem, fun H4 s4 => ?_⟩
      obtain ⟨t1, t2⟩ := cm.turn hD s4 (vS (spaced (layerWords y)))
      rw [List.take_add_one, hy, Option.toList_some, List.map_append]
      refine ⟨_, t1, ?_, t2⟩
      rw [List.length_map, List.length_take]
      have h1 := ha.2.1
      exact Nat.lt_of_le_of_lt (Nat.le_trans (Nat.min_le_right _ _) h1) (by decide)
    · rw [hlen, List.take_length] at cm
      refine ⟨p, D, _, _, rfl, rfl, cm.sm _ _ upd_same, cm.ac, ?_, fun q nq => ?_⟩
      · rw [List.length_map]
        have h1 := ha.2.1
        show 1 + a.layers.length ≤ sizeLine
        exact Nat.le_trans (show 1 + a.layers.length ≤ 9 by omega) (by decide)
      have e : ((spaced (fieldWords a.field) :: a.layers.map fun x => spaced (layerWords x)).map strOf).map V.str = [vS (spaced (fieldWords a.field))] ++ a.layers.map fun x => vS (spaced (layerWords x)) := by
        rw [List.map_cons, List.map_cons, List.map_map, List.map_map]
        rfl
      refine ⟨_, q, (spaced (fieldWords a.field) :: a.layers.map fun x => spaced (layerWords x)).map strOf, rfl, rfl, .inl (by rw [e]; exact SqL.of upd_same), ?_, ?_⟩
      · rw [lens_of, List.length_map]
        have h1 := sum_le (spaced (fieldWords a.field) :: a.layers.map fun x => spaced (layerWords x)) 225 fun w hw => by
          rcases List.mem_cons.mp hw with z | z
          · subst z
            have := (field_wd ha.1).len
            omega
          · obtain ⟨x, hx, rfl⟩ := List.mem_map.mp z
            exact (layer_wd (ha.2.2 x hx)).len
        have h2 : (", " : Str).length = 2 := by decide +kernel
        have h3 := ha.2.1
        rw [List.length_cons, List.length_map] at h1 ⊢
        rw [h2]
        omega
      rw [txt_glue (sep := [44, 32]) (by decide +kernel), print_glue]
      have hpl := print_len ha
      refine ⟨_, rfl, by rw [par1]; exact strOf_fit (by decide), ?_⟩
      refine ⟨_, rfl, .inl ⟨_, rfl, strOf_fit (by omega), _, rfl, ?_, ?_⟩⟩
      · rw [par1, strOf_app]
        exact strOf_fit (by rw [List.length_append]; show 1 + _ ≤ _; omega)
      refine ⟨_, rfl, ?_, ?_⟩
      · rw [par1, par2, strOf_app, strOf_app]
        exact strOf_fit (by rw [List.length_append, List.length_append]; show 1 + _ + 1 ≤ _; omega)
      · have e2 : ((Str.empty ++ ("(" : Str)) ++ strOf (print a)) ++ (")" : Str) = strOf (parenW a) := by
          rw [par1, par2, strOf_app, strOf_app, List.append_assoc]
          rfl
        show Q (V.str (((Str.empty ++ ("(" : Str)) ++ strOf (print a)) ++ (")" : Str))) _
        rw [e2]
        exact k _ ((s2.trans cm.sm).trans (new_same nq))
/-! ### marked_words -/
theorem txt_aug : ("augmented" : Str) = strOf (ascii "augmented") := by decide +kernel
theorem txt_mkd : ("marked" : Str) = strOf (ascii "marked") := by decide +kernel
theorem txt_dot : ("." : Str) = strOf [46] := by decide +kernel
def spMW (d : Ad) : Sp := fun vs H Q _ => ∃ (v : V) (m : ShMarsh.Marked) (H0 : Hp), vs = [v] ∧ RMarked d H0 H v m ∧ VMarked m ∧ ∀ H', Same H H' → Q (vS m.words) H'
theorem sc_marked_words : FnScope ["marked", "phrases", "mark"] ["marked"] (defScope s_marked_words) := ⟨rfl, rfl, rfl, by decide +kernel, rfl, by decide +kernel, by decide +kernel⟩
theorem ok_marked_words (T : Txt K mg d) : OkD P w K mg base CX0 6 d.f_marked_words ["marked"] (spMW d) := by
  obtain ⟨fd, F, B⟩ := T.k_marked_words.ex
  obtain ⟨⟨fd_joined, G_joined, B_joined⟩, kp_joined⟩ := ok_joined (P := P) (w := w) (base := base) T
  obtain ⟨⟨fd_arms_words, G_arms_words, B_arms_words⟩, kp_arms_words⟩ := ok_arms_words (P := P) (w := w) (base := base) T
  refine ⟨⟨fd, F.ok sc_marked_words (fun vs H Q E h => ?_) (fun cdv A outer s H vs Q E hr h => ?_), B⟩, F.kp⟩
  · obtain ⟨v, m, H0, rfl, _⟩ := h
    rfl
  · obtain ⟨v, m, H0, rfl, hv, hm, k⟩ := h
    have hr_joined : Room 1 _ := hr.mono (by decide)
    have hr_arms_words : Room 5 _ := hr.mono (by decide)
    refine ⟨_, pss_cons (ps_set (i := 1) sc_marked_words.nd rfl (Or.inl rfl) (pe_lst (pa_cons (pe_call G_arms_words hr_arms_words rfl T.k_arms_words.gl kp_arms_words B_arms_words .nil pass0 (pa_cons (pe_fld (pv 0) rfl) pa_nil)) pa_nil)))
      (C8.pss_cut (ps_if (pt_cmp (pc_notN (pe_fld (pv 0) rfl)))
        (pss_cons (ps_expr (pe_bm PySem.F.plainAttrs_list PySem.F.slot_list_append PySem.F.type_list_append mt_append (pv 1) (pa_cons pe_str pa_nil)))
      (pss_one (ps_expr (pe_bm PySem.F.plainAttrs_list PySem.F.slot_list_append PySem.F.type_list_append mt_append (pv 1) (pa_cons (pe_call G_arms_words hr_arms_words rfl T.k_arms_words.gl kp_arms_words B_arms_words .nil pass0 (pa_cons (pe_fld (pv 0) rfl) pa_nil)) pa_nil)))))
        pss_nil)
      (C8.pss_cut (ps_if (pt_cmpR op_gt (pe_callB call_len_seq (by rfl) T.b_len PySem.boot_len (pa_cons (pe_fld (pv 0) rfl) pa_nil)) pe_int (nomark _))
        (pss_one (ps_expr (pe_bm PySem.F.plainAttrs_list PySem.F.slot_list_append PySem.F.type_list_append mt_append (pv 1) (pa_cons pe_str pa_nil))))
        pss_nil)
      (pss_cons (ps_for PassesOwn.never rfl (pi_list (pe_fld (pv 0) rfl)) (pg_name (i := 2) sc_marked_words.nd rfl (Or.inl rfl))
        (pss_one (ps_expr (pe_bm PySem.F.plainAttrs_list PySem.F.slot_list_append PySem.F.type_list_append mt_append (pv 1) (pa_cons (pe_op op_add_str (pe_op op_add_str (pe_callTy call_str_int (by rfl) T.b_str (by decide +kernel) (pa_cons (pe_fld (pv 2) rfl) pa_nil)) pe_str) (pe_callTy call_str_int (by rfl) T.b_str (by decide +kernel) (pa_cons (pe_fld (pv 2) rfl) pa_nil))) pa_nil)))))
      (pss_one (ps_ret (pe_call G_joined hr_joined rfl T.k_joined.gl kp_joined B_joined .nil pass0 (pa_cons (pv 1) pa_nil))))))), ?_⟩
    obtain ⟨u, cn, mk, ⟨b, dxb, rfl, nb, hb0⟩, hu, hc, ⟨l, us, rfl, ⟨nl, hl⟩, hall⟩⟩ := hv
    have hlen := hall.length
    obtain ⟨v1, v2, v3, v4⟩ := _root_.id hm
    obtain ⟨o1, o2⟩ := ph_ok hm
    have hb := hb0
    refine ⟨_, rfl, b, d.cMarked, dxb, _, _, rfl, hb, T.kMarked.cl, T.kMarked.no.1, look_at _ _ _ 0 rfl (by decide +kernel), u, m.arms, H0, rfl, hu, v1, fun H1 s1 => ?_⟩
    refine ⟨len6 (by show 1 ≤ 9; decide), fun p np => ?_⟩
    have pn : H p = none := s1.free np
    have c0 : Cm H p ([parenW m.arms].map vS) (upd H1 p (.lst [vS (parenW m.arms)])) := Cm.put0 s1 np
    refine ⟨fun σ' H' => σ' = [some (.ref b), some (.ref p), none] ∧ Cm H p ((parenW m.arms :: canW m.canton).map vS) H', ?_, ?_⟩
    · replace hb := c0.sm _ _ hb0
      refine ⟨_, rfl, b, d.cMarked, dxb, _, _, rfl, hb, T.kMarked.cl, T.kMarked.no.2.1, look_at _ _ _ 1 rfl (by decide +kernel), _, rfl, ?_⟩
      dsimp only
      cases e : m.canton with
      | none =>
        rw [e] at hc
        cases hc
        refine iteF ?_
        exact ⟨rfl, c0⟩
      | some a =>
        rw [e] at hc v2
        have hn : cn ≠ .non := by
          obtain ⟨z1, z2, z3, ⟨z4, z5, rfl, _⟩, _⟩ := hc
          intro z
          cases z
        rw [decide_eq_false hn]
        refine iteT ?_
        obtain ⟨t1, t2⟩ := c0.turn pn (Same.refl _) (vS (ascii "augmented"))
        refine ⟨_, rfl, .inl ⟨rfl, _, SqL.of c0.ac⟩, p, _, _, rfl, rfl, c0.ac, len6' (by show 1 < 9; decide), ?_⟩
        rw [txt_aug]
        replace hb := t2.sm _ _ hb0
        refine ⟨_, rfl, .inl ⟨rfl, _, SqL.of t2.ac⟩, _, rfl, b, d.cMarked, dxb, _, _, rfl, hb, T.kMarked.cl, T.kMarked.no.2.1, look_at _ _ _ 1 rfl (by decide +kernel), cn, a, H0, rfl, RArms.mv hc (Mv.here t2.sm), v2, fun H2 s2 => ?_⟩
        obtain ⟨t3, t4⟩ := t2.turn pn s2 (vS (parenW a))
        exact ⟨p, _, _, rfl, rfl, t3, len6' (by show 2 < 9; decide), rfl, t4⟩
    · rintro σ' H2 ⟨rfl, c2⟩
      have hl2 := c2.sm _ _ hl
      replace hb := c2.sm _ _ hb0
      refine ⟨fun σ' H' => σ' = [some (.ref b), some (.ref p), none] ∧ Cm H p (((parenW m.arms :: canW m.canton) ++ mkdW m.marks).map vS) H', ?_, ?_⟩
      · refine ⟨_, rfl, b, d.cMarked, dxb, _, _, rfl, hb, T.kMarked.cl, T.kMarked.no.2.2.1, look_at _ _ _ 2 rfl (by decide +kernel), l, us, rfl, .inl (SqL.of hl2), _, _, rfl, rfl, _, rfl, ?_⟩
        rw [hlen]
        unfold mkdW
        cases e : m.marks with
        | nil =>
          refine iteF ?_
          refine ⟨rfl, ?_⟩
          show Cm H p (((parenW m.arms :: canW m.canton) ++ []).map vS) H2
          rw [List.append_nil]
          exact c2
        | cons x r =>
          rw [decide_eq_true (show (0 : Int) < (((x :: r).length : Nat) : Int) by rw [List.length_cons]; omega)]
          refine iteT ?_
          rw [if_neg (by intro z; cases z)]
          obtain ⟨t1, t2⟩ := c2.turn pn (Same.refl _) (vS (ascii "marked"))
          refine ⟨_, rfl, .inl ⟨rfl, _, SqL.of c2.ac⟩, p, _, _, rfl, rfl, c2.ac, ?_, ?_⟩
          · rw [List.length_map, List.length_cons]
            have : (canW m.canton).length ≤ 2 := by
              cases m.canton with
              | none => exact Nat.zero_le _
              | some a => exact Nat.le_refl 2
            exact Nat.lt_of_lt_of_le (show (canW m.canton).length + 1 < 9 by omega) (by decide)
          · rw [txt_mkd, List.map_append]
            exact ⟨rfl, t2⟩
      · rintro σ' H3 ⟨rfl, c3⟩
        have hl3 := c3.sm _ _ hl
        replace hb := c3.sm _ _ hb0
        refine ⟨_, rfl, b, d.cMarked, dxb, _, _, rfl, hb, T.kMarked.cl, T.kMarked.no.2.2.1, look_at _ _ _ 2 rfl (by decide +kernel), l, rfl, ⟨us, SqL.of hl3⟩, ?_⟩
        refine for_list (xs := us) (fun i σ' H' => (∃ z, σ' = [some (.ref b), some (.ref p), z]) ∧ Cm H p ((((parenW m.arms :: canW m.canton) ++ mkdW m.marks) ++ (m.marks.take i).map ShMarsh.markWords).map vS) H') ⟨⟨_, rfl⟩, ?_⟩ (fun i σ' H' _ q => SqL.of (q.2.sm _ _ hl)) (fun i x σ' H' hx q => ?_) (fun σ' H' q => ?_)
        · rw [List.take_zero, List.map_nil, List.append_nil]
          exact c3
        · obtain ⟨⟨z, rfl⟩, cm⟩ := q
          obtain ⟨y, hy, ry⟩ := hall.at_ hx
          have mem : y ∈ m.marks := List.mem_of_getElem? hy
          have hi := get_lt hy
          obtain ⟨y1, y2⟩ := v4 y mem
          obtain ⟨bm, dxbm, rfl, _, hbm0⟩ := ry
          have hbm := cm.sm _ _ hbm0
          have n1 := num_tb ⟨y.1, by omega⟩
          have n2 := num_tb ⟨y.2, by omega⟩
          have l1 := num_len ⟨y.1, by omega⟩
          have l2 := num_len ⟨y.2, by omega⟩
          dsimp only at n1 n2 l1 l2
          have n1' : (toString ((y.1 : Nat) : Int) : Str) = strOf (ShMarsh.number3 y.1) := n1
          have n2' : (toString ((y.2 : Nat) : Int) : Str) = strOf (ShMarsh.number3 y.2) := n2
          refine ⟨_, rfl, .inl ⟨rfl, _, SqL.of cm.ac⟩, _, rfl, bm, d.cMark, dxbm, _, _, rfl, hbm, T.kMark.cl, T.kMark.no.1, look_at _ _ _ 0 rfl (by decide +kernel), _, rfl, num_log (by omega), _, _, rfl, rfl, ?_, _, rfl, bm, d.cMark, dxbm, _, _, rfl, hbm, T.kMark.cl, T.kMark.no.2.1, look_at _ _ _ 1 rfl (by decide +kernel), _, rfl, num_log (by omega), _, _, rfl, rfl, ?_, ?_⟩
          · rw [n1', txt_dot, strOf_len, strOf_len]
            exact Nat.le_trans (show _ ≤ 9 by show _ + 1 ≤ 9; omega) (by decide)
          · rw [n1', n2', txt_dot, strOf_app, strOf_len, strOf_len, List.length_append]
            exact Nat.le_trans (show _ ≤ 9 by show _ + 1 + _ ≤ 9; omega) (by decide)
          · have e2 : ((toString ((y.1 : Nat) : Int) : Str) ++ ("." : Str)) ++ (toString ((y.2 : Nat) : Int) : Str) = strOf (ShMarsh.markWords y) := by
              rw [n1', n2', txt_dot, strOf_app, strOf_app, List.append_assoc]
              rfl
            refine ⟨p, _, _, rfl, rfl, cm.ac, ?_, ⟨_, rfl⟩, ?_⟩
            · rw [List.length_map]
              have h1 : (((parenW m.arms :: canW m.canton) ++ mkdW m.marks) ++ (m.marks.take i).map ShMarsh.markWords).length ≤ (markedPh m).length := by
                unfold markedPh
                simp only [List.length_append, List.length_map, List.length_take]
                omega
              exact Nat.lt_of_le_of_lt (Nat.le_trans h1 o2) (by decide)
            · obtain ⟨t1, t2⟩ := cm.turn pn (Same.refl _) (vS (ShMarsh.markWords y))
              rw [List.take_add_one, hy, Option.toList_some, List.map_append (l₁ := m.marks.take i), ← List.append_assoc, List.map_append (l₂ := [y].map _)]
              show Cm H p (_ ++ [vS (ShMarsh.markWords y)]) (upd H' p (.lst (_ ++ [V.str (((toString ((y.1 : Nat) : Int) : Str) ++ ("." : Str)) ++ (toString ((y.2 : Nat) : Int) : Str))])))
              rw [e2]
              exact t2
        · obtain ⟨⟨z, rfl⟩, cm⟩ := q
          rw [hlen, List.take_length] at cm
          have hsum := sum_le (markedPh m) 2002 fun w hw => (o1 w hw).1
          refine ⟨_, rfl, p, markedPh m, rfl, SqL.of cm.ac, by omega, fun H4 s4 => ?_⟩
          have ef : (markedPh m).filter ne = markedPh m := List.filter_eq_self.mpr fun w hw => ne_true (o1 w hw).2
          rw [ef, marked_is]
          exact k _ (cm.sm.trans s4)
/-! ### kind_word -/
def kindW : ShMarsh.Coat → List UInt8
  | .one _ => []
  | .quarters _ => ascii "quarterly"
  | .impaled _ _ => ascii "impaled"
  | .pretence _ _ => ascii "pretence"
def spKW (d : Ad) : Sp := fun vs H Q _ => ∃ (v : V) (c : ShMarsh.Coat) (H0 : Hp), vs = [v] ∧ RC d H0 H v c ∧ isOne c = false ∧ Q (vS (kindW c)) H
theorem txt_q : ("quarterly" : Str) = strOf (ascii "quarterly") := by decide +kernel
theorem txt_i : ("impaled" : Str) = strOf (ascii "impaled") := by decide +kernel
theorem txt_p : ("pretence" : Str) = strOf (ascii "pretence") := by decide +kernel
theorem sc_kind_word : FnScope ["coat"] ["coat"] (defScope s_kind_word) := ⟨rfl, rfl, rfl, by decide +kernel, rfl, by decide +kernel, by decide +kernel⟩
theorem ok_kind_word (T : Txt K mg d) : OkD P w K mg base CX0 1 d.f_kind_word ["coat"] (spKW d) := by
  obtain ⟨fd, F, B⟩ := T.k_kind_word.ex
  refine ⟨⟨fd, F.ok sc_kind_word (fun vs H Q E h => ?_) (fun cdv A outer s H vs Q E hr h => ?_), B⟩, F.kp⟩
  · obtain ⟨v, c, H0, rfl, _⟩ := h
    rfl
  · obtain ⟨v, c, H0, rfl, hv, h1, k⟩ := h
    refine ⟨_, pss_cons (ps_if (pt_val (pe_callB call_isi (by rfl) T.b_isinstance (by decide +kernel) (pa_cons (pv 0) (pa_cons (pe_glob (v := .ref d.cQuarterly) rfl T.kQuarterly.gl rfl) pa_nil))))
        (pss_one (ps_ret pe_str))
        pss_nil)
      (pss_cons (ps_if (pt_val (pe_callB call_isi (by rfl) T.b_isinstance (by decide +kernel) (pa_cons (pv 0) (pa_cons (pe_glob (v := .ref d.cImpaled) rfl T.kImpaled.gl rfl) pa_nil))))
        (pss_one (ps_ret pe_str))
        pss_nil)
      (pss_one (ps_ret pe_str))), ?_⟩
    cases c with
    | one m => cases h1
    | quarters l =>
      obtain ⟨q, us, ⟨b, dxb, rfl, _, hb⟩, _⟩ := hv
      refine ⟨_, rfl, _, _, _, _, _, rfl, ClsV.own _, .base (.ins hb T.kQuarterly.cl T.kQuarterly.cla T.gs T.tk T.kQuarterly.mro), T.iQuarterly_Quarterly, _, rfl, ?_⟩
      refine iteT ?_
      rw [txt_q]
      exact k
    | impaled x y =>
      obtain ⟨ux, uy, ⟨b, dxb, rfl, _, hb⟩, _⟩ := hv
      refine ⟨_, rfl, _, _, _, _, _, rfl, ClsV.own _, .base (.ins hb T.kImpaled.cl T.kImpaled.cla T.gs T.tk T.kImpaled.mro), T.iImpaled_Quarterly, _, rfl, ?_⟩
      refine iteF ?_
      refine ⟨_, rfl, _, _, _, _, _, rfl, ClsV.own _, .base (.ins hb T.kImpaled.cl T.kImpaled.cla T.gs T.tk T.kImpaled.mro), T.iImpaled_Impaled, _, rfl, ?_⟩
      refine iteT ?_
      rw [txt_i]
      exact k
    | pretence x y =>
      obtain ⟨ux, uy, ⟨b, dxb, rfl, _, hb⟩, _⟩ := hv
      refine ⟨_, rfl, _, _, _, _, _, rfl, ClsV.own _, .base (.ins hb T.kPretence.cl T.kPretence.cla T.gs T.tk T.kPretence.mro), T.iPretence_Quarterly, _, rfl, ?_⟩
      refine iteF ?_
      refine ⟨_, rfl, _, _, _, _, _, rfl, ClsV.own _, .base (.ins hb T.kPretence.cl T.kPretence.cla T.gs T.tk T.kPretence.mro), T.iPretence_Impaled, _, rfl, ?_⟩
      refine iteF ?_
      rw [txt_p]
      exact k
end
end HC


namespace HC
open PySem PySem.Spec PyProof.Rows L2 ShBlazon
theorem vinn {c : ShMarsh.Coat} (h : VCoat c) : (inn c).length ≤ 9 ∧ ∀ x ∈ inn c, VCoat x := by
  cases c with
  | one m => exact ⟨Nat.zero_le _, fun x hx => nomatch hx⟩
  | quarters l =>
    obtain ⟨h1, h2, h3⟩ : 2 ≤ l.length ∧ l.length ≤ 9 ∧ VCoats l := h
    exact ⟨h2, fun x hx => vcoats_mem h3 hx⟩
  | impaled a b =>
    obtain ⟨h1, h2⟩ : VCoat a ∧ VCoat b := h
    refine ⟨by show 2 ≤ 9; decide, fun x hx => ?_⟩
    rcases List.mem_cons.mp hx with e | e
    · rw [e]; exact h1
    · rcases List.mem_cons.mp e with e | e
      · rw [e]; exact h2
      · cases e
  | pretence a b =>
    obtain ⟨h1, h2⟩ : VCoat a ∧ VCoat b := h
    refine ⟨by show 2 ≤ 9; decide, fun x hx => ?_⟩
    rcases List.mem_cons.mp hx with e | e
    · rw [e]; exact h1
    · rcases List.mem_cons.mp e with e | e
      · rw [e]; exact h2
      · cases e
theorem all_glue : ∀ l : List ShMarsh.Coat, ShMarsh.allWords l = glue [59, 32] (l.map ShMarsh.Coat.words)
  | [] => rfl
  | [x] => by
    show x.words ++ [] = x.words
    rw [List.append_nil]
  | x :: y :: r => by
    show x.words ++ (ascii "; " ++ ShMarsh.allWords (y :: r)) = x.words ++ ([59, 32] ++ glue [59, 32] ((y :: r).map ShMarsh.Coat.words))
    rw [all_glue (y :: r)]
    rfl
theorem coat_words_is {c : ShMarsh.Coat} (h : isOne c = false) : c.words = kindW c ++ ([32, 91] ++ (glue [59, 32] ((inn c).map ShMarsh.Coat.words) ++ [93])) := by
  cases c with
  | one m => cases h
  | quarters l =>
    show ascii "quarterly [" ++ (ShMarsh.allWords l ++ ascii "]") = _
    rw [all_glue]
    rfl
  | impaled a b =>
    show ascii "impaled [" ++ (a.words ++ (ascii "; " ++ (b.words ++ ascii "]"))) = ascii "impaled" ++ ([32, 91] ++ ((a.words ++ ([59, 32] ++ b.words)) ++ [93]))
    rw [List.append_assoc, List.append_assoc]
    rfl
  | pretence a b =>
    show ascii "pretence [" ++ (a.words ++ (ascii "; " ++ (b.words ++ ascii "]"))) = ascii "pretence" ++ ([32, 91] ++ ((a.words ++ ([59, 32] ++ b.words)) ++ [93]))
    rw [List.append_assoc, List.append_assoc]
    rfl
theorem marked_len {m : ShMarsh.Marked} (h : VMarked m) : m.words.length ≤ 4600 := by
  obtain ⟨ar, cn, l⟩ := m
  obtain ⟨h1, h2, h3, h4⟩ := h
  dsimp only at h1 h2 h3 h4
  have e1 := print_len h1
  have l1 : (ascii "(").length = 1 := by decide +kernel
  have l2 : (ascii ")").length = 1 := by decide +kernel
  have e3 : (if l.isEmpty = true then [] else ascii " marked" ++ l.flatMap fun (x : Nat × Nat) => 32 :: ShMarsh.markWords x).length ≤ 487 := by
    by_cases c : l.isEmpty = true
    · rw [if_pos c]; exact Nat.zero_le _
    · rw [if_neg c, List.length_append]
      have l1 : (ascii " marked").length = 7 := by decide +kernel
      have l2 := flat_le (fun (x : Nat × Nat) => 32 :: ShMarsh.markWords x) 8 l fun x hx => by
        have := (markW_len (h4 x hx)).1
        show (ShMarsh.markWords x).length + 1 ≤ 8
        omega
      omega
  cases cn with
  | none =>
    show (ascii "(" ++ (print ar ++ (ascii ")" ++ ([] ++ (if l.isEmpty = true then [] else ascii " marked" ++ l.flatMap fun (x : Nat × Nat) => 32 :: ShMarsh.markWords x))))).length ≤ 4600
    rw [List.length_append, List.length_append, List.length_append, List.nil_append]
    omega
  | some a =>
    have e2 := print_len (show VArms a from h2)
    have l3 : (ascii " augmented (").length = 12 := by decide +kernel
    show (ascii "(" ++ (print ar ++ (ascii ")" ++ ((ascii " augmented (" ++ (print a ++ ascii ")")) ++ (if l.isEmpty = true then [] else ascii " marked" ++ l.flatMap fun (x : Nat × Nat) => 32 :: ShMarsh.markWords x))))).length ≤ 4600
    rw [List.length_append, List.length_append, List.length_append, List.length_append, List.length_append, List.length_append]
    omega
def wl : Nat → Nat
  | 0 => 4600
  | n + 1 => 9 * (wl n + 2) + 13
theorem wl_ge : ∀ n, 4600 ≤ wl n
  | 0 => Nat.le_refl _
  | n + 1 => by
    have := wl_ge n
    show 4600 ≤ 9 * (wl n + 2) + 13
    omega
theorem kind_len (c : ShMarsh.Coat) : (kindW c).length ≤ 9 := by
  cases c with
  | one m => exact Nat.zero_le _
  | quarters l => show (ascii "quarterly").length ≤ 9; decide +kernel
  | impaled a b => show (ascii "impaled").length ≤ 9; decide +kernel
  | pretence a b => show (ascii "pretence").length ≤ 9; decide +kernel
theorem words_len : ∀ (n : Nat) (c : ShMarsh.Coat), VCoat c → c.deep ≤ n + 1 → c.words.length ≤ wl n := by
  intro n
  induction n with
  | zero =>
    intro c h hd
    cases ho : isOne c with
    | true =>
      cases c with
      | one m => exact marked_len h
      | quarters l => cases ho
      | impaled a b => cases ho
      | pretence a b => cases ho
    | false =>
      exfalso
      have hn : inn c ≠ [] := by
        cases c with
        | one m => cases ho
        | quarters l =>
          obtain ⟨h1, _⟩ : 2 ≤ l.length ∧ l.length ≤ 9 ∧ VCoats l := h
          intro z
          have z' : l = [] := z
          rw [z'] at h1
          exact absurd h1 (by decide)
        | impaled a b => intro z; cases z
        | pretence a b => intro z; cases z
      cases hi : inn c with
      | nil => exact hn hi
      | cons x r =>
        have h1 := inn_deep (c := c) (x := x) (by rw [hi]; exact List.mem_cons_self)
        have h2 := deep_inn x
        omega
  | succ n ih =>
    intro c h hd
    cases ho : isOne c with
    | true =>
      cases c with
      | one m => exact Nat.le_trans (marked_len h) (wl_ge _)
      | quarters l => cases ho
      | impaled a b => cases ho
      | pretence a b => cases ho
    | false =>
      obtain ⟨v1, v2⟩ := vinn h
      rw [coat_words_is ho]
      have h1 := glue_len [59, 32] ((inn c).map ShMarsh.Coat.words)
      have h2 := sum_le ((inn c).map ShMarsh.Coat.words) (wl n) fun w hw => by
        obtain ⟨x, hx, rfl⟩ := List.mem_map.mp hw
        have := inn_deep hx
        exact ih x (v2 x hx) (by omega)
      have h3 := kind_len c
      rw [List.length_map] at h1 h2
      have h4 : (inn c).length * wl n ≤ 9 * wl n := Nat.mul_le_mul_right _ v1
      have h5 : (inn c).length * ([59, 32] : List UInt8).length ≤ 18 := Nat.mul_le_mul_right 2 v1
      rw [List.length_append, List.length_append, List.length_append]
      show _ + (2 + (_ + 1)) ≤ 9 * (wl n + 2) + 13
      omega
section
variable {P : Program} {w : World} {K : PySem.W.Frag} {mg : Str → Option Value} {base : Heap} {d : Ad}
theorem txt_ob : (" [" : Str) = strOf [32, 91] := by decide +kernel
theorem txt_cb : ("]" : Str) = strOf [93] := by decide +kernel
theorem txt_nil : Str.empty = strOf [] := by decide +kernel
/-! ### coat_words -/
def spCW (d : Ad) (n : Nat) : Sp := fun vs H Q _ => ∃ (v : V) (c : ShMarsh.Coat) (H0 : Hp), vs = [v] ∧ RC d H0 H v c ∧ VCoat c ∧ c.deep ≤ n ∧ c.deep ≤ 4 ∧ ∀ H', Same H H' → Q (vS c.words) H'
theorem sc_coat_words : FnScope ["coat", "head", "inner", "within"] ["coat"] (defScope s_coat_words) := ⟨rfl, rfl, rfl, by decide +kernel, rfl, by decide +kernel, by decide +kernel⟩
theorem ok_coat_words (T : Txt K mg d) : ∀ n : Nat, OkD P w K mg base CX0 (7 + n) d.f_coat_words ["coat"] (spCW d n)
  | 0 => by
    obtain ⟨fd, F, B⟩ := T.k_coat_words.ex
    refine ⟨⟨fd, ?_, B⟩, F.kp⟩
    refine F.ok (k := 6) sc_coat_words (fun vs H Q E h => ?_) (fun cdv A outer s H vs Q E hr h => ?_)
    · obtain ⟨v, c, H0, rfl, _⟩ := h
      rfl
    · obtain ⟨v, c, H0, rfl, _, _, hn, _⟩ := h
      rw [deep_inn c] at hn
      omega
  | n + 1 => by
    obtain ⟨⟨fd_coat_words, G_coat_words, B_coat_words⟩, kp_coat_words⟩ := ok_coat_words T n
    obtain ⟨⟨fd_coats_in, G_coats_in, B_coats_in⟩, kp_coats_in⟩ := ok_coats_in (P := P) (w := w) (base := base) T
    obtain ⟨⟨fd_kind_word, G_kind_word, B_kind_word⟩, kp_kind_word⟩ := ok_kind_word (P := P) (w := w) (base := base) T
    obtain ⟨⟨fd_marked_words, G_marked_words, B_marked_words⟩, kp_marked_words⟩ := ok_marked_words (P := P) (w := w) (base := base) T
    obtain ⟨fd, F, B⟩ := T.k_coat_words.ex
    refine ⟨⟨fd, ?_, B⟩, F.kp⟩
    refine F.ok (k := 7 + n) sc_coat_words (fun vs H Q E h => ?_) (fun cdv A outer s H vs Q E hr h => ?_)
    · obtain ⟨v, c, H0, rfl, _⟩ := h
      rfl
    · obtain ⟨v, c, H0, rfl, hv, hw, hn, h4, k⟩ := h
      have hr_coat_words : Room (7 + n) _ := hr
      have hr_coats_in : Room 2 _ := hr.mono (by omega)
      have hr_kind_word : Room 1 _ := hr.mono (by omega)
      have hr_marked_words : Room 6 _ := hr.mono (by omega)
      refine ⟨_, C8.pss_cut (ps_if (pt_val (pe_callB call_isi (by rfl) T.b_isinstance (by decide +kernel) (pa_cons (pv 0) (pa_cons (pe_glob (v := .ref d.cMarked) rfl T.kMarked.gl rfl) pa_nil))))
        (pss_one (ps_ret (pe_call G_marked_words hr_marked_words rfl T.k_marked_words.gl kp_marked_words B_marked_words .nil pass0 (pa_cons (pv 0) pa_nil))))
        pss_nil)
      (pss_cons (ps_set (i := 1) sc_coat_words.nd rfl (Or.inl rfl) (pe_call G_kind_word hr_kind_word rfl T.k_kind_word.gl kp_kind_word B_kind_word .nil pass0 (pa_cons (pv 0) pa_nil)))
      (pss_cons (ps_set (i := 2) sc_coat_words.nd rfl (Or.inl rfl) (pe_join pe_str (pe_lc (own := [("within", 3)]) (g := gName 3) (tt := tYes) rfl sc_coat_words.nd (pi_list (pe_call G_coats_in hr_coats_in rfl T.k_coats_in.gl kp_coats_in B_coats_in .nil pass0 (pa_cons (pv 0) pa_nil))) (blkOk_by (N := ["coat", "head", "inner", "within"]) (sc := defScope s_coat_words) (by decide +kernel)) (fun _ _ _ _ _ => pg_name (i := 3) sc_coat_words.nd rfl (Or.inl rfl)) (fun _ _ _ _ _ => pts_nil) (fun _ _ _ _ _ => (pe_call G_coat_words hr_coat_words rfl T.k_coat_words.gl kp_coat_words B_coat_words .nil pass0 (pa_cons (pv 3) pa_nil))))))
      (pss_one (ps_ret (pe_joined (PJ.cons (pe_fmt (pv 1)) (PJ.cons pe_str (PJ.cons (pe_fmt (pv 2)) (PJ.cons pe_str PJ.nil))))))))), ?_⟩
      refine ⟨fun σ' H' => σ' = [some v, none, none, none] ∧ H' = H ∧ isOne c = false, ?_, ?_⟩
      · cases c with
        | one m =>
          obtain ⟨a1, a2, a3, ⟨b, dxb, rfl, nb, hb⟩, ht⟩ := _root_.id hv
          refine ⟨_, rfl, _, _, _, _, _, rfl, ClsV.own _, .base (.ins hb T.kMarked.cl T.kMarked.cla T.gs T.tk T.kMarked.mro), T.iMarked_Marked, _, rfl, ?_⟩
          refine iteT ?_
          exact ⟨_, rfl, _, m, H0, rfl, hv, hw, k⟩
        | quarters l =>
          obtain ⟨q, us, ⟨b, dxb, rfl, _, hb⟩, _⟩ := hv
          refine ⟨_, rfl, _, _, _, _, _, rfl, ClsV.own _, .base (.ins hb T.kQuarterly.cl T.kQuarterly.cla T.gs T.tk T.kQuarterly.mro), T.iQuarterly_Marked, _, rfl, ?_⟩
          exact iteF ⟨rfl, rfl, rfl⟩
        | impaled x y =>
          obtain ⟨ux, uy, ⟨b, dxb, rfl, _, hb⟩, _⟩ := hv
          refine ⟨_, rfl, _, _, _, _, _, rfl, ClsV.own _, .base (.ins hb T.kImpaled.cl T.kImpaled.cla T.gs T.tk T.kImpaled.mro), T.iImpaled_Marked, _, rfl, ?_⟩
          exact iteF ⟨rfl, rfl, rfl⟩
        | pretence x y =>
          obtain ⟨ux, uy, ⟨b, dxb, rfl, _, hb⟩, _⟩ := hv
          refine ⟨_, rfl, _, _, _, _, _, rfl, ClsV.own _, .base (.ins hb T.kPretence.cl T.kPretence.cla T.gs T.tk T.kPretence.mro), T.iPretence_Marked, _, rfl, ?_⟩
          exact iteF ⟨rfl, rfl, rfl⟩
      · rintro σ' H' ⟨rfl, rfl, ho⟩
        obtain ⟨v1, v2⟩ := vinn hw
        have short : ∀ x ∈ (inn c).map ShMarsh.Coat.words, x.length ≤ 400000 := fun x hx => by
          obtain ⟨y, hy, rfl⟩ := List.mem_map.mp hx
          have h1 := inn_deep hy
          have h2 := words_len 2 y (v2 y hy) (by omega)
          exact Nat.le_trans h2 (by decide)
        refine ⟨_, rfl, v, c, H0, rfl, hv, ho, ?_⟩
        refine ⟨⟨_, rfl⟩, _, rfl, v, c, H0, rfl, hv, fun H2 p us s2 np hp hall => ⟨p, rfl, ⟨us, SqL.of hp⟩, fun D hD => ?_⟩⟩
        have hlen := hall.length
        refine lc_list (xs := us) (fun i H' => Cm H2 D (((inn c).take i).map fun x => vS x.words) H') (Cm.start hD) (fun i H' _ cm => SqL.of (cm.sm _ _ hp)) (fun i x H' hx cm => ?_) (fun H' cm => ?_)
        · obtain ⟨y, hy, ry⟩ := hall.at_ hx
          have mem : y ∈ inn c := List.mem_of_getElem? hy
          have hd' := inn_deep mem
          refine ⟨rfl, ?_⟩
          unfold tYes
          dsimp only
          rw [if_pos rfl]
          refine ⟨_, rfl, x, y, H0, rfl, RC.mv ry (Mv.here (s2.trans cm.sm)), v2 y mem, by omega, by omega, fun H4 s4 => ?_⟩
          obtain ⟨t1, t2⟩ := cm.turn hD s4 (vS y.words)
          rw [List.take_add_one, hy, Option.toList_some, List.map_append]
          refine ⟨_, t1, ?_, t2⟩
          rw [List.length_map, List.length_take]
          exact Nat.lt_of_le_of_lt (Nat.le_trans (Nat.min_le_right _ _) v1) (by decide)
        · rw [hlen, List.take_length] at cm
          have e : (((inn c).map ShMarsh.Coat.words).map strOf).map V.str = (inn c).map fun x => vS x.words := by
            rw [List.map_map, List.map_map]
            rfl
          have hs := sum_le ((inn c).map ShMarsh.Coat.words) 400000 short
          rw [List.length_map] at hs
          refine ⟨_, D, ((inn c).map ShMarsh.Coat.words).map strOf, rfl, rfl, .inl (by rw [e]; exact SqL.of cm.ac), ?_, ?_⟩
          · have h2 : ("; " : Str).length = 2 := by decide +kernel
            rw [lens_of, List.length_map, List.length_map, h2]
            omega
          rw [txt_glue (sep := [59, 32]) (by decide +kernel)]
          have hg := glue_len [59, 32] ((inn c).map ShMarsh.Coat.words)
          rw [List.length_map] at hg
          have h5 : (inn c).length * ([59, 32] : List UInt8).length ≤ 18 := Nat.mul_le_mul_right 2 v1
          have hk := kind_len c
          refine ⟨_, rfl, .inl ⟨_, rfl, strOf_fit (by omega), _, rfl, ?_, ?_⟩⟩
          · rw [txt_nil, strOf_app]
            exact strOf_fit (by rw [List.nil_append]; omega)
          refine ⟨_, rfl, ?_, ?_⟩
          · rw [txt_nil, txt_ob, strOf_app, strOf_app]
            exact strOf_fit (by rw [List.nil_append, List.length_append]; show _ + 2 ≤ _; omega)
          refine ⟨_, rfl, .inl ⟨_, rfl, strOf_fit (by omega), _, rfl, ?_, ?_⟩⟩
          · rw [txt_nil, txt_ob, strOf_app, strOf_app, strOf_app]
            exact strOf_fit (by rw [List.nil_append, List.length_append, List.length_append]; show _ + 2 + _ ≤ _; omega)
          have ew : ((((Str.empty ++ strOf (kindW c)) ++ (" [" : Str)) ++ strOf (glue [59, 32] ((inn c).map ShMarsh.Coat.words))) ++ ("]" : Str)) = strOf c.words := by
            rw [txt_nil, txt_ob, txt_cb, strOf_app, strOf_app, strOf_app, strOf_app, coat_words_is ho, List.nil_append, List.append_assoc, List.append_assoc]
          refine ⟨_, rfl, ?_, ?_⟩
          · rw [ew, coat_words_is ho]
            exact strOf_fit (by rw [List.length_append, List.length_append, List.length_append]; show _ + (2 + (_ + 1)) ≤ _; omega)
          · show Q (V.str ((((Str.empty ++ strOf (kindW c)) ++ (" [" : Str)) ++ strOf (glue [59, 32] ((inn c).map ShMarsh.Coat.words))) ++ ("]" : Str))) _
            rw [ew]
            exact k _ (s2.trans cm.sm)
end
end HC


namespace HC
open PySem PySem.Spec PyProof.Rows L2
section
variable {P : Program} {w : World} {K : PySem.W.Frag} {mg : Str → Option Value} {base : Heap} {d : Ad}
/-! ### counted -/
def spCounted : Sp := fun vs H Q _ => ∃ (p : Addr) (xs : List V), vs = [.ref p] ∧ H p = some (.lst xs) ∧ xs.length ≤ 16000000 ∧ ∀ (H' : Hp) (q : Addr), H' q = some (.lst (V.int (xs.length : Int) :: xs)) → Q (.ref q) H'
theorem sc_counted : FnScope ["numbers"] ["numbers"] (defScope s_counted) := ⟨rfl, rfl, rfl, by decide +kernel, rfl, by decide +kernel, by decide +kernel⟩
theorem ok_counted (T : Txt K mg d) : OkD P w K mg base CX0 1 d.f_counted ["numbers"] (spCounted) := by
  obtain ⟨fd, F, B⟩ := T.k_counted.ex
  refine ⟨⟨fd, F.ok sc_counted (fun vs H Q E h => ?_) (fun cdv A outer s H vs Q E hr h => ?_), B⟩, F.kp⟩
  · obtain ⟨p, xs, rfl, _⟩ := h
    rfl
  · obtain ⟨p, xs, rfl, hp, hl, k⟩ := h
    refine ⟨_, pss_one (ps_ret (pe_op op_cat (pe_lst (pa_cons (pe_callB call_len_seq (by rfl) T.b_len PySem.boot_len (pa_cons (pv 0) pa_nil)) pa_nil)) (pv 0))), ?_⟩
    refine ⟨_, rfl, p, xs, rfl, .inl (SqL.of hp), (by show 1 ≤ sizeLine; decide), fun q nq => ?_⟩
    refine ⟨_, rfl, q, p, _, _, rfl, rfl, upd_same, (by rw [upd_ne (ne_of_none hp nq)]; exact hp), ?_, fun r nr => k _ r upd_same⟩
    show 1 + xs.length ≤ sizeLine
    have : (16777216 : Nat) = sizeLine := rfl
    omega
end
end HC

namespace HC
open PySem PySem.Spec PyProof.Rows L2 LamX NdefX
theorem words_is {ns : List Int} (h : Byt ns) : PyWqaqbh.words ns = match ShMarsh.readCoat (bytesOf ns) with
    | .error e => [-1, (e : Int)]
    | .ok c => ((c.words.length : Nat) : Int) :: c.words.map fun (b : UInt8) => (b.toNat : Int) := by
  have hc : CoatNeutral.callOf [[5], ns] = some (.words (bytesOf ns)) := by
    show (CoatNeutral.text? ns).map ShCoats.Call.words = _
    rw [text_some h]
    rfl
  show CoatNeutral.f [[5], ns] = _
  rw [f_of hc]
  unfold ShCoats.answer ShCoats.ofCoat
  dsimp only
  cases ShMarsh.readCoat (bytesOf ns) with
  | error e => rfl
  | ok c => rfl
section
variable {P : Program} {w : World} {K : PySem.W.Frag} {mg : Str → Option Value} {base : Heap} {d : Ad}
/-! ### words -/
abbrev spTop := spOne PyWqaqbh.words
abbrev mainTabs (d : Ad) : List (Addr × Addr) := [(d.c_words, d.t_words)]
/-- the lambda's promise -/
def spTold (d : Ad) : Sp := fun vs H Q _ => ∃ (v : V) (c : ShMarsh.Coat) (H0 : Hp), vs = [v] ∧ RC d H0 H v c ∧ VCoat c ∧ c.deep ≤ 4 ∧ ∀ (H' : Hp) (p : Addr), H' p = some (.lst (V.int ((c.words.length : Nat) : Int) :: c.words.map fun (b : UInt8) => V.int (b.toNat : Int))) → Q (.ref p) H'
theorem sc_words : FnScope ["c"] ["c"] (defScope s_words) := ⟨rfl, rfl, rfl, by decide +kernel, rfl, by decide +kernel, by decide +kernel⟩
theorem nd2 : (["coat", "sign"] : List Str).Nodup := by decide +kernel
theorem ok_top (T : Txt K mg d) (TB : ∀ p ∈ mainTabs d, TabB base mg p.1 p.2) {fd : FuncData} (F : Fun K "words" "words" s_words d.f_words fd) : FnOk P w K mg base CX0 42 d.f_words fd ["c"] (spTop K (mainTabs d)) := by
  obtain ⟨fd_a, G_a, B_a, kp_a⟩ := ok_answered (P := P) (w := w) (base := base) T
  obtain ⟨⟨fd_p, G_p, B_p⟩, kp_p⟩ := ok_coat_words (P := P) (w := w) (base := base) T 4
  obtain ⟨⟨fd_d, G_d, B_d⟩, kp_d⟩ := ok_counted (P := P) (w := w) (base := base) T
  have TB1 := TB _ List.mem_cons_self
  refine mak_ok F T.m_words sc_words (fun vs H Q E h => ?_) (fun A outer s H vs Q E hr h => ?_)
  · obtain ⟨a, ns, rfl, _⟩ := h
    rfl
  · obtain ⟨a, ns, rfl, hT, hS, hb, k⟩ := h
    have hT1 := hT _ List.mem_cons_self
    have hr_a : Room 40 _ := hr.mono (by decide)
    refine ⟨_, pss_one (ps_ret (pe_givL G_a hr_a rfl T.k_answered.gl kp_a B_a (pa_cons (pv 0) (pa_cons (pe_lam TB1 rfl rfl (ndef_free (sc := defScope s_words) (fr := []) (by decide +kernel))) pa_nil)))), ?_⟩
    rw [← vals_of hb] at hS
    rw [words_is hb] at k
    refine ⟨_, rfl, TabN.nil hT1, fun f c' H1 ext nf h1 h2 => ?_⟩
    refine lam_given (sp := spTold d) h1 (LOk.mono (k := 13) (lok_of (N := ["coat", "sign"]) (ps := ["coat"]) (nscope_by (by kernel_rfl)) rfl (fun _ _ _ us hl => match us, hl with | [_], _ => rfl) ?_ ?_) (by decide)) ⟨a, bytesOf ns, rfl, extN_seq ext.1 hS, .inr ⟨_, _, h1⟩, ?_⟩
    · rintro vs H Q E ⟨v, c, H0, rfl, _⟩
      rfl
    · rintro A outer s H vs Q hr ⟨v, c, H0, rfl, hv, hw, h4, q⟩
      have hr_p : Room 11 _ := hr.mono (by decide)
      have hr_d : Room 1 _ := hr.mono (by decide)
      refine ⟨_, pe_call G_d hr_d rfl T.k_counted.gl kp_d B_d .nil pass0 (pa_cons (pe_lc (own := [("sign", 1)]) (g := gName 1) (tt := tYes) rfl nd2 (pi_str (pe_call G_p hr_p rfl T.k_coat_words.gl kp_p B_p .nil pass0 (pa_cons (pv 0) pa_nil))) (blkOk_by (by kernel_rfl)) (fun _ _ _ _ _ => pg_name (i := 1) nd2 rfl (Or.inl rfl)) (fun _ _ _ _ _ => pts_nil) (fun _ _ _ _ _ => (pe_callB call_ord (by rfl) T.b_ord (by decide +kernel) (pa_cons (pv 1) pa_nil)))) pa_nil), ?_⟩
      have hl := words_len 3 c hw (by omega)
      have hl2 : c.words.length ≤ 16000000 := Nat.le_trans hl (by decide)
      refine ⟨_, rfl, v, c, H0, rfl, hv, hw, h4, h4, fun H2 s2 => ⟨_, rfl, fun D hD => ?_⟩⟩
      refine lc_it (walk_str (z := strOf c.words)) (fun i H' => Cm H2 D ((c.words.take i).map fun (b : UInt8) => V.int (b.toNat : Int)) H') (Cm.start hD) (fun _ _ _ _ => trivial) (fun i x H' H3 hi cm y => ?_) (fun H' cm => ?_)
      · obtain ⟨rfl, cp, hcp, rfl⟩ := y
        have hcp' : (c.words.map UInt8.toNat)[i]? = some cp := by
          rw [← List.getElem?_toArray]
          exact hcp
        rw [List.getElem?_map] at hcp'
        cases e : c.words[i]? with
        | none => rw [e] at hcp'; cases hcp'
        | some b =>
          rw [e] at hcp'
          cases hcp'
          refine ⟨rfl, ?_⟩
          unfold tYes
          dsimp only
          rw [if_pos rfl]
          obtain ⟨t1, t2⟩ := cm.turn hD (Same.refl _) (V.int (b.toNat : Int))
          rw [List.take_add_one, e, Option.toList_some, List.map_append]
          refine ⟨_, rfl, _, rfl, rfl, _, t1, ?_, t2⟩
          rw [List.length_map, List.length_take]
          have h5 : (16777216 : Nat) = sizeLine := rfl
          omega
      · have ez : (strOf c.words).cps.size = c.words.length := strOf_len _
        rw [ez, List.take_length] at cm
        refine ⟨D, _, rfl, cm.ac, by rw [List.length_map]; exact hl2, fun H' p hp => q H' p ?_⟩
        rw [List.length_map] at hp
        exact hp
    · cases e : ShMarsh.readCoat (bytesOf ns) with
      | error e' =>
        rw [e] at k
        exact fun H' q hq => k H' q hq
      | ok c =>
        rw [e] at k
        refine fun v H' s1 t1 => ⟨s1 _ _ h1, s1 _ _ h2, v, c, H1, rfl, t1, vread_ok e, read_deep e, fun H' p hp => k H' p ?_⟩
        rw [hp]
        dsimp only
        rw [List.map_cons, List.map_map]
        rfl
end
end HC


namespace HC
open PySem PySem.Spec PyProof.Rows L2
/-! ### the head by facts: a Hook of one's own over He's words (nothing of the heap is written out) -/
def excB (K : PySem.W.Frag) (C : Addr) : Bool := match K.lookup C with
  | some ⟨.type t, _, .cls cd, sl⟩ => decide (t = "type") && (decide (cd.mro = .ref C :: PySem.ESX.exTail) && (cd.hasDict && (!cd.hasDel && (match sl.toList with
    | [_, _, _, _, some (.builtin n), _] => decide (n = "Exception.__new__")
    | _ => false))))
  | _ => false
theorem excB_ok {K : PySem.W.Frag} {C : Addr} (hq : excB K C = true) : ∃ nm q N bs sn sub ab col dd k0 k1 k2 k3 k5, K.lookup C = some (excClassObj nm q C N bs PySem.ESX.exTail true sn sub ab col dd k0 k1 k2 k3 k5 "Exception.__new__") := by
  unfold excB at hq
  split at hq
  · rename_i t dd cd sl ho
    simp only [Bool.and_eq_true, decide_eq_true_eq, Bool.not_eq_true'] at hq
    obtain ⟨e1, e2, e3, e4, e5⟩ := hq
    split at e5
    · rename_i k0 k1 k2 k3 n k5 hs
      have e6 : n = "Exception.__new__" := of_decide_eq_true e5
      obtain ⟨nm, bs, mro, ns, qn, hd, sn, sub, ab, col, del⟩ := cd
      dsimp only at e2 e3 e4
      subst e1 e2 e3 e4 e6
      have hsl : sl = #[k0, k1, k2, k3, some (.builtin "Exception.__new__"), k5] := by
        obtain ⟨l⟩ := sl
        simp only at hs
        rw [hs]
      subst hsl
      exact ⟨nm, qn, ns, bs, sn, sub, ab, col, dd, k0, k1, k2, k3, k5, ho⟩
    · cases e5
  · cases hq
/-- the tuple at a is of these -/
def tupAtB (K : PySem.W.Frag) (a : Addr) (vs : List V) : Bool := match K.lookup a with
  | some ⟨.type c, _, .seq its _, _⟩ => decide (c = "tuple") && (decide (its.size ≤ sizeLine) && He.relAll vs its.toList)
  | _ => false
theorem tupAtB_ok {K : PySem.W.Frag} {a : Addr} {vs : List V} (hq : tupAtB K a vs = true) : TupK K a vs := by
  unfold tupAtB at hq
  split at hq
  · rename_i c dd its n sl ho
    simp only [Bool.and_eq_true, decide_eq_true_eq] at hq
    obtain ⟨e1, e2, e3⟩ := hq
    subst e1
    exact tup_mk ho e2 (He.relAll_ok e3)
  · cases hq
/-- the i-th item of the tuple that the module's name x stands for -/
def itemOf (K : PySem.W.Frag) (x : Str) (i : Nat) : Addr := match K.lookup (He.ga K x) with
  | some ⟨_, _, .seq its _, _⟩ => (match its.toList[i]? with
    | some (.ref b) => b
    | _ => 0)
  | _ => 0
abbrev AlH : Type := Bool × List He.FnV
def obsH (fa : List He.Fa) (ex : PySem.W.Frag → List Bool) (fn : List He.FnD) (K : PySem.W.Frag) : AlH := ((fa.all fun f => f.ok K) && ((ex K).all id && fn.all fun d => (He.Fa.code d.at_ d.qual).ok K), fn.map fun d => He.fnObs K d.at_)
def valH (fn : List He.FnD) : AlH := (true, fn.map He.FnD.val)
/-- no table of code objects -/
def noTab : Obj → Bool
  | ⟨.none, _, .fields _, _⟩ => false
  | _ => true
/-- the objects from a on, so many, without the tables -/
def frR (g : Addr → Option Obj) : Nat → Nat → PySem.W.Frag
  | _, 0 => []
  | a, m + 1 => match g a with
    | some o => (match noTab o with
      | true => (a, o) :: frR g (a + 1) m
      | false => frR g (a + 1) m)
    | none => frR g (a + 1) m
def frA (g : Addr → Option Obj) (a m : Nat) : PySem.W.Frag := match g mainGlobals with
  | some o => (match noTab o with
    | true => (mainGlobals, o) :: frR g a m
    | false => frR g a m)
  | none => frR g a m
theorem frR_at {g : Addr → Option Obj} {b : Addr} {o : Obj} : ∀ (m a : Nat), (frR g a m).lookup b = some o → g b = some o ∧ noTab o = true
  | 0, _, e => nomatch (show (none : Option Obj) = some o from e)
  | m + 1, a, e => by
    unfold frR at e
    cases ga : g a with
    | none =>
      rw [ga] at e
      exact frR_at m _ e
    | some u =>
      rw [ga] at e
      cases hn : noTab u with
      | false =>
        simp only [hn] at e
        exact frR_at m _ e
      | true =>
        simp only [hn, List.lookup] at e
        cases q : (b == a) with
        | true =>
          rw [q] at e
          cases e
          rw [beq_iff_eq.mp q]
          exact ⟨ga, hn⟩
        | false =>
          rw [q] at e
          exact frR_at m _ e
theorem frA_at {g : Addr → Option Obj} {b : Addr} {o : Obj} {a m : Nat} (e : (frA g a m).lookup b = some o) : g b = some o ∧ noTab o = true := by
  unfold frA at e
  cases ga : g mainGlobals with
  | none =>
    rw [ga] at e
    exact frR_at m _ e
  | some u =>
    rw [ga] at e
    cases hn : noTab u with
    | false =>
      simp only [hn] at e
      exact frR_at m _ e
    | true =>
      simp only [hn, List.lookup] at e
      cases q : (b == mainGlobals) with
      | true =>
        rw [q] at e
        cases e
        rw [beq_iff_eq.mp q]
        exact ⟨ga, hn⟩
      | false =>
        rw [q] at e
        exact frR_at m _ e
/-- the code object of the def x, its table -/
def codeOf (K : PySem.W.Frag) (x : Str) : Addr := match K.lookup (He.ga K x) with
  | some ⟨_, _, .func fd, _⟩ => (match fd.code with
    | .ref c => c
    | _ => 0)
  | _ => 0
def tabOf (K : PySem.W.Frag) (x : Str) : Addr := match K.lookup (codeOf K x) with
  | some ⟨_, _, .fields vs, _⟩ => (match (vs[11]? : Option Value) with
    | some (.ref t) => t
    | _ => 0)
  | _ => 0
def isTab0 : Option Obj → Bool
  | some ⟨.none, none, .fields vs, sl⟩ => vs.isEmpty && sl.isEmpty
  | _ => false
theorem isTab0_ok {o : Option Obj} (h : isTab0 o = true) : o = some tab0 := by
  unfold isTab0 at h
  split at h
  · rename_i vs sl
    rw [Bool.and_eq_true, Array.isEmpty_iff, Array.isEmpty_iff] at h
    rw [h.1, h.2]
  · cases h
/-- a def that makes functions: its code object is known, its table is empty -/
def makB (K : PySem.W.Frag) (x : Str) : Bool := (match K.lookup (He.ga K x) with
  | some ⟨_, _, .func fd, _⟩ => (match fd.code with
    | .ref _ => true
    | _ => false)
  | _ => false) && PySem.W.codeHdIn K (codeOf K x) (tabOf K x)
def tabsB (g : Addr → Option Obj) (K : PySem.W.Frag) (tb : List Str) : Bool := tb.all fun x => isTab0 (g (tabOf K x))
/-- a part of the facts: one run of the top shows one part -/
structure Fx where
  fa : List He.Fa
  ex : PySem.W.Frag → List Bool
  fn : List He.FnD
  tb : List Str
def Fx.ob (x : Fx) (a m : Nat) (g : Addr → Option Obj) : Bool × AlH := (tabsB g (frA g a m) x.tb, obsH x.fa x.ex x.fn (frA g a m))
def Fx.val (x : Fx) : Bool × AlH := (true, valH x.fn)
/-- what is known of the heap: its part without the tables, and that these are empty -/
structure SaysT (ps : List Fx) (K : PySem.W.Frag) (h : Heap) : Prop where
  kin : K.In h
  ob : ∀ x ∈ ps, obsH x.fa x.ex x.fn K = valH x.fn
  tab : ∀ x ∈ ps, ∀ y ∈ x.tb, h.get? (tabOf K y) = some tab0 ∧ K.lookup (tabOf K y) = none
theorem ob_each {ps : List Fx} {a m : Nat} {g : Addr → Option Obj} (e : (ps.map fun x => x.ob a m g) = ps.map Fx.val) : ∀ x ∈ ps, x.ob a m g = x.val := by
  induction ps with
  | nil => intro x hx; cases hx
  | cons y r ih =>
    rw [List.map_cons, List.map_cons] at e
    injection e with e1 e2
    intro x hx
    rcases List.mem_cons.mp hx with z | z
    · rw [z]
      exact e1
    · exact ih e2 x z
def hookT (a m : Nat) (ps : List Fx) : PySem.W.Hook where
  α := List (Bool × AlH)
  obs := fun s => ps.map fun x => x.ob a m s.heap.get?
  val := fun _ => ps.map Fx.val
  says := fun _ h => ∃ K : PySem.W.Frag, SaysT ps K h
  of := fun _ s e => ⟨frA s.heap.get? a m, fun _ _ z => (frA_at z).1, fun x hx => congrArg (fun y => y.2) (ob_each e x hx), fun x hx y hy => by
    have e1 : tabsB s.heap.get? (frA s.heap.get? a m) x.tb = true := congrArg (fun y => y.1) (ob_each e x hx)
    have e2 := isTab0_ok (List.all_eq_true.mp e1 y hy)
    refine ⟨e2, ?_⟩
    cases q : (frA s.heap.get? a m).lookup (tabOf (frA s.heap.get? a m) y) with
    | none => rfl
    | some o =>
      obtain ⟨z1, z2⟩ := frA_at q
      rw [e2] at z1
      cases z1
      cases z2⟩
  keeps := fun _ _ _ ⟨K, c⟩ kp => ⟨K, PySem.W.Frag.In.keeps c.kin kp, c.ob, fun x hx y hy => ⟨kp _ _ (c.tab x hx y hy).1, (c.tab x hx y hy).2⟩⟩
def obT (a m : Nat) (ps : List Fx) (g : Addr → Option Obj) : List (Bool × AlH) := ps.map fun x => x.ob a m g
theorem obT_eq {a m : Nat} {ps : List Fx} {g : Addr → Option Obj} {s : Shared} (hh : ∀ b, g b = s.heap.get? b) : obT a m ps g = (hookT a m ps).obs s := by
  obtain rfl : g = s.heap.get? := funext hh
  rfl
/-- the runs, one for each part, put together -/
theorem runs_join {S A B : Type} {o : Option S} {f : S → A} {g : S → B} {u : A} {v : B} {ps : List Fx} {a m : Nat} {t : S → Addr → Option Obj} (h0 : o.map (fun s => (f s, g s)) = some (u, v)) (h : ∀ x ∈ ps, o.map (fun s => x.ob a m (t s)) = some x.val) :
    o.map (fun s => (f s, g s, obT a m ps (t s))) = some (u, v, ps.map Fx.val) := by
  cases o with
  | none => cases h0
  | some z =>
    have e0 : (f z, g z) = (u, v) := Option.some.inj h0
    have e1 : obT a m ps (t z) = ps.map Fx.val := List.map_congr_left fun x hx => Option.some.inj (h x hx)
    have e2 : f z = u := congrArg Prod.fst e0
    have e3 : g z = v := congrArg Prod.snd e0
    show some (f z, g z, obT a m ps (t z)) = _
    rw [e1, e2, e3]
section
variable {fa : List He.Fa} {ex : PySem.W.Frag → List Bool} {fn : List He.FnD} {K : PySem.W.Frag} (c : obsH fa ex fn K = valH fn)
include c
theorem h_all : (fa.all fun f => f.ok K) = true ∧ (ex K).all id = true ∧ (fn.all fun d => (He.Fa.code d.at_ d.qual).ok K) = true := by
  have e : ((fa.all fun f => f.ok K) && ((ex K).all id && fn.all fun d => (He.Fa.code d.at_ d.qual).ok K)) = true := congrArg (fun z : AlH => z.1) c
  rw [Bool.and_eq_true, Bool.and_eq_true] at e
  exact e
theorem h_fact (i : Nat) {f : He.Fa} (hi : fa[i]? = some f) : f.ok K = true := List.all_eq_true.mp (h_all c).1 f (List.mem_of_getElem? hi)
theorem h_ex (i : Nat) {b : Bool} (hi : (ex K)[i]? = some b) : b = true := List.all_eq_true.mp (h_all c).2.1 b (List.mem_of_getElem? hi)
theorem h_def (i : Nat) {d : He.FnD} (hi : fn[i]? = some d) :
    ∃ oc od osl kV doc pm an cdv ct, K.lookup (He.fAd K d.at_) = some ⟨oc, od, .func (PySem.W.fnOf d.name d.qual d.params d.body d.scope .none kV doc pm an cdv ct), osl⟩ ∧ PySem.W.codeIn K cdv d.qual = true := by
  have e : fn.map (fun d => He.fnObs K d.at_) = fn.map He.FnD.val := congrArg (fun z : AlH => z.2) c
  have e2 : (fn.map fun d => He.fnObs K d.at_)[i]? = (fn.map He.FnD.val)[i]? := by rw [e]
  rw [List.getElem?_map, List.getElem?_map, hi] at e2
  exact He.fn_ok (Option.some.inj e2) (List.all_eq_true.mp (h_all c).2.2 d (List.mem_of_getElem? hi))
end
/-- what is known of a def's object -/
abbrev FnAtK (K : PySem.W.Frag) (f : Addr) (x qual : Str) (st : Stmt) : Prop :=
  ∃ oc od osl kV doc pm an cdv ct, K.lookup f = some ⟨oc, od, .func (PySem.W.fnOf x qual (defArgs st) (defBody st) (defScope st) .none kV doc pm an cdv ct), osl⟩ ∧ PySem.W.codeIn K cdv qual = true
abbrev BindK (x qual : Str) (st : Stmt) (ps : List Str) : Prop :=
  ∀ (kV doc pm : Value) (an : Option Addr) (cdv ct : Value) (us : List Value), us.length = ps.length → bindArgs (PySem.W.fnOf x qual (defArgs st) (defBody st) (defScope st) .none kV doc pm an cdv ct) ⟨us, []⟩ = pure (ps.zip us)
section
variable {K : PySem.W.Frag} {h : Heap} {mg : Str → Option Value}
theorem cls_h {x qual : Str} {ns : List Str} {st : Stmt} {ps : List Str} (X : K.In h) (G : h.Ns mainGlobals mg) (g : (He.Fa.glo x).ok K = true) (cl : (He.Fa.cls x).ok K = true) (mk : (He.Fa.mkr x).ok K = true) (me : (He.Fa.meth x "__init__").ok K = true)
    (no : NoAll K (He.ga K x) ns) (cla : He.eqO (PySem.W.findIn K (.ref (He.ga K x)) "__class__") (some (some (.builtin "object.__class__"))) = true) (mro : decide (PySem.W.mroIn K (He.ga K x) (.type "object") = some true) = true)
    (fn : FnAtK K (He.ma K (He.ga K x) "__init__") "__init__" qual st) (b : BindK "__init__" qual st ps) : ClsT K mg x qual (He.ga K x) (He.ma K (He.ga K x) "__init__") ns st ps := by
  obtain ⟨oc, od, osl, kV, doc, pm, an, cdv, ct, lk, cd⟩ := fn
  have kp := (He.meth_ok me).kp
  exact ⟨He.cls_ok cl, no, He.mkr_ok mk, He.glo_ok X G g, ⟨_, fun_mk (st := st) lk cd kp, (fun_mk (st := st) lk cd kp).binds b⟩, He.eqO_ok cla, of_decide_eq_true mro⟩
theorem met_h {x m qual : Str} {st : Stmt} {ps : List Str} (me : (He.Fa.meth x m).ok K = true) (fn : FnAtK K (He.ma K (He.ga K x) m) m qual st) (b : BindK m qual st ps) : MetT K (He.ga K x) m qual st (He.ma K (He.ga K x) m) ps := by
  obtain ⟨oc, od, osl, kV, doc, pm, an, cdv, ct, lk, cd⟩ := fn
  have kp := (He.meth_ok me).kp
  exact ⟨⟨_, fun_mk (st := st) lk cd kp, (fun_mk (st := st) lk cd kp).binds b⟩, He.meth_ok me⟩
theorem def_h {x : Str} {st : Stmt} {ps : List Str} (X : K.In h) (G : h.Ns mainGlobals mg) (g : (He.Fa.glo x).ok K = true) (kp : (He.Fa.keep x).ok K = true) (fn : FnAtK K (He.ga K x) x x st) (b : BindK x x st ps) : DefT K mg x st (He.ga K x) ps := by
  obtain ⟨oc, od, osl, kV, doc, pm, an, cdv, ct, lk, cd⟩ := fn
  exact ⟨⟨_, fun_mk (st := st) lk cd kp, (fun_mk (st := st) lk cd kp).binds b⟩, He.glo_ok X G g⟩
theorem low_h {p1 p2 q1 q2 q3 q4 : Pos} (X : K.In h) (G : h.Ns mainGlobals mg) (g : (He.Fa.glo "Misplaced").ok K = true) (kp : (He.Fa.keep "Misplaced").ok K = true) (ec : excB K (He.ga K "Misplaced") = true) (em : (He.Fa.exm "Misplaced" "Misplaced" true).ok K = true) (np : (He.Fa.noat "Misplaced" "place").ok K = true)
    (sa : He.eqO (PySem.W.findIn K (.ref (He.ga K "Misplaced")) "__setattr__") (some (some (.builtin "object.__setattr__"))) = true) (gt : He.eqO (PySem.W.findIn K (.ref (He.ga K "Misplaced")) "__getattribute__") (some (some (.builtin "BaseException.__getattribute__"))) = true)
    (gg : He.eqO (PySem.W.findIn K (.ref (He.ga K "Misplaced")) "__getattr__") (some none) = true) (me : (He.Fa.meth "Misplaced" "__init__").ok K = true) (sb : decide (PySem.W.subIn K (.ref (He.ga K "Misplaced")) (.type "BaseException") = some true) = true)
    (ty : decide (PySem.W.typeIn K (.ref (He.ga K "Misplaced")) = some (.type "type")) = true) (hd : PySem.W.hasDictIn K (He.ga K "Misplaced") = true)
    (fn : ∃ oc od osl kV doc pm an cdv ct, K.lookup (He.ma K (He.ga K "Misplaced") "__init__") = some ⟨oc, od, .func (PySem.W.fnOf "__init__" "Misplaced.__init__" (PySem.LowX.iA p1 p2) (PySem.LowX.iB q1 q2 q3 q4) PySem.LowX.iS .none kV doc pm an cdv ct), osl⟩ ∧ PySem.W.codeIn K cdv "Misplaced.__init__" = true)
    (kn : (match K.lookup (He.ma K (He.ga K "Misplaced") "__init__") with
      | some ⟨_, _, .func fd, _⟩ => decide (fd.kwdefaults = .none)
      | _ => false) = true) : PySem.LowX.LowTxt K mg (He.ga K "Misplaced") (He.ma K (He.ga K "Misplaced") "__init__") := by
  obtain ⟨oc, od, osl, kV, doc, pm, an, cdv, ct, lk, cd⟩ := fn
  have mm := He.meth_ok me
  rw [lk] at kn
  have ek : kV = .none := of_decide_eq_true kn
  subst ek
  exact ⟨He.glo_ok X G g, excB_ok ec, He.eqO_ok sa, He.eqO_ok gt, He.eqO_ok gg, He.noat_ok np, mm.at_, beq_iff_eq.mp mm.fn, He.keep_ok kp, of_decide_eq_true sb, of_decide_eq_true ty, hd, He.exm_ok em, oc, od, doc, pm, an, cdv, ct, osl, p1, p2, q1, q2, q3, q4, lk, cd⟩
end
theorem mak_h {K : PySem.W.Frag} {x : Str} {st : Stmt} (fn : FnAtK K (He.ga K x) x x st) (mb : makB K x = true) : MakT K x st (He.ga K x) (codeOf K x) (tabOf K x) := by
  obtain ⟨oc, od, osl, kV, doc, pm, an, cdv, ct, lk, cd⟩ := fn
  unfold makB at mb
  rw [Bool.and_eq_true] at mb
  obtain ⟨m1, m2⟩ := mb
  have hc : cdv = .ref (codeOf K x) := by
    rw [lk] at m1
    unfold codeOf
    rw [lk]
    dsimp only at m1 ⊢
    cases cdv with
    | ref c => rfl
    | _ => cases m1
  subst hc
  exact ⟨⟨oc, od, kV, doc, pm, an, ct, osl, lk, cd⟩, m2⟩
end HC
namespace HC
open PySem PySem.Spec PyProof.Rows L2
def hfa0_0 : List He.Fa := [.glo "Plain",
  .cls "Plain",
  .mkr "Plain",
  .meth "Plain" "__init__",
  .noat "Plain" "tincture",
  .glo "Parted",
  .cls "Parted",
  .mkr "Parted",
  .meth "Parted" "__init__",
  .noat "Parted" "way",
  .noat "Parted" "line",
  .noat "Parted" "first",
  .noat "Parted" "second",
  .glo "Varied",
  .cls "Varied",
  .mkr "Varied",
  .meth "Varied" "__init__",
  .noat "Varied" "way",
  .noat "Varied" "pieces",
  .noat "Varied" "line",
  .noat "Varied" "first",
  .noat "Varied" "second",
  .glo "Ordinary",
  .cls "Ordinary",
  .mkr "Ordinary",
  .meth "Ordinary" "__init__",
  .noat "Ordinary" "figure",
  .noat "Ordinary" "line",
  .noat "Ordinary" "fill",
  .glo "Group"]
def hfa0_1 : List He.Fa := [.cls "Group",
  .mkr "Group",
  .meth "Group" "__init__",
  .noat "Group" "charge",
  .noat "Group" "many",
  .noat "Group" "manner",
  .noat "Group" "size",
  .noat "Group" "fill",
  .glo "Arms",
  .cls "Arms",
  .mkr "Arms",
  .meth "Arms" "__init__",
  .noat "Arms" "field",
  .noat "Arms" "layers",
  .glo "Mark",
  .cls "Mark",
  .mkr "Mark",
  .meth "Mark" "__init__",
  .noat "Mark" "g",
  .noat "Mark" "k",
  .glo "Marked",
  .cls "Marked",
  .mkr "Marked",
  .meth "Marked" "__init__",
  .noat "Marked" "arms",
  .noat "Marked" "canton",
  .noat "Marked" "marks",
  .glo "Quarterly",
  .cls "Quarterly",
  .mkr "Quarterly"]
def hfa0_2 : List He.Fa := [.meth "Quarterly" "__init__",
  .noat "Quarterly" "coats",
  .glo "Impaled",
  .cls "Impaled",
  .mkr "Impaled",
  .meth "Impaled" "__init__",
  .noat "Impaled" "dexter",
  .noat "Impaled" "sinister",
  .glo "Pretence",
  .cls "Pretence",
  .mkr "Pretence",
  .meth "Pretence" "__init__",
  .noat "Pretence" "below",
  .noat "Pretence" "upon",
  .glo "Reader",
  .cls "Reader",
  .mkr "Reader",
  .meth "Reader" "__init__",
  .noat "Reader" "numbers",
  .noat "Reader" "place",
  .meth "Reader" "take",
  .meth "Reader" "take_tincture_beside",
  .meth "Reader" "at_end",
  .glo "Misplaced",
  .keep "Misplaced",
  .exm "Misplaced" "Misplaced" true,
  .noat "Misplaced" "place",
  .meth "Misplaced" "__init__",
  .glo "take_field",
  .keep "take_field"]
def hfa0_3 : List He.Fa := [.glo "take_parted",
  .keep "take_parted",
  .glo "take_varied",
  .keep "take_varied",
  .glo "take_fill",
  .keep "take_fill",
  .glo "take_layer",
  .keep "take_layer",
  .glo "take_arms",
  .keep "take_arms",
  .glo "take_marks",
  .keep "take_marks",
  .glo "take_marked",
  .keep "take_marked",
  .glo "take_coat",
  .keep "take_coat",
  .glo "take_quarterly",
  .keep "take_quarterly",
  .glo "decode",
  .keep "decode",
  .glo "coats_in",
  .keep "coats_in",
  .glo "article_before",
  .keep "article_before",
  .glo "several",
  .keep "several",
  .glo "joined",
  .keep "joined",
  .glo "field_words",
  .keep "field_words"]
def hfa0_4 : List He.Fa := [.glo "fill_words",
  .keep "fill_words",
  .glo "charges_words",
  .keep "charges_words",
  .glo "layer_words",
  .keep "layer_words",
  .glo "arms_words",
  .keep "arms_words",
  .glo "marked_words",
  .keep "marked_words",
  .glo "kind_word",
  .keep "kind_word",
  .glo "coat_words",
  .keep "coat_words",
  .glo "answered",
  .keep "answered",
  .glo "counted",
  .keep "counted",
  .glo "words",
  .keep "words",
  .int "FEWEST_PIECES" 2,
  .int "MOST_PIECES" 24,
  .int "FIRST_STRAIGHT_WAY" 5,
  .int "MOST_LAYERS" 8,
  .int "MOST_MARKS" 60,
  .int "MOST_G" 127,
  .int "LEAST_K" 1,
  .int "MOST_K" 255,
  .int "FEWEST_QUARTERS" 2,
  .int "MOST_QUARTERS" 9]
def hfa0_5 : List He.Fa := [.int "MOST_DEEP" 4,
  .int "LAST_TINCTURE" 8,
  .int "LAST_LINE" 5,
  .int "LAST_PARTED_WAY" 7,
  .int "LAST_VARIED_WAY" 6,
  .int "LAST_ORDINARY" 12,
  .int "LAST_CHARGE" 15,
  .int "LAST_MANNER" 6,
  .int "FIRST_SIZE" 1,
  .int "FIRST_COUNT" 2,
  .glo "TINCTURES",
  .glo "LINES",
  .glo "PARTED_WAYS",
  .glo "VARIED_WAYS",
  .glo "ORDINARIES",
  .glo "CHARGES",
  .glo "MANNERS",
  .glo "SIZES",
  .glo "COUNTS",
  .free "len",
  .free "range",
  .free "isinstance",
  .free "list",
  .free "ord",
  .free "str"]
def hfa0_ : List He.Fa := hfa0_0 ++ (hfa0_1 ++ (hfa0_2 ++ (hfa0_3 ++ (hfa0_4 ++ (hfa0_5)))))
def hex0_0 (K : PySem.W.Frag) : List Bool := [He.eqO (PySem.W.findIn K (.ref (He.ga K "Plain")) "__class__") (some (some (.builtin "object.__class__"))),
  decide (PySem.W.mroIn K (He.ga K "Plain") (.type "object") = some true),
  He.eqO (PySem.W.findIn K (.ref (He.ga K "Parted")) "__class__") (some (some (.builtin "object.__class__"))),
  decide (PySem.W.mroIn K (He.ga K "Parted") (.type "object") = some true),
  He.eqO (PySem.W.findIn K (.ref (He.ga K "Varied")) "__class__") (some (some (.builtin "object.__class__"))),
  decide (PySem.W.mroIn K (He.ga K "Varied") (.type "object") = some true),
  He.eqO (PySem.W.findIn K (.ref (He.ga K "Ordinary")) "__class__") (some (some (.builtin "object.__class__"))),
  decide (PySem.W.mroIn K (He.ga K "Ordinary") (.type "object") = some true),
  He.eqO (PySem.W.findIn K (.ref (He.ga K "Group")) "__class__") (some (some (.builtin "object.__class__"))),
  decide (PySem.W.mroIn K (He.ga K "Group") (.type "object") = some true),
  He.eqO (PySem.W.findIn K (.ref (He.ga K "Arms")) "__class__") (some (some (.builtin "object.__class__"))),
  decide (PySem.W.mroIn K (He.ga K "Arms") (.type "object") = some true),
  He.eqO (PySem.W.findIn K (.ref (He.ga K "Mark")) "__class__") (some (some (.builtin "object.__class__"))),
  decide (PySem.W.mroIn K (He.ga K "Mark") (.type "object") = some true),
  He.eqO (PySem.W.findIn K (.ref (He.ga K "Marked")) "__class__") (some (some (.builtin "object.__class__"))),
  decide (PySem.W.mroIn K (He.ga K "Marked") (.type "object") = some true),
  He.eqO (PySem.W.findIn K (.ref (He.ga K "Quarterly")) "__class__") (some (some (.builtin "object.__class__"))),
  decide (PySem.W.mroIn K (He.ga K "Quarterly") (.type "object") = some true),
  He.eqO (PySem.W.findIn K (.ref (He.ga K "Impaled")) "__class__") (some (some (.builtin "object.__class__"))),
  decide (PySem.W.mroIn K (He.ga K "Impaled") (.type "object") = some true),
  He.eqO (PySem.W.findIn K (.ref (He.ga K "Pretence")) "__class__") (some (some (.builtin "object.__class__"))),
  decide (PySem.W.mroIn K (He.ga K "Pretence") (.type "object") = some true),
  He.eqO (PySem.W.findIn K (.ref (He.ga K "Reader")) "__class__") (some (some (.builtin "object.__class__"))),
  decide (PySem.W.mroIn K (He.ga K "Reader") (.type "object") = some true),
  excB K (He.ga K "Misplaced"),
  He.eqO (PySem.W.findIn K (.ref (He.ga K "Misplaced")) "__setattr__") (some (some (.builtin "object.__setattr__"))),
  He.eqO (PySem.W.findIn K (.ref (He.ga K "Misplaced")) "__getattribute__") (some (some (.builtin "BaseException.__getattribute__"))),
  He.eqO (PySem.W.findIn K (.ref (He.ga K "Misplaced")) "__getattr__") (some none),
  decide (PySem.W.subIn K (.ref (He.ga K "Misplaced")) (.type "BaseException") = some true),
  decide (PySem.W.typeIn K (.ref (He.ga K "Misplaced")) = some (.type "type"))]
def hex0_1 (K : PySem.W.Frag) : List Bool := [PySem.W.hasDictIn K (He.ga K "Misplaced"),
  (match K.lookup (He.ma K (He.ga K "Misplaced") "__init__") with
      | some ⟨_, _, .func fd, _⟩ => decide (fd.kwdefaults = .none)
      | _ => false),
  makB K "words",
  tupAtB K (He.ga K "TINCTURES") (wTINCTURES.map V.str),
  tupAtB K (He.ga K "LINES") (wLINES.map V.str),
  tupAtB K (He.ga K "PARTED_WAYS") (wPARTED_WAYS.map V.str),
  tupAtB K (He.ga K "VARIED_WAYS") (wVARIED_WAYS.map V.str),
  tupAtB K (He.ga K "ORDINARIES") (wORDINARIES.map V.str),
  tupAtB K (He.ga K "CHARGES") (wCHARGES.map V.str),
  tupAtB K (He.ga K "MANNERS") (wMANNERS.map V.str),
  tupAtB K (He.ga K "SIZES") (wSIZES.map V.str),
  tupAtB K (He.ga K "COUNTS") (wCOUNTS.map V.str),
  He.eqO (PySem.W.specialIn K (.builtin "object.__class__") "__get__") (some (some (.builtin "getset_descriptor.__get__"))),
  decide (PySem.W.takesIn K (.builtin "object.__class__") = some true),
  decide (PySem.W.kitOne K (.ref (He.ga K "Marked")) (.ref (He.ga K "Impaled")) = some false),
  decide (PySem.W.kitOne K (.ref (He.ga K "Quarterly")) (.ref (He.ga K "Impaled")) = some false),
  decide (PySem.W.kitOne K (.ref (He.ga K "Impaled")) (.ref (He.ga K "Impaled")) = some true),
  decide (PySem.W.kitOne K (.ref (He.ga K "Pretence")) (.ref (He.ga K "Impaled")) = some false),
  decide (PySem.W.kitOne K (.ref (He.ga K "Marked")) (.ref (He.ga K "Marked")) = some true),
  decide (PySem.W.kitOne K (.ref (He.ga K "Quarterly")) (.ref (He.ga K "Marked")) = some false),
  decide (PySem.W.kitOne K (.ref (He.ga K "Impaled")) (.ref (He.ga K "Marked")) = some false),
  decide (PySem.W.kitOne K (.ref (He.ga K "Pretence")) (.ref (He.ga K "Marked")) = some false),
  decide (PySem.W.kitOne K (.ref (He.ga K "Ordinary")) (.ref (He.ga K "Ordinary")) = some true),
  decide (PySem.W.kitOne K (.ref (He.ga K "Group")) (.ref (He.ga K "Ordinary")) = some false),
  decide (PySem.W.kitOne K (.ref (He.ga K "Parted")) (.ref (He.ga K "Parted")) = some true),
  decide (PySem.W.kitOne K (.ref (He.ga K "Varied")) (.ref (He.ga K "Parted")) = some false),
  decide (PySem.W.kitOne K (.ref (He.ga K "Plain")) (.ref (He.ga K "Plain")) = some true),
  decide (PySem.W.kitOne K (.ref (He.ga K "Parted")) (.ref (He.ga K "Plain")) = some false),
  decide (PySem.W.kitOne K (.ref (He.ga K "Varied")) (.ref (He.ga K "Plain")) = some false),
  decide (PySem.W.kitOne K (.ref (He.ga K "Marked")) (.ref (He.ga K "Quarterly")) = some false)]
def hex0_2 (K : PySem.W.Frag) : List Bool := [decide (PySem.W.kitOne K (.ref (He.ga K "Quarterly")) (.ref (He.ga K "Quarterly")) = some true),
  decide (PySem.W.kitOne K (.ref (He.ga K "Impaled")) (.ref (He.ga K "Quarterly")) = some false),
  decide (PySem.W.kitOne K (.ref (He.ga K "Pretence")) (.ref (He.ga K "Quarterly")) = some false)]
def hex0_ (K : PySem.W.Frag) : List Bool := hex0_0 K ++ (hex0_1 K ++ (hex0_2 K))
def hfn0_0 : List He.FnD := [⟨("Plain", some "__init__"), "__init__", "Plain.__init__", defArgs s_Plain_init, defBody s_Plain_init, defScope s_Plain_init⟩,
  ⟨("Parted", some "__init__"), "__init__", "Parted.__init__", defArgs s_Parted_init, defBody s_Parted_init, defScope s_Parted_init⟩,
  ⟨("Varied", some "__init__"), "__init__", "Varied.__init__", defArgs s_Varied_init, defBody s_Varied_init, defScope s_Varied_init⟩,
  ⟨("Ordinary", some "__init__"), "__init__", "Ordinary.__init__", defArgs s_Ordinary_init, defBody s_Ordinary_init, defScope s_Ordinary_init⟩,
  ⟨("Group", some "__init__"), "__init__", "Group.__init__", defArgs s_Group_init, defBody s_Group_init, defScope s_Group_init⟩,
  ⟨("Arms", some "__init__"), "__init__", "Arms.__init__", defArgs s_Arms_init, defBody s_Arms_init, defScope s_Arms_init⟩,
  ⟨("Mark", some "__init__"), "__init__", "Mark.__init__", defArgs s_Mark_init, defBody s_Mark_init, defScope s_Mark_init⟩,
  ⟨("Marked", some "__init__"), "__init__", "Marked.__init__", defArgs s_Marked_init, defBody s_Marked_init, defScope s_Marked_init⟩,
  ⟨("Quarterly", some "__init__"), "__init__", "Quarterly.__init__", defArgs s_Quarterly_init, defBody s_Quarterly_init, defScope s_Quarterly_init⟩,
  ⟨("Impaled", some "__init__"), "__init__", "Impaled.__init__", defArgs s_Impaled_init, defBody s_Impaled_init, defScope s_Impaled_init⟩,
  ⟨("Pretence", some "__init__"), "__init__", "Pretence.__init__", defArgs s_Pretence_init, defBody s_Pretence_init, defScope s_Pretence_init⟩,
  ⟨("Reader", some "__init__"), "__init__", "Reader.__init__", defArgs s_Reader_init, defBody s_Reader_init, defScope s_Reader_init⟩,
  ⟨("Reader", some "take"), "take", "Reader.take", defArgs s_Reader_take, defBody s_Reader_take, defScope s_Reader_take⟩,
  ⟨("Reader", some "take_tincture_beside"), "take_tincture_beside", "Reader.take_tincture_beside", defArgs s_Reader_take_tincture_beside, defBody s_Reader_take_tincture_beside, defScope s_Reader_take_tincture_beside⟩,
  ⟨("Reader", some "at_end"), "at_end", "Reader.at_end", defArgs s_Reader_at_end, defBody s_Reader_at_end, defScope s_Reader_at_end⟩,
  ⟨("Misplaced", some "__init__"), "__init__", "Misplaced.__init__", defArgs s_Misplaced_init, defBody s_Misplaced_init, defScope s_Misplaced_init⟩,
  ⟨("take_field", none), "take_field", "take_field", defArgs s_take_field, defBody s_take_field, defScope s_take_field⟩,
  ⟨("take_parted", none), "take_parted", "take_parted", defArgs s_take_parted, defBody s_take_parted, defScope s_take_parted⟩,
  ⟨("take_varied", none), "take_varied", "take_varied", defArgs s_take_varied, defBody s_take_varied, defScope s_take_varied⟩,
  ⟨("take_fill", none), "take_fill", "take_fill", defArgs s_take_fill, defBody s_take_fill, defScope s_take_fill⟩,
  ⟨("take_layer", none), "take_layer", "take_layer", defArgs s_take_layer, defBody s_take_layer, defScope s_take_layer⟩,
  ⟨("take_arms", none), "take_arms", "take_arms", defArgs s_take_arms, defBody s_take_arms, defScope s_take_arms⟩,
  ⟨("take_marks", none), "take_marks", "take_marks", defArgs s_take_marks, defBody s_take_marks, defScope s_take_marks⟩,
  ⟨("take_marked", none), "take_marked", "take_marked", defArgs s_take_marked, defBody s_take_marked, defScope s_take_marked⟩,
  ⟨("take_coat", none), "take_coat", "take_coat", defArgs s_take_coat, defBody s_take_coat, defScope s_take_coat⟩,
  ⟨("take_quarterly", none), "take_quarterly", "take_quarterly", defArgs s_take_quarterly, defBody s_take_quarterly, defScope s_take_quarterly⟩,
  ⟨("decode", none), "decode", "decode", defArgs s_decode, defBody s_decode, defScope s_decode⟩,
  ⟨("coats_in", none), "coats_in", "coats_in", defArgs s_coats_in, defBody s_coats_in, defScope s_coats_in⟩,
  ⟨("article_before", none), "article_before", "article_before", defArgs s_article_before, defBody s_article_before, defScope s_article_before⟩,
  ⟨("several", none), "several", "several", defArgs s_several, defBody s_several, defScope s_several⟩]
def hfn0_1 : List He.FnD := [⟨("joined", none), "joined", "joined", defArgs s_joined, defBody s_joined, defScope s_joined⟩,
  ⟨("field_words", none), "field_words", "field_words", defArgs s_field_words, defBody s_field_words, defScope s_field_words⟩,
  ⟨("fill_words", none), "fill_words", "fill_words", defArgs s_fill_words, defBody s_fill_words, defScope s_fill_words⟩,
  ⟨("charges_words", none), "charges_words", "charges_words", defArgs s_charges_words, defBody s_charges_words, defScope s_charges_words⟩,
  ⟨("layer_words", none), "layer_words", "layer_words", defArgs s_layer_words, defBody s_layer_words, defScope s_layer_words⟩,
  ⟨("arms_words", none), "arms_words", "arms_words", defArgs s_arms_words, defBody s_arms_words, defScope s_arms_words⟩,
  ⟨("marked_words", none), "marked_words", "marked_words", defArgs s_marked_words, defBody s_marked_words, defScope s_marked_words⟩,
  ⟨("kind_word", none), "kind_word", "kind_word", defArgs s_kind_word, defBody s_kind_word, defScope s_kind_word⟩,
  ⟨("coat_words", none), "coat_words", "coat_words", defArgs s_coat_words, defBody s_coat_words, defScope s_coat_words⟩,
  ⟨("answered", none), "answered", "answered", defArgs s_answered, defBody s_answered, defScope s_answered⟩,
  ⟨("counted", none), "counted", "counted", defArgs s_counted, defBody s_counted, defScope s_counted⟩,
  ⟨("words", none), "words", "words", defArgs s_words, defBody s_words, defScope s_words⟩]
def hfn0_ : List He.FnD := hfn0_0 ++ (hfn0_1)
def hp0 : Fx := ⟨hfa0_, hex0_, hfn0_, ["words"]⟩
abbrev hparts : List Fx := [hp0]
def adOf (K : PySem.W.Frag) : Ad := ⟨He.ga K "Plain", He.ma K (He.ga K "Plain") "__init__", He.ga K "Parted", He.ma K (He.ga K "Parted") "__init__", He.ga K "Varied", He.ma K (He.ga K "Varied") "__init__", He.ga K "Ordinary", He.ma K (He.ga K "Ordinary") "__init__", He.ga K "Group", He.ma K (He.ga K "Group") "__init__", He.ga K "Arms", He.ma K (He.ga K "Arms") "__init__", He.ga K "Mark", He.ma K (He.ga K "Mark") "__init__", He.ga K "Marked", He.ma K (He.ga K "Marked") "__init__", He.ga K "Quarterly", He.ma K (He.ga K "Quarterly") "__init__", He.ga K "Impaled", He.ma K (He.ga K "Impaled") "__init__", He.ga K "Pretence", He.ma K (He.ga K "Pretence") "__init__", He.ga K "Reader", He.ma K (He.ga K "Reader") "__init__", He.ma K (He.ga K "Reader") "take", He.ma K (He.ga K "Reader") "take_tincture_beside", He.ma K (He.ga K "Reader") "at_end", He.ga K "Misplaced", He.ma K (He.ga K "Misplaced") "__init__", He.ga K "take_field", He.ga K "take_parted", He.ga K "take_varied", He.ga K "take_fill", He.ga K "take_layer", He.ga K "take_arms", He.ga K "take_marks", He.ga K "take_marked", He.ga K "take_coat", He.ga K "take_quarterly", He.ga K "decode", He.ga K "coats_in", He.ga K "article_before", He.ga K "several", He.ga K "joined", He.ga K "field_words", He.ga K "fill_words", He.ga K "charges_words", He.ga K "layer_words", He.ga K "arms_words", He.ga K "marked_words", He.ga K "kind_word", He.ga K "coat_words", He.ga K "answered", He.ga K "counted", He.ga K "words", codeOf K "words", tabOf K "words"⟩
theorem txt_of {K : PySem.W.Frag} {h : Heap} {mg : Str → Option Value} (X : K.In h) (G : h.Ns mainGlobals mg) (c0 : obsH hp0.fa hp0.ex hp0.fn K = valH hp0.fn) : Txt K mg (adOf K) where
  kPlain := cls_h X G (h_fact c0 0 rfl) (h_fact c0 1 rfl) (h_fact c0 2 rfl) (h_fact c0 3 rfl) ⟨He.noat_ok (h_fact c0 4 rfl), trivial⟩ (h_ex c0 0 rfl) (h_ex c0 1 rfl) (h_def c0 0 rfl) (fun _ _ _ _ _ _ us hl => match us, hl with | [_, _], _ => rfl)
  kParted := cls_h X G (h_fact c0 5 rfl) (h_fact c0 6 rfl) (h_fact c0 7 rfl) (h_fact c0 8 rfl) ⟨He.noat_ok (h_fact c0 9 rfl), He.noat_ok (h_fact c0 10 rfl), He.noat_ok (h_fact c0 11 rfl), He.noat_ok (h_fact c0 12 rfl), trivial⟩ (h_ex c0 2 rfl) (h_ex c0 3 rfl) (h_def c0 1 rfl) (fun _ _ _ _ _ _ us hl => match us, hl with | [_, _, _, _, _], _ => rfl)
  kVaried := cls_h X G (h_fact c0 13 rfl) (h_fact c0 14 rfl) (h_fact c0 15 rfl) (h_fact c0 16 rfl) ⟨He.noat_ok (h_fact c0 17 rfl), He.noat_ok (h_fact c0 18 rfl), He.noat_ok (h_fact c0 19 rfl), He.noat_ok (h_fact c0 20 rfl), He.noat_ok (h_fact c0 21 rfl), trivial⟩ (h_ex c0 4 rfl) (h_ex c0 5 rfl) (h_def c0 2 rfl) (fun _ _ _ _ _ _ us hl => match us, hl with | [_, _, _, _, _, _], _ => rfl)
  kOrdinary := cls_h X G (h_fact c0 22 rfl) (h_fact c0 23 rfl) (h_fact c0 24 rfl) (h_fact c0 25 rfl) ⟨He.noat_ok (h_fact c0 26 rfl), He.noat_ok (h_fact c0 27 rfl), He.noat_ok (h_fact c0 28 rfl), trivial⟩ (h_ex c0 6 rfl) (h_ex c0 7 rfl) (h_def c0 3 rfl) (fun _ _ _ _ _ _ us hl => match us, hl with | [_, _, _, _], _ => rfl)
  kGroup := cls_h X G (h_fact c0 29 rfl) (h_fact c0 30 rfl) (h_fact c0 31 rfl) (h_fact c0 32 rfl) ⟨He.noat_ok (h_fact c0 33 rfl), He.noat_ok (h_fact c0 34 rfl), He.noat_ok (h_fact c0 35 rfl), He.noat_ok (h_fact c0 36 rfl), He.noat_ok (h_fact c0 37 rfl), trivial⟩ (h_ex c0 8 rfl) (h_ex c0 9 rfl) (h_def c0 4 rfl) (fun _ _ _ _ _ _ us hl => match us, hl with | [_, _, _, _, _, _], _ => rfl)
  kArms := cls_h X G (h_fact c0 38 rfl) (h_fact c0 39 rfl) (h_fact c0 40 rfl) (h_fact c0 41 rfl) ⟨He.noat_ok (h_fact c0 42 rfl), He.noat_ok (h_fact c0 43 rfl), trivial⟩ (h_ex c0 10 rfl) (h_ex c0 11 rfl) (h_def c0 5 rfl) (fun _ _ _ _ _ _ us hl => match us, hl with | [_, _, _], _ => rfl)
  kMark := cls_h X G (h_fact c0 44 rfl) (h_fact c0 45 rfl) (h_fact c0 46 rfl) (h_fact c0 47 rfl) ⟨He.noat_ok (h_fact c0 48 rfl), He.noat_ok (h_fact c0 49 rfl), trivial⟩ (h_ex c0 12 rfl) (h_ex c0 13 rfl) (h_def c0 6 rfl) (fun _ _ _ _ _ _ us hl => match us, hl with | [_, _, _], _ => rfl)
  kMarked := cls_h X G (h_fact c0 50 rfl) (h_fact c0 51 rfl) (h_fact c0 52 rfl) (h_fact c0 53 rfl) ⟨He.noat_ok (h_fact c0 54 rfl), He.noat_ok (h_fact c0 55 rfl), He.noat_ok (h_fact c0 56 rfl), trivial⟩ (h_ex c0 14 rfl) (h_ex c0 15 rfl) (h_def c0 7 rfl) (fun _ _ _ _ _ _ us hl => match us, hl with | [_, _, _, _], _ => rfl)
  kQuarterly := cls_h X G (h_fact c0 57 rfl) (h_fact c0 58 rfl) (h_fact c0 59 rfl) (h_fact c0 60 rfl) ⟨He.noat_ok (h_fact c0 61 rfl), trivial⟩ (h_ex c0 16 rfl) (h_ex c0 17 rfl) (h_def c0 8 rfl) (fun _ _ _ _ _ _ us hl => match us, hl with | [_, _], _ => rfl)
  kImpaled := cls_h X G (h_fact c0 62 rfl) (h_fact c0 63 rfl) (h_fact c0 64 rfl) (h_fact c0 65 rfl) ⟨He.noat_ok (h_fact c0 66 rfl), He.noat_ok (h_fact c0 67 rfl), trivial⟩ (h_ex c0 18 rfl) (h_ex c0 19 rfl) (h_def c0 9 rfl) (fun _ _ _ _ _ _ us hl => match us, hl with | [_, _, _], _ => rfl)
  kPretence := cls_h X G (h_fact c0 68 rfl) (h_fact c0 69 rfl) (h_fact c0 70 rfl) (h_fact c0 71 rfl) ⟨He.noat_ok (h_fact c0 72 rfl), He.noat_ok (h_fact c0 73 rfl), trivial⟩ (h_ex c0 20 rfl) (h_ex c0 21 rfl) (h_def c0 10 rfl) (fun _ _ _ _ _ _ us hl => match us, hl with | [_, _, _], _ => rfl)
  kReader := cls_h X G (h_fact c0 74 rfl) (h_fact c0 75 rfl) (h_fact c0 76 rfl) (h_fact c0 77 rfl) ⟨He.noat_ok (h_fact c0 78 rfl), He.noat_ok (h_fact c0 79 rfl), trivial⟩ (h_ex c0 22 rfl) (h_ex c0 23 rfl) (h_def c0 11 rfl) (fun _ _ _ _ _ _ us hl => match us, hl with | [_, _], _ => rfl)
  kReader_take := met_h (h_fact c0 80 rfl) (h_def c0 12 rfl) (fun _ _ _ _ _ _ us hl => match us, hl with | [_, _, _], _ => rfl)
  kReader_take_tincture_beside := met_h (h_fact c0 81 rfl) (h_def c0 13 rfl) (fun _ _ _ _ _ _ us hl => match us, hl with | [_, _], _ => rfl)
  kReader_at_end := met_h (h_fact c0 82 rfl) (h_def c0 14 rfl) (fun _ _ _ _ _ _ us hl => match us, hl with | [_], _ => rfl)
  xMisplaced := low_h X G (h_fact c0 83 rfl) (h_fact c0 84 rfl) (h_ex c0 24 rfl) (h_fact c0 85 rfl) (h_fact c0 86 rfl) (h_ex c0 25 rfl) (h_ex c0 26 rfl) (h_ex c0 27 rfl) (h_fact c0 87 rfl) (h_ex c0 28 rfl) (h_ex c0 29 rfl) (h_ex c0 30 rfl) (h_def c0 15 rfl) (h_ex c0 31 rfl)
  k_take_field := def_h X G (h_fact c0 88 rfl) (h_fact c0 89 rfl) (h_def c0 16 rfl) (fun _ _ _ _ _ _ us hl => match us, hl with | [_], _ => rfl)
  k_take_parted := def_h X G (h_fact c0 90 rfl) (h_fact c0 91 rfl) (h_def c0 17 rfl) (fun _ _ _ _ _ _ us hl => match us, hl with | [_], _ => rfl)
  k_take_varied := def_h X G (h_fact c0 92 rfl) (h_fact c0 93 rfl) (h_def c0 18 rfl) (fun _ _ _ _ _ _ us hl => match us, hl with | [_], _ => rfl)
  k_take_fill := def_h X G (h_fact c0 94 rfl) (h_fact c0 95 rfl) (h_def c0 19 rfl) (fun _ _ _ _ _ _ us hl => match us, hl with | [_, _], _ => rfl)
  k_take_layer := def_h X G (h_fact c0 96 rfl) (h_fact c0 97 rfl) (h_def c0 20 rfl) (fun _ _ _ _ _ _ us hl => match us, hl with | [_, _], _ => rfl)
  k_take_arms := def_h X G (h_fact c0 98 rfl) (h_fact c0 99 rfl) (h_def c0 21 rfl) (fun _ _ _ _ _ _ us hl => match us, hl with | [_], _ => rfl)
  k_take_marks := def_h X G (h_fact c0 100 rfl) (h_fact c0 101 rfl) (h_def c0 22 rfl) (fun _ _ _ _ _ _ us hl => match us, hl with | [_], _ => rfl)
  k_take_marked := def_h X G (h_fact c0 102 rfl) (h_fact c0 103 rfl) (h_def c0 23 rfl) (fun _ _ _ _ _ _ us hl => match us, hl with | [_], _ => rfl)
  k_take_coat := def_h X G (h_fact c0 104 rfl) (h_fact c0 105 rfl) (h_def c0 24 rfl) (fun _ _ _ _ _ _ us hl => match us, hl with | [_, _], _ => rfl)
  k_take_quarterly := def_h X G (h_fact c0 106 rfl) (h_fact c0 107 rfl) (h_def c0 25 rfl) (fun _ _ _ _ _ _ us hl => match us, hl with | [_, _], _ => rfl)
  k_decode := def_h X G (h_fact c0 108 rfl) (h_fact c0 109 rfl) (h_def c0 26 rfl) (fun _ _ _ _ _ _ us hl => match us, hl with | [_], _ => rfl)
  k_coats_in := def_h X G (h_fact c0 110 rfl) (h_fact c0 111 rfl) (h_def c0 27 rfl) (fun _ _ _ _ _ _ us hl => match us, hl with | [_], _ => rfl)
  k_article_before := def_h X G (h_fact c0 112 rfl) (h_fact c0 113 rfl) (h_def c0 28 rfl) (fun _ _ _ _ _ _ us hl => match us, hl with | [_], _ => rfl)
  k_several := def_h X G (h_fact c0 114 rfl) (h_fact c0 115 rfl) (h_def c0 29 rfl) (fun _ _ _ _ _ _ us hl => match us, hl with | [_], _ => rfl)
  k_joined := def_h X G (h_fact c0 116 rfl) (h_fact c0 117 rfl) (h_def c0 30 rfl) (fun _ _ _ _ _ _ us hl => match us, hl with | [_], _ => rfl)
  k_field_words := def_h X G (h_fact c0 118 rfl) (h_fact c0 119 rfl) (h_def c0 31 rfl) (fun _ _ _ _ _ _ us hl => match us, hl with | [_], _ => rfl)
  k_fill_words := def_h X G (h_fact c0 120 rfl) (h_fact c0 121 rfl) (h_def c0 32 rfl) (fun _ _ _ _ _ _ us hl => match us, hl with | [_], _ => rfl)
  k_charges_words := def_h X G (h_fact c0 122 rfl) (h_fact c0 123 rfl) (h_def c0 33 rfl) (fun _ _ _ _ _ _ us hl => match us, hl with | [_], _ => rfl)
  k_layer_words := def_h X G (h_fact c0 124 rfl) (h_fact c0 125 rfl) (h_def c0 34 rfl) (fun _ _ _ _ _ _ us hl => match us, hl with | [_], _ => rfl)
  k_arms_words := def_h X G (h_fact c0 126 rfl) (h_fact c0 127 rfl) (h_def c0 35 rfl) (fun _ _ _ _ _ _ us hl => match us, hl with | [_], _ => rfl)
  k_marked_words := def_h X G (h_fact c0 128 rfl) (h_fact c0 129 rfl) (h_def c0 36 rfl) (fun _ _ _ _ _ _ us hl => match us, hl with | [_], _ => rfl)
  k_kind_word := def_h X G (h_fact c0 130 rfl) (h_fact c0 131 rfl) (h_def c0 37 rfl) (fun _ _ _ _ _ _ us hl => match us, hl with | [_], _ => rfl)
  k_coat_words := def_h X G (h_fact c0 132 rfl) (h_fact c0 133 rfl) (h_def c0 38 rfl) (fun _ _ _ _ _ _ us hl => match us, hl with | [_], _ => rfl)
  k_answered := def_h X G (h_fact c0 134 rfl) (h_fact c0 135 rfl) (h_def c0 39 rfl) (fun _ _ _ _ _ _ us hl => match us, hl with | [_, _], _ => rfl)
  k_counted := def_h X G (h_fact c0 136 rfl) (h_fact c0 137 rfl) (h_def c0 40 rfl) (fun _ _ _ _ _ _ us hl => match us, hl with | [_], _ => rfl)
  k_words := def_h X G (h_fact c0 138 rfl) (h_fact c0 139 rfl) (h_def c0 41 rfl) (fun _ _ _ _ _ _ us hl => match us, hl with | [_], _ => rfl)
  m_words := mak_h (h_def c0 41 rfl) (h_ex c0 32 rfl)
  nFEWEST_PIECES := He.int_ok X G (h_fact c0 140 rfl)
  nMOST_PIECES := He.int_ok X G (h_fact c0 141 rfl)
  nFIRST_STRAIGHT_WAY := He.int_ok X G (h_fact c0 142 rfl)
  nMOST_LAYERS := He.int_ok X G (h_fact c0 143 rfl)
  nMOST_MARKS := He.int_ok X G (h_fact c0 144 rfl)
  nMOST_G := He.int_ok X G (h_fact c0 145 rfl)
  nLEAST_K := He.int_ok X G (h_fact c0 146 rfl)
  nMOST_K := He.int_ok X G (h_fact c0 147 rfl)
  nFEWEST_QUARTERS := He.int_ok X G (h_fact c0 148 rfl)
  nMOST_QUARTERS := He.int_ok X G (h_fact c0 149 rfl)
  nMOST_DEEP := He.int_ok X G (h_fact c0 150 rfl)
  nLAST_TINCTURE := He.int_ok X G (h_fact c0 151 rfl)
  nLAST_LINE := He.int_ok X G (h_fact c0 152 rfl)
  nLAST_PARTED_WAY := He.int_ok X G (h_fact c0 153 rfl)
  nLAST_VARIED_WAY := He.int_ok X G (h_fact c0 154 rfl)
  nLAST_ORDINARY := He.int_ok X G (h_fact c0 155 rfl)
  nLAST_CHARGE := He.int_ok X G (h_fact c0 156 rfl)
  nLAST_MANNER := He.int_ok X G (h_fact c0 157 rfl)
  nFIRST_SIZE := He.int_ok X G (h_fact c0 158 rfl)
  nFIRST_COUNT := He.int_ok X G (h_fact c0 159 rfl)
  tTINCTURES := ⟨_, He.glo_ok X G (h_fact c0 160 rfl), tupAtB_ok (h_ex c0 33 rfl)⟩
  tLINES := ⟨_, He.glo_ok X G (h_fact c0 161 rfl), tupAtB_ok (h_ex c0 34 rfl)⟩
  tPARTED_WAYS := ⟨_, He.glo_ok X G (h_fact c0 162 rfl), tupAtB_ok (h_ex c0 35 rfl)⟩
  tVARIED_WAYS := ⟨_, He.glo_ok X G (h_fact c0 163 rfl), tupAtB_ok (h_ex c0 36 rfl)⟩
  tORDINARIES := ⟨_, He.glo_ok X G (h_fact c0 164 rfl), tupAtB_ok (h_ex c0 37 rfl)⟩
  tCHARGES := ⟨_, He.glo_ok X G (h_fact c0 165 rfl), tupAtB_ok (h_ex c0 38 rfl)⟩
  tMANNERS := ⟨_, He.glo_ok X G (h_fact c0 166 rfl), tupAtB_ok (h_ex c0 39 rfl)⟩
  tSIZES := ⟨_, He.glo_ok X G (h_fact c0 167 rfl), tupAtB_ok (h_ex c0 40 rfl)⟩
  tCOUNTS := ⟨_, He.glo_ok X G (h_fact c0 168 rfl), tupAtB_ok (h_ex c0 41 rfl)⟩
  b_len := He.free_ok X G (h_fact c0 169 rfl)
  b_range := He.free_ok X G (h_fact c0 170 rfl)
  b_isinstance := He.free_ok X G (h_fact c0 171 rfl)
  b_list := He.free_ok X G (h_fact c0 172 rfl)
  b_ord := He.free_ok X G (h_fact c0 173 rfl)
  b_str := He.free_ok X G (h_fact c0 174 rfl)
  gs := He.eqO_ok (h_ex c0 42 rfl)
  tk := of_decide_eq_true (h_ex c0 43 rfl)
  iMarked_Impaled := of_decide_eq_true (h_ex c0 44 rfl)
  iQuarterly_Impaled := of_decide_eq_true (h_ex c0 45 rfl)
  iImpaled_Impaled := of_decide_eq_true (h_ex c0 46 rfl)
  iPretence_Impaled := of_decide_eq_true (h_ex c0 47 rfl)
  iMarked_Marked := of_decide_eq_true (h_ex c0 48 rfl)
  iQuarterly_Marked := of_decide_eq_true (h_ex c0 49 rfl)
  iImpaled_Marked := of_decide_eq_true (h_ex c0 50 rfl)
  iPretence_Marked := of_decide_eq_true (h_ex c0 51 rfl)
  iOrdinary_Ordinary := of_decide_eq_true (h_ex c0 52 rfl)
  iGroup_Ordinary := of_decide_eq_true (h_ex c0 53 rfl)
  iParted_Parted := of_decide_eq_true (h_ex c0 54 rfl)
  iVaried_Parted := of_decide_eq_true (h_ex c0 55 rfl)
  iPlain_Plain := of_decide_eq_true (h_ex c0 56 rfl)
  iParted_Plain := of_decide_eq_true (h_ex c0 57 rfl)
  iVaried_Plain := of_decide_eq_true (h_ex c0 58 rfl)
  iMarked_Quarterly := of_decide_eq_true (h_ex c0 59 rfl)
  iQuarterly_Quarterly := of_decide_eq_true (h_ex c0 60 rfl)
  iImpaled_Quarterly := of_decide_eq_true (h_ex c0 61 rfl)
  iPretence_Quarterly := of_decide_eq_true (h_ex c0 62 rfl)
def names0 : List PySem.Str := ["FEWEST_PIECES",
  "MOST_PIECES",
  "FIRST_STRAIGHT_WAY",
  "MOST_LAYERS",
  "MOST_MARKS",
  "MOST_G",
  "LEAST_K",
  "MOST_K",
  "FEWEST_QUARTERS",
  "MOST_QUARTERS",
  "MOST_DEEP",
  "Plain",
  "Parted",
  "Varied",
  "Ordinary",
  "Group",
  "Arms",
  "Mark",
  "Marked",
  "Quarterly",
  "Impaled",
  "Pretence",
  "LAST_TINCTURE",
  "LAST_LINE",
  "LAST_PARTED_WAY",
  "LAST_VARIED_WAY",
  "LAST_ORDINARY",
  "LAST_CHARGE",
  "LAST_MANNER",
  "Misplaced"]
def names1 : List PySem.Str := ["Reader",
  "take_field",
  "take_parted",
  "take_varied",
  "take_fill",
  "take_layer",
  "take_arms",
  "take_marks",
  "take_marked",
  "take_coat",
  "take_quarterly",
  "decode",
  "coats_in",
  "TINCTURES",
  "LINES",
  "PARTED_WAYS",
  "VARIED_WAYS",
  "ORDINARIES",
  "CHARGES",
  "MANNERS",
  "SIZES",
  "COUNTS",
  "FIRST_SIZE",
  "FIRST_COUNT",
  "article_before",
  "several",
  "joined",
  "field_words",
  "fill_words",
  "charges_words"]
def names2 : List PySem.Str := ["layer_words",
  "arms_words",
  "marked_words",
  "kind_word",
  "coat_words",
  "answered",
  "counted"]
def names : List PySem.Str := names0 ++ (names1 ++ (names2))
abbrev hrow : PySem.W.OpenSpec := PySem.Challenge.rw_heraldcoats_s05_words
abbrev hview : Program := PySem.W.view hrow.prog [73]
abbrev hk : PySem.W.Hook := hookT 11 600 hparts
def hob (z : PySem.W.SharedT) : List (Bool × AlH) := obT 11 600 hparts (HandSHeadRun.getT z)
theorem hob_eq (z : PySem.W.SharedT) : hob z = hk.obs z.abs := obT_eq (HandSHeadRun.getT_eq z)
abbrev hdef : DefRec := HandSHeadRun.topDef hrow.prog 73
noncomputable abbrev hend (w : World) (os : OsState) : Option PySem.W.SharedT := HandSHeadRun.endF (HandSHeadRun.stepQ (HandSHeadRun.denQ HandSHeadRun.tabQ) hrow.prog w) 8000 hrow.prog w os
set_option maxHeartbeats 0 in
theorem hrun_z (w : World) (os : OsState) : (hend w os).map (fun s => (HandSHeadRun.looksF hrow.prog (PySem.W.boot_heap w.params) s.abs, HandSHeadRun.seenQ hview names (importedModules hrow.prog.main.body) (fun s => PySem.W.xlAt hview [] s && PySem.W.recOk [] s) s.abs)) = some (true, PySem.W.openGood hview names) := by
  kernel_rfl
set_option maxHeartbeats 0 in
theorem hrun_0 (w : World) (os : OsState) : (hend w os).map (fun s => hp0.ob 11 600 (HandSHeadRun.getT s)) = some hp0.val := by
  kernel_rfl
theorem hrun (w : World) : HandSHeadRun.RunEqS hrow hview hk hob 8000 names w := by
  intro os
  refine runs_join (o := hend w os) (hrun_z w os) fun x hx => ?_
  simp only [hparts, List.mem_cons, List.not_mem_nil, or_false] at hx
  subst hx
  exact hrun_0 w os
end HC
namespace HC
open PySem PySem.Spec PyProof.Rows L2 LamX
theorem fin {P : Program} {w : World} {K : PySem.W.Frag} {mg : Str → Option Value} {d : Ad} (T : Txt K mg d) {fa : Addr} (hfa : mg "words" = some (.ref fa)) :
    ∃ fd : FuncData, (∀ (s : Shared) (us : List Value), us.length = (["c"] : List Str).length → BindsTo s fd ⟨us, []⟩ ((["c"] : List Str).zip us)) ∧
    ∀ base : Heap, K.In base → base.Ns mainGlobals mg → (∀ p ∈ mainTabs d, TabB base mg p.1 p.2) → FnOk P w K mg base CX0 42 fa fd ["c"] (spTop K (mainTabs d)) := by
  have e := hfa.symm.trans T.k_words.gl
  cases e
  obtain ⟨fd, F, B⟩ := T.k_words.ex
  refine ⟨fd, ?_, fun base _ _ TB => ok_top T TB F⟩
  obtain ⟨oc, od, kV, doc, pm, an, cdv, ct, osl, rfl, lk, hcd⟩ := F.ex
  exact fun s us hu => match us, hu with | [_], _ => .of_eq rfl
open PySem.W (Codec) in
theorem call_top (K : PySem.W.Frag) (cs : List (Addr × Addr)) (H : L2.Hp) (xs : List L2.V) (a : Codec.denoteAll PySem.Challenge.rw_heraldcoats_s05_words.args) (hT : ∀ p ∈ cs, H p.2 = some (.tbl #[])) (hwi : Codec.withinAll PySem.Challenge.rw_heraldcoats_s05_words.args a = true) (hx : L2.DwAll K H xs (Codec.encAll PySem.Challenge.rw_heraldcoats_s05_words.args a)) :
    spTop K cs xs H (fun v H' => L2.Dw K H' v (PySem.Challenge.rw_heraldcoats_s05_words.ret.enc (Codec.app PySem.Challenge.rw_heraldcoats_s05_words.args PySem.Challenge.rw_heraldcoats_s05_words.f a))) fun _ _ _ => False := by
  cases hx with
  | cons h1 h2 =>
    cases h2
    cases h1 with
    | lst hs ha =>
      have e := L2.ints_dw a.1 _ ha
      subst e
      have q : ((Codec.inLen 0 2000 a.1 && a.1.all (Codec.inInt 0 255)) && true) = true := hwi
      rw [Bool.and_eq_true, Bool.and_eq_true] at q
      exact ⟨_, a.1, rfl, hT, hs, byt_of q.1.2, fun H' p hp => .lst (L2.SqL.of hp) (L2.dw_ints _)⟩
end HC
open PySem PySem.W PyProof.Rows
set_option maxRecDepth 100000 in
set_option maxHeartbeats 0 in
theorem PySem.Challenge.cw_heraldcoats_s05_words_holds : PySem.Challenge.rw_heraldcoats_s05_words.Holds := by
  refine HandSHeadRun.head_spec (r := PySem.Challenge.rw_heraldcoats_s05_words) (q := HC.hview) (H := HC.hk) (ob := HC.hob) (M := 8000) (loose := HC.names) (d := HC.hdef) (kwd := []) HC.hob_eq (by kernel_rfl) (fun s => by kernel_rfl) HC.hrun (by kernel_rfl) (by kernel_rfl) (by kernel_rfl) os_shapes (by decide +kernel) (by decide +kernel)
    ⟨rfl, rfl, rfl, rfl, rfl, by decide +kernel⟩ ?hw ?hc
  case hw => exact ⟨[.list []], by decide +kernel, by decide +kernel⟩
  case hc =>
    refine HC.walk_tabs (r := PySem.Challenge.rw_heraldcoats_s05_words) (k := 42) (CX := L2.CX0) (ps := ["c"]) (sp := HC.spTop) ⟨rfl, by decide, by decide⟩ (by decide +kernel) rfl ?F ?S (fun _ _ _ _ z => z)
    case F =>
      intro w mg fa h Y G hmg
      obtain ⟨K, c⟩ := Y
      have T := HC.txt_of c.kin G (c.ob HC.hp0 List.mem_cons_self)
      have hmg' : mg ("words" : PySem.Str) = some (.ref fa) := by
        have e : HC.hdef.name = ("words" : PySem.Str) := by kernel_rfl
        rw [← e]
        exact hmg
      refine ⟨K, HC.mainTabs (HC.adOf K), c.kin, ?_, ?_, ?_, HC.fin T hmg'⟩
      · intro p hp
        simp only [HC.mainTabs, List.mem_cons, List.not_mem_nil, or_false] at hp
        subst hp
        exact (c.tab HC.hp0 List.mem_cons_self "words" (by decide)).1
      · intro p hp
        simp only [HC.mainTabs, List.mem_cons, List.not_mem_nil, or_false] at hp
        subst hp
        exact (c.tab HC.hp0 List.mem_cons_self "words" (by decide)).2
      · intro p hp
        simp only [HC.mainTabs, List.mem_cons, List.not_mem_nil, or_false] at hp
        subst hp
        exact PySem.W.codeHd_of_K c.kin T.m_words.hd
    case S => exact fun K cs H xs a hT hwi hx => HC.call_top K cs H xs a hT hwi hx
#print axioms PySem.Challenge.cw_heraldcoats_s05_words_holds
