import PyProof.Rows.All
import Wide.All
import OpenK.AllK
import Wide.FinOn
import KE.KStateDown
import HandS.ForMost
import HandS.Exc
import HandS.WordsExc
import HandS.ExcInit
import HandS.ExcField
import KE.KExcIs
import HandS.ExcIs
import HandS.Star
import HandS.DictComp
import HandS.Wide
import HandS.IsInst
import HandS.EndBits
import HandS.Evl
import HandS.Defaults
import HandS.Zip
import HandS.Steps
import HandS.Walk
import HandS.SortInts
import HandS.More
import HandS.SetKeys
import HandS.Head0
import HandS.Head1
import HandS.Head2
import HandS.HeadEnd
import HandS.HeadHook1
import HandS.HeadHook2
import PySem.Challenge.RW_topiary_k04_symbols_refused
set_option Elab.async false
set_option linter.all false
set_option maxRecDepth 100000
set_option maxHeartbeats 4000000
/-! Words of my own over the hand layer: what the head tells (facts, defs, own exceptions), ends, heaps that change at few places. -/
namespace Tp
open PySem PySem.Spec PyProof.Rows L2

/-! ### own exceptions as the head tells them -/
def excShape (C : Addr) : Obj → Bool
  | ⟨.type t, _, .cls cd, sl⟩ => decide (t = "type") && (cd.hasDict && (!cd.hasDel && (match cd.mro, sl.toList with
    | .ref C' :: bm, [_, _, _, _, some (.builtin n), _] => decide (C' = C) && (decide (n = "ValueError.__new__") && PySem.HandSPX.refsVE bm)
    | _, _ => false)))
  | _ => false
theorem two {a b : Bool} (h : (a && b) = true) : a = true ∧ b = true := Bool.and_eq_true_iff.mp h
theorem excShape_ok {C : Addr} {o : Obj} (h : excShape C o = true) : ∃ nm q N bs bm sn sub ab col dd k0 k1 k2 k3 k5, o = excClassObj nm q C N bs bm true sn sub ab col dd k0 k1 k2 k3 k5 "ValueError.__new__" ∧ PySem.HandSPX.refsVE bm = true := by
  obtain ⟨oc, od, dt, sl⟩ := o
  cases oc with
  | type t =>
    cases dt with
    | cls cd =>
      obtain ⟨h1, h⟩ := two h
      obtain ⟨h2, h⟩ := two h
      obtain ⟨h3, h⟩ := two h
      obtain ⟨nm, bs, mro, ns, qn, hd, sn, sb, ab, col, del⟩ := cd
      obtain ⟨sl⟩ := sl
      have e1 : t = "type" := of_decide_eq_true h1
      subst e1
      cases del with
      | true => cases h3
      | false =>
        have e2 : hd = true := h2
        subst e2
        match mro, sl, h with
        | .ref C' :: bm, [k0, k1, k2, k3, some (.builtin n), k5], h =>
          obtain ⟨h4, h⟩ := two h
          obtain ⟨h5, h6⟩ := two h
          have e3 : C' = C := of_decide_eq_true h4
          have e4 : n = "ValueError.__new__" := of_decide_eq_true h5
          subst e3 e4
          exact ⟨nm, qn, ns, bs, bm, sn, sb, ab, col, od, k0, k1, k2, k3, k5, rfl, h6⟩
    | _ => cases h
  | _ => cases dt <;> cases h
/-- the class x of the module: an own exception -/
def excB (K : PySem.W.Frag) (x : Str) : Bool := (match K.lookup (He.ga K x) with
  | some o => excShape (He.ga K x) o
  | none => false) && (decide (PySem.W.findIn K (.ref (He.ga K x)) "__setattr__" = some (some (.builtin "object.__setattr__"))) && (decide (PySem.W.subIn K (.ref (He.ga K x)) (.type "BaseException") = some true) &&
  (decide (PySem.W.typeIn K (.ref (He.ga K x)) = some (.type "type")) && PySem.W.keepIn K (.ref (He.ga K x)))))
theorem excB_ok {K : PySem.W.Frag} {x : Str} (h : excB K x = true) : OexC K (He.ga K x) := by
  obtain ⟨h1, h⟩ := two h
  obtain ⟨h2, h⟩ := two h
  obtain ⟨h3, h⟩ := two h
  obtain ⟨h4, h5⟩ := two h
  refine ⟨?_, of_decide_eq_true h2, of_decide_eq_true h3, of_decide_eq_true h4, h5⟩
  cases q : K.lookup (He.ga K x) with
  | none =>
    rw [q] at h1
    cases h1
  | some o =>
    rw [q] at h1
    obtain ⟨nm, qn, N, bs, bm, sn, sub, ab, col, dd, k0, k1, k2, k3, k5, e, r⟩ := excShape_ok h1
    exact ⟨nm, qn, N, bs, bm, sn, sub, ab, col, dd, k0, k1, k2, k3, k5, by rw [e], r⟩
/-- its own __init__ -/
def iniB (K : PySem.W.Frag) (x : Str) : Bool := decide (PySem.W.findIn K (.ref (He.ga K x)) "__init__" = some (some (.ref (He.ma K (He.ga K x) "__init__")))) && decide (PySem.W.typeIn K (.ref (He.ma K (He.ga K x) "__init__")) = some (.type "function"))
theorem iniB_ok {K : PySem.W.Frag} {x : Str} (h : iniB K x = true) : PySem.W.findIn K (.ref (He.ga K x)) "__init__" = some (some (.ref (He.ma K (He.ga K x) "__init__"))) ∧ PySem.W.typeIn K (.ref (He.ma K (He.ga K x) "__init__")) = some (.type "function") := by
  obtain ⟨h1, h2⟩ := two h
  exact ⟨of_decide_eq_true h1, of_decide_eq_true h2⟩
/-- what isinstance of a caught own error asks of its class -/
def excCB (K : PySem.W.Frag) (D : Addr) : Bool := decide (PySem.W.findIn K (.ref D) "__getattribute__" = some (some (.builtin "BaseException.__getattribute__"))) && (decide (PySem.W.findIn K (.ref D) "__getattr__" = some none) && (decide (PySem.W.subIn K (.ref D) (.type "BaseException") = some true) && (PySem.W.hasDictIn K D &&
  (decide (PySem.W.findIn K (.ref D) "__class__" = some (some (.builtin "object.__class__"))) && (decide (PySem.W.specialIn K (.builtin "object.__class__") "__get__" = some (some (.builtin "getset_descriptor.__get__"))) && (decide (PySem.W.takesIn K (.builtin "object.__class__") = some true) && decide (PySem.W.mroIn K D (.type "object") = some true)))))))
theorem excCB_ok {K : PySem.W.Frag} {D : Addr} (h : excCB K D = true) : ExcC K D := by
  obtain ⟨h1, h⟩ := two h
  obtain ⟨h2, h⟩ := two h
  obtain ⟨h3, h⟩ := two h
  obtain ⟨h4, h⟩ := two h
  obtain ⟨h5, h⟩ := two h
  obtain ⟨h6, h⟩ := two h
  obtain ⟨h7, h8⟩ := two h
  exact ⟨of_decide_eq_true h1, of_decide_eq_true h2, of_decide_eq_true h3, h4, of_decide_eq_true h5, of_decide_eq_true h6, of_decide_eq_true h7, of_decide_eq_true h8⟩
/-- isinstance(e, t), e the caught error of the own class C with its dict -/
def rIsX (a : Addr) (cls : Value) (d : Option Addr) (C : Addr) (t : String) (b : Bool) : List V → Hp → VK → Prop := fun xs H Q => xs = [.ref a, .ty t] ∧ cls = .ref C ∧ (∃ (dd : Addr) (fs : List (Str × V)), d = some dd ∧ H dd = some (.xd fs)) ∧ Q (.bl b) H
theorem call_isX {X : Cx} {a C : Addr} {oe : Obj} {cls : Value} {d : Option Addr} {pn : List (Addr × Obj)} {t : String} {b : Bool} (T : ExcC X.K C) (e : PySem.W.kitOne X.K (.ref C) (.type t) = some b) (hz : Zc cls d oe) (hf : ∃ vs, oe.data = .fields vs) : CallR (X.suite a ((a, oe) :: pn)) (.builtin "isinstance") (rIsX a cls d C t b) := by
  intro pins s σ H xs us Q I r h
  obtain ⟨rfl, ec, ⟨dd, fs, ed, ea⟩, q⟩ := h
  subst ec
  subst ed
  cases r with
  | cons rx rr =>
    cases rr with
    | cons rt rr =>
      cases rr
      cases rx
      cases rt
      obtain ⟨ha, _⟩ := I.pin (a, oe) (List.mem_append_left _ List.mem_cons_self)
      obtain ⟨vs, hd⟩ := hf
      have hx : ObjOk X.prog X.w H s.heap dd (.xd fs) := I.hok dd _ ea
      obtain ⟨mA, hns, hr⟩ := hx
      obtain ⟨od, ho, hl⟩ := lookIn_ns hns
      have J : PySem.W.InstAt s.heap a oe C (some od) := ⟨ha, hz.1, by unfold PySem.W.notCls; rw [hd] <;> rfl, by rw [hz.2]; exact ho⟩
      have hcl : (PySem.W.clsIn X.K C).isSome = true := by
        obtain ⟨cd, hc, _⟩ := PySem.W.any_some T.hd
        rw [hc] <;> rfl
      exact PySem.W.kia_one (PySem.W.kitx_exc hcl T.hg T.hk T.hs T.ha T.hn T.ht T.hm) I.kIn J e (fun z => nomatch z) fun tk => ⟨.bl b, H, I.kept (t' := tk) fun _ _ z => z, rfl, q⟩
/-- a tuple of texts in the written part -/
def strV : Value → Option Str
  | .str z _ => some z
  | _ => none
def strsB (K : PySem.W.Frag) (a : Addr) (zs : List Str) : Bool := match K.lookup a with
  | some ⟨.type "tuple", _, .seq its _, _⟩ => decide (its.size ≤ 1000) && decide (its.toList.map strV = zs.map some)
  | _ => false
def refV : Value → Option Addr
  | .ref a => some a
  | _ => none
def tupsB (K : PySem.W.Frag) (a : Addr) (zs : List (List Str)) : Bool := match K.lookup a with
  | some ⟨.type "tuple", _, .seq its _, _⟩ => decide (its.size ≤ 1000) && decide (its.size = zs.length) && (its.toList.zip zs).all fun p => match refV p.1 with
    | some b => strsB K b p.2
    | none => false
  | _ => false
theorem vals_strs : ∀ {us : List Value} {zs : List Str}, us.map strV = zs.map some → Vals (zs.map V.str) us
  | [], [], _ => .nil
  | [], _ :: _, h => by cases h
  | _ :: _, [], h => by cases h
  | u :: us, z :: zs, h => by
    rw [List.map_cons, List.map_cons] at h
    obtain ⟨h1, h2⟩ := List.cons.inj h
    refine .cons ?_ (vals_strs h2)
    cases u with
    | str y t =>
      cases h1
      exact ⟨t, rfl⟩
    | _ => cases h1
theorem strsB_ok {K : PySem.W.Frag} {a : Addr} {zs : List Str} (h : strsB K a zs = true) (H : Hp) : SqT K H a (zs.map V.str) := by
  unfold strsB at h
  split at h
  · rename_i its n sl e
    have h' := Bool.and_eq_true_iff.mp h
    exact .inr ⟨_, its, n, e, rfl, rfl, Nat.le_trans (of_decide_eq_true h'.1) (by decide), vals_strs (of_decide_eq_true h'.2)⟩
  · cases h
theorem tups_refs {K : PySem.W.Frag} : ∀ {us : List Value} {zs : List (List Str)}, us.length = zs.length → ((us.zip zs).all fun p => match refV p.1 with
    | some b => strsB K b p.2
    | none => false) = true → ∃ as : List Addr, Vals (as.map V.ref) us ∧ as.length = zs.length ∧ ∀ (i : Nat) (a : Addr) (z : List Str), as[i]? = some a → zs[i]? = some z → strsB K a z = true
  | [], [], _, _ => ⟨[], .nil, rfl, fun i a z h => by cases h⟩
  | [], _ :: _, h, _ => by cases h
  | _ :: _, [], h, _ => by cases h
  | u :: us, z :: zs, hl, h => by
    rw [List.zip_cons_cons, List.all_cons] at h
    obtain ⟨h1, h2⟩ := Bool.and_eq_true_iff.mp h
    obtain ⟨as, g1, g2, g3⟩ := tups_refs (Nat.succ.inj hl) h2
    cases u with
    | ref a =>
      refine ⟨a :: as, .cons rfl g1, by rw [List.length_cons, List.length_cons, g2], fun i b y e1 e2 => ?_⟩
      cases i with
      | zero =>
        cases e1
        cases e2
        exact h1
      | succ i => exact g3 i b y e1 e2
    | _ => cases h1
/-- a tuple of tuples of texts -/
def TupsC (K : PySem.W.Frag) (a : Addr) (zs : List (List Str)) : Prop := ∃ as : List Addr, as.length = zs.length ∧ (∀ H, SqT K H a (as.map V.ref)) ∧ ∀ (i : Nat) (b : Addr) (z : List Str), as[i]? = some b → zs[i]? = some z → ∀ H, SqT K H b (z.map V.str)
theorem tupsB_ok {K : PySem.W.Frag} {a : Addr} {zs : List (List Str)} (h : tupsB K a zs = true) : TupsC K a zs := by
  unfold tupsB at h
  split at h
  · rename_i its n sl e
    obtain ⟨h', h3⟩ := Bool.and_eq_true_iff.mp h
    obtain ⟨h1, h2⟩ := Bool.and_eq_true_iff.mp h'
    obtain ⟨as, g1, g2, g3⟩ := tups_refs (us := its.toList) (by rw [Array.length_toList]; exact of_decide_eq_true h2) h3
    exact ⟨as, g2, fun H => .inr ⟨_, its, n, e, rfl, rfl, Nat.le_trans (of_decide_eq_true h1) (by decide), g1⟩, fun i b z e1 e2 H => strsB_ok (g3 i b z e1 e2) H⟩
  · cases h
/-- one more fact of the head: an exception's class; one whose fields are read; a sub-question of two classes -/
inductive Fx where
  | tups (x : Str) (zs : List (List Str))
  | exc (x : Str)
  | ini (x : Str)
  | xf (x : Str)
  | sub (x y : Str) (b : Bool)
  | isC (x : Str)
  | isx (x : Str) (t : String) (b : Bool)
def Fx.ok (K : PySem.W.Frag) : Fx → Bool
  | .tups x zs => tupsB K (He.ga K x) zs
  | .exc x => excB K x
  | .ini x => iniB K x
  | .xf x => xfB K (He.ga K x)
  | .sub x y b => decide (PySem.W.exmOne K (.ref (He.ga K x)) (.ref (He.ga K y)) = some b)
  | .isC x => PySem.W.isClsIn K (He.ga K x)
  | .isx x t b => excCB K (He.ga K x) && decide (PySem.W.kitOne K (.ref (He.ga K x)) (.type t) = some b)

/-! ### the head's Hook -/
abbrev Seen : Type := He.AlD × Bool
def seen (fa : List He.Fa) (fn : List He.DefD) (fx : List Fx) (K : PySem.W.Frag) : Seen := (He.obsD fa fn K, fx.all fun f => f.ok K)
def told (fn : List He.DefD) : Seen := (He.valD fn, true)
def lookAt (n : Nat) (fa : List He.Fa) (fn : List He.DefD) (fx : List Fx) (g : Addr → Option Obj) : Seen := seen fa fn fx (He.frG g (He.asD g n))
def hook (n : Nat) (fa : List He.Fa) (fn : List He.DefD) (fx : List Fx) : PySem.W.Hook where
  α := Seen
  obs := fun s => lookAt n fa fn fx s.heap.get?
  val := fun _ => told fn
  says := fun _ h => ∃ K : PySem.W.Frag, K.In h ∧ seen fa fn fx K = told fn
  of := fun _ _ e => ⟨_, He.frG_in, e⟩
  keeps := fun _ _ _ ⟨K, hK, c⟩ k => ⟨K, PySem.W.Frag.In.keeps hK k, c⟩
theorem look_eq {n : Nat} {fa : List He.Fa} {fn : List He.DefD} {fx : List Fx} {g : Addr → Option Obj} {s : Shared} (h : ∀ a, g a = s.heap.get? a) : lookAt n fa fn fx g = (hook n fa fn fx).obs s := by
  have e : g = s.heap.get? := funext h
  subst e
  rfl
/-- what the walk leans on, by places in the lists -/
structure Txt (fa : List He.Fa) (fn : List He.DefD) (fx : List Fx) (K : PySem.W.Frag) (mg : Str → Option Value) : Prop where
  f : ∀ (i : Nat) (f : He.Fa), fa[i]? = some f → f.ok K = true
  d : ∀ (i : Nat) (d : He.DefD), fn[i]? = some d → ∃ fd, FunD K d.name d.qual d.params d.body d.scope (d.dvs K) (d.kws K) (He.fAd K d.at_) fd
  x : ∀ (i : Nat) (f : Fx), fx[i]? = some f → f.ok K = true
  gl : ∀ (i : Nat) (x : Str), fa[i]? = some (.glo x) → mg x = some (.ref (He.ga K x))
  no : ∀ (i : Nat) (x : Str), fa[i]? = some (.free x) → mg x = none
  int : ∀ (i : Nat) (x : Str) (n : Int), fa[i]? = some (.int x n) → ∃ t, mg x = some (.int n t)
  str : ∀ (i : Nat) (x z : Str), fa[i]? = some (.str x z) → ∃ t, mg x = some (.str z t)
theorem txt_of {fa : List He.Fa} {fn : List He.DefD} {fx : List Fx} {K : PySem.W.Frag} {mg : Str → Option Value} {h : Heap} (X : K.In h) (G : h.Ns mainGlobals mg) (c : seen fa fn fx K = told fn) : Txt fa fn fx K mg := by
  have c1 : He.SaysD fa fn K := congrArg (fun z : Seen => z.1) c
  have c2 : (fx.all fun f => f.ok K) = true := congrArg (fun z : Seen => z.2) c
  exact ⟨fun i f e => c1.fact i e, fun i d e => c1.def_ i e, fun i f e => List.all_eq_true.mp c2 f (List.mem_of_getElem? e), fun i x e => He.glo_ok X G (c1.fact i e), fun i x e => He.free_ok X G (c1.fact i e),
    fun i x n e => He.int_ok X G (c1.fact i e), fun i x z e => He.str_ok X G (c1.fact i e)⟩

/-! ### defs -/
/-- a def that lets nothing out -/
theorem def0 {P : Program} {w : World} {K : PySem.W.Frag} {mg : Str → Option Value} {base : Heap} {x qual : Str} {params : Arguments} {body : List Stmt} {scope : Scope} {dvs : List V} {kws : List (Str × V)} {f : Addr} {fd : FuncData} {N ps : List Str} {k : Nat} {sp : Sp}
    (F : FunD K x qual params body scope dvs kws f fd) (S : FnScope N ps scope) (len : ∀ vs H Q E, sp vs H Q E → vs.length = ps.length)
    (hb : ∀ (cdv : Value) (A : Around) (outer : List Env) (s : Shared) (H : Hp) (vs : List V) (Q : VK) (E : XK), Room k (A.deeper (envOfC qual scope s.heap.objs.size f cdv)) → sp vs H Q E →
      ∃ t, PSs (cxOf CX0 P w K mg base N qual scope f cdv A outer s H E).nox body t ∧ t { nx := fun _ H' => Q .non H', rt := Q } (start N vs) H) : FnOk P w K mg base CX0 (k + 1) f fd ps sp :=
  F.ok S len fun cdv A outer s H vs Q E hr h => by
    obtain ⟨t, ht, q⟩ := hb cdv A outer s H vs Q E hr h
    exact ⟨t, PSs.nox ht, q⟩
/-- a def that may let out errors -/
theorem defX {P : Program} {w : World} {K : PySem.W.Frag} {mg : Str → Option Value} {base : Heap} {x qual : Str} {params : Arguments} {body : List Stmt} {scope : Scope} {dvs : List V} {kws : List (Str × V)} {f : Addr} {fd : FuncData} {N ps : List Str} {k : Nat} {sp : Sp}
    (F : FunD K x qual params body scope dvs kws f fd) (S : FnScope N ps scope) (len : ∀ vs H Q E, sp vs H Q E → vs.length = ps.length)
    (hb : ∀ (cdv : Value) (A : Around) (outer : List Env) (s : Shared) (H : Hp) (vs : List V) (Q : VK) (E : XK), Room k (A.deeper (envOfC qual scope s.heap.objs.size f cdv)) → sp vs H Q E →
      ∃ t, PSs (cxOf (L2.CX P w) P w K mg base N qual scope f cdv A outer s H E) body t ∧ t { nx := fun _ H' => Q .non H', rt := Q } (start N vs) H) : FnOk P w K mg base (L2.CX P w) (k + 1) f fd ps sp :=
  F.ok S len hb
/-- a def as callers want it: dvs the defaults that fill up -/
def Can (P : Program) (w : World) (K : PySem.W.Frag) (mg : Str → Option Value) (base : Heap) (CX : CXT) (k : Nat) (f : Addr) (ps : List Str) (dvs : List V) (sp : Sp) : Prop := ∃ fd, FnOk P w K mg base CX k f fd ps sp ∧ ∃ ds, Vals dvs ds ∧ Binds K fd ps ds

/-! ### the law's end -/
theorem ends {l : PySem.W.OpenLaw} {n k : Nat} {q : Program} {loose : List Str} {XP : (Str → Option Value) → Heap → Prop} {YP : World → Heap → Prop} {d : DefRec} {CX : World → CXT} {x : Str}
    (hn : l.most = some n) (hn2 : n ≤ sizeLine) (hdf : d.params.defaults = []) (hr : Room k callerA)
    (F : ∀ (w : World) (mg : Str → Option Value) (fa : Addr) (h : Heap), YP w h → h.Ns mainGlobals mg → mg d.name = some (.ref fa) →
      ∃ (K : PySem.W.Frag) (fd : FuncData) (sp : Sp), K.In h ∧ (∀ (s : Shared) (u : Value), BindsTo s fd ⟨[u], []⟩ [(x, u)]) ∧
        (∀ (H : Hp) (a : Addr) (ns : List Int), ns.length ≤ n → (∀ z ∈ ns, Builtin.Int.intBits z ≤ 1048576) → Only H → SqL K H a (ns.map V.int) → sp [.ref a] H (fun v _ => v = .bl true) fun _ _ _ => False) ∧
        ∀ base : Heap, K.In base → base.Ns mainGlobals mg → FnOk l.prog w K mg base (CX w) k fa fd [x] sp)
    (hCX : ∀ (w : World) (H : Hp) (s : Shared) (e : Value) (s' : Shared), CX w [] H s (fun _ _ _ => False) e s' → False) :
    PySem.W.WalkO q loose XP YP l.row.toRowW d [] (fun f vs => PySem.call f vs) := by
  refine Att.attach_callB hn hdf fun w s₀ s₁ mg mb fa o pm cd doc a vs ns G Y ho hd hcd hmg hobj hints hlen hbits hg => ?_
  obtain ⟨K, fd, sp, KX, hb, hsp, hF⟩ := F w mg fa _ Y G.T.g hmg
  exact law_call KX G.T.g G.T.b G.T.builtins G.T.nolimit hg hobj hints (Nat.le_trans hlen hn2) hr hF hb (fun H hO hS => hsp H a ns hlen hbits hO hS) fun H e s' => hCX w H s₁ e s'
theorem no_leak {P : Program} {w : World} {H : Hp} {s : Shared} {e : Value} {s' : Shared} (h : L2.CX P w [] H s (fun _ _ _ => False) e s') : False := by
  obtain ⟨_, _, _, _, _, _, _, _, _, _, _, _, z⟩ := h
  exact z.elim

/-! ### heaps: all but some places stay -/
/-- what H tracks but at the places of S stays -/
def Kp (S : List Addr) (H H' : Hp) : Prop := ∀ a o, a ∉ S → H a = some o → H' a = some o
theorem Kp.refl {S : List Addr} {H : Hp} : Kp S H H := fun _ _ _ e => e
theorem Kp.trans {S : List Addr} {H H1 H2 : Hp} (a : Kp S H H1) (b : Kp S H1 H2) : Kp S H H2 := fun x o n e => b x o n (a x o n e)
theorem Kp.new {S : List Addr} {H : Hp} {p : Addr} {o : HO} (h : H p = none) : Kp S H (upd H p o) := fun a u _ e => by
  rw [upd_ne (ne_of_none e h)]
  exact e
theorem Kp.put {S : List Addr} {H : Hp} {p : Addr} {o : HO} (h : p ∈ S) : Kp S H (upd H p o) := fun a u n e => by
  rw [upd_ne (fun z => n (by rw [z]; exact h))]
  exact e
/-- an object that H does not know may change -/
theorem Kp.mut {S : List Addr} {H H' : Hp} {p : Addr} {o : HO} (e : Kp S H H') (h : H p = none) : Kp S H (upd H' p o) := fun a u n ha => by
  rw [upd_ne (ne_of_none ha h)]
  exact e a u n ha
theorem Kp.mono {S S' : List Addr} {H H' : Hp} (e : Kp S H H') (h : ∀ a ∈ S, a ∈ S') : Kp S' H H' := fun a o n ha => e a o (fun z => n (h a z)) ha
theorem Kp.ex {H H' : Hp} (e : Kp [] H H') : Evl.Ex H H' := fun a o h => e a o (by simp) h
theorem Kp.of {S : List Addr} {H H' : Hp} (e : Evl.Ex H H') : Kp S H H' := fun a o _ h => e a o h
theorem Kp.of' {S : List Addr} {H H' : Hp} (e : Same H H') : Kp S H H' := fun a o _ h => e a o h
theorem Kp.fresh {H H' : Hp} {p : Addr} (e : Kp [] H H') (h : H' p = none) : H p = none := Evl.fresh_back e.ex h
/-- fresh behind, fresh ahead, where the places of S are known -/
theorem Kp.back {S : List Addr} {H H' : Hp} {p : Addr} (e : Kp S H H') (hs : ∀ a ∈ S, H' a ≠ none) (h : H' p = none) : H p = none := by
  cases q : H p with
  | none => rfl
  | some o =>
    by_cases hp : p ∈ S
    · exact absurd h (hs p hp)
    · rw [e p o hp q] at h
      cases h
theorem Kp.up {H : Hp} {p : Addr} {o : HO} : Kp [p] H (upd H p o) := fun a u n e => by
  rw [upd_ne (fun z => n (by rw [z]; exact List.mem_singleton.mpr rfl))]
  exact e
theorem Kp.at {S : List Addr} {H H' : Hp} {a : Addr} {o : HO} (e : Kp S H H') (ha : H a = some o) (n : a ∉ S := by simp) : H' a = some o := e a o n ha

theorem Kp.sqL {K : PySem.W.Frag} {H H' : Hp} {p l C dx : Addr} {fs : List (Str × V)} {xs : List V} (e : Kp [p] H H') (hp : H p = some (.ins C dx fs)) (h : SqL K H l xs) : SqL K H' l xs := by
  rcases h with (h | ⟨o, h⟩) | h
  · exact .inl (.inl (e.at h fun z => by rw [List.mem_singleton.mp z, hp] at h; cases h))
  · exact .inl (.inr ⟨o, e.at h fun z => by rw [List.mem_singleton.mp z, hp] at h; cases h⟩)
  · exact .inr h

/-! ### own exceptions made -/
theorem exo_end {H : Hp} {a d : Addr} {o1 o2 o3 u : HO} (hn : H a = none) (hd : d ≠ a) : upd (L2.del (upd (upd (upd H a o1) d o2) a o3) a) d u = upd H d u := by
  funext b
  by_cases h1 : b = d
  · subst h1
    rw [upd_same, upd_same]
  · rw [upd_ne h1, upd_ne h1]
    by_cases h2 : b = a
    · subst h2
      rw [del_same, hn]
    · rw [del_ne h2, upd_ne h2, upd_ne h1, upd_ne h2]
theorem exo_end2 {H : Hp} {a d : Addr} {o1 o2 o3 o4 u : HO} (hn : H a = none) (hd : d ≠ a) : upd (L2.del (upd (upd (upd (upd H a o1) d o2) a o3) d o4) a) d u = upd H d u := by
  funext b
  by_cases h1 : b = d
  · subst h1
    rw [upd_same, upd_same]
  · rw [upd_ne h1, upd_ne h1]
    by_cases h2 : b = a
    · subst h2
      rw [del_same, hn]
    · rw [del_ne h2, upd_ne h1, upd_ne h2, upd_ne h1, upd_ne h2]
/-- the __init__ of an own exception with one field -/
def spX1 (K : PySem.W.Frag) (C : Addr) (f : Str) : Sp := fun vs H Q _ => ∃ (a : Addr) (y : V), vs = [.ref a, y] ∧ OexC K C ∧ PySem.W.findIn K (.ref C) f = some none ∧ H a = some (exo a C none) ∧
  ∀ dx, H dx = none → dx ≠ a → Q .non (upd (upd H dx (exd dx [(f, y)])) a (exo a C (some dx)))
/-- .. with two fields -/
def spX2 (K : PySem.W.Frag) (C : Addr) (f g : Str) : Sp := fun vs H Q _ => ∃ (a : Addr) (y z : V), vs = [.ref a, y, z] ∧ OexC K C ∧ PySem.W.findIn K (.ref C) f = some none ∧ PySem.W.findIn K (.ref C) g = some none ∧ H a = some (exo a C none) ∧
  ∀ dx, H dx = none → dx ≠ a → Q .non (upd (upd (upd H dx (exd dx [(f, y)])) a (exo a C (some dx))) dx (exd dx [(g, z), (f, y)]))
/-- C(e) is made, to be raised -/
theorem made1 {K : PySem.W.Frag} {C : Addr} {f : Str} {y : V} {H : Hp} {Q : XK} (T : OexC K C) (hno : PySem.W.findIn K (.ref C) f = some none) (h : ∀ d, H d = none → Q (.ref C) (some d) (upd H d (.xd [(f, y)]))) :
    [y].length ≤ 1000 ∧ ∀ a, H a = none → spX1 K C f (.ref a :: ([y] ++ [])) (upd H a (exo a C none)) (fun v H2 => v = .non ∧ ∃ (d : Addr) (fs : List (Str × V)), H2 a = some (exo a C (some d)) ∧ H2 d = some (exd d fs) ∧ H d = none ∧ Q (.ref C) (some d) (upd (L2.del H2 a) d (.xd fs))) (fun _ _ _ => False) := by
  refine ⟨by show 1 ≤ 1000; decide, fun a hn => ⟨a, y, rfl, T, hno, upd_same, fun dx hd ne => ⟨rfl, dx, _, upd_same, by rw [upd_ne ne, upd_same], ?_, ?_⟩⟩⟩
  · rw [upd_ne ne] at hd
    exact hd
  · rw [exo_end hn ne]
    rw [upd_ne ne] at hd
    exact h dx hd
theorem made2 {K : PySem.W.Frag} {C : Addr} {f g : Str} {y z : V} {H : Hp} {Q : XK} (T : OexC K C) (hf : PySem.W.findIn K (.ref C) f = some none) (hg : PySem.W.findIn K (.ref C) g = some none) (h : ∀ d, H d = none → Q (.ref C) (some d) (upd H d (.xd [(g, z), (f, y)]))) :
    [y, z].length ≤ 1000 ∧ ∀ a, H a = none → spX2 K C f g (.ref a :: ([y, z] ++ [])) (upd H a (exo a C none)) (fun v H2 => v = .non ∧ ∃ (d : Addr) (fs : List (Str × V)), H2 a = some (exo a C (some d)) ∧ H2 d = some (exd d fs) ∧ H d = none ∧ Q (.ref C) (some d) (upd (L2.del H2 a) d (.xd fs))) (fun _ _ _ => False) := by
  refine ⟨by show 2 ≤ 1000; decide, fun a hn => ⟨a, y, z, rfl, T, hf, hg, upd_same, fun dx hd ne => ⟨rfl, dx, _, by rw [upd_ne (Ne.symm ne), upd_same], upd_same, ?_, ?_⟩⟩⟩
  · rw [upd_ne ne] at hd
    exact hd
  · rw [exo_end2 hn ne]
    rw [upd_ne ne] at hd
    exact h dx hd

/-! ### fields -/
theorem putF_app : ∀ {fs : List (Str × V)} {f : Str} {v : V} {ks : List Str}, fs.map (·.1) = ks → ks.all (fun k => !decide (k = f)) = true → putF f v fs = fs ++ [(f, v)]
  | [], f, v, ks, _, _ => rfl
  | (g, x) :: r, f, v, ks, e, h => by
    subst e
    rw [List.map_cons, List.all_cons] at h
    obtain ⟨h1, h2⟩ := Bool.and_eq_true_iff.mp h
    have ne : ¬ g = f := fun z => by
      have h3 : (!decide (g = f)) = true := h1
      rw [decide_eq_true z] at h3
      cases h3
    show (if g = f then (g, v) :: r else (g, x) :: putF f v r) = (g, x) :: (r ++ [(f, v)])
    rw [if_neg ne, putF_app rfl h2]
theorem fld_at : ∀ {fs : List (Str × V)} {f : Str} {v : V} {ks : List Str} (i : Nat), fs.map (·.1) = ks → fs[i]? = some (f, v) → (ks.take i).all (fun k => !decide (k = f)) = true → fs.lookup f = some v
  | [], f, v, ks, i, _, e, _ => by cases i <;> cases e
  | (g, x) :: r, f, v, ks, 0, _, e, _ => by
    have e1 : (g, x) = (f, v) := Option.some.inj e
    cases e1
    show (match g == g with | true => some x | false => r.lookup g) = some x
    rw [beq_self_eq_true]
  | (g, x) :: r, f, v, ks, i + 1, hk, e, h => by
    subst hk
    rw [List.map_cons, List.take_succ_cons, List.all_cons] at h
    obtain ⟨h1, h2⟩ := Bool.and_eq_true_iff.mp h
    have ne : ¬ f = g := fun z => by
      have h3 : (!decide (g = f)) = true := h1
      rw [decide_eq_true z.symm] at h3
      cases h3
    show (match f == g with | true => some x | false => r.lookup f) = some v
    rw [beq_eq_false_iff_ne.mpr ne]
    exact fld_at i rfl e h2
theorem fld_no : ∀ {fs : List (Str × V)} {f : Str} {ks : List Str}, fs.map (·.1) = ks → ks.all (fun k => !decide (k = f)) = true → fs.lookup f = none
  | [], f, ks, _, _ => rfl
  | (g, x) :: r, f, ks, e, h => by
    subst e
    rw [List.map_cons, List.all_cons] at h
    obtain ⟨h1, h2⟩ := Bool.and_eq_true_iff.mp h
    have ne : ¬ f = g := fun z => by
      have h3 : (!decide (g = f)) = true := h1
      rw [decide_eq_true z.symm] at h3
      cases h3
    show (match f == g with | true => some x | false => r.lookup f) = none
    rw [beq_eq_false_iff_ne.mpr ne]
    exact fld_no rfl h2

/-! ### the rules by the written part's own name -/
def rLn (K : PySem.W.Frag) : List V → Hp → VK → Prop := fun xs H Q => ∃ p ys, xs = [.ref p] ∧ (SqL K H p ys ∨ SqT K H p ys) ∧ Q (.int ys.length) H
def rLs (K : PySem.W.Frag) : List V → Hp → VK → Prop := fun xs H Q => ∃ p ys, xs = [.ref p] ∧ (SqL K H p ys ∨ SqT K H p ys) ∧ ∀ l, H l = none → Q (.ref l) (upd H l (.lst ys))
def tTr (K : PySem.W.Frag) (ta : TE) : TT := fun σ H Q => ta σ H fun x H' => ∃ k, TruV K x H' k ∧ Q k H'
section
variable {X : Cx} (K : PySem.W.Frag)
theorem ixL (h : X.K = K) : IxR X (rIxL K) := h ▸ ix_list
theorem ixT (h : X.K = K) : IxR X (rIxT K) := h ▸ ix_tup
theorem ixS (h : X.K = K) : IxR X (rIx K) := h ▸ ix_seq
theorem slL (h : X.K = K) : SlR X (rSlL K) := h ▸ sl_list
theorem slT (h : X.K = K) : SlR X (rSlT K) := h ▸ sl_tup
theorem cLen (h : X.K = K) : CallR X (.builtin "len") (rLn K) := h ▸ call_len_seq
theorem cList (h : X.K = K) : CallR X (.type "list") (rLs K) := h ▸ call_list_of
theorem cSum (h : X.K = K) (hc : X.calm = true) : CallR X (.builtin "sum") (rSum K) := h ▸ cr_sum hc
theorem cMax (h : X.K = K) (hc : X.calm = true) : CallR X (.builtin "max") (rMax K) := h ▸ cr_max hc
theorem cMin (h : X.K = K) (hc : X.calm = true) : CallR X (.builtin "min") (rMin K) := h ▸ cr_min hc
theorem cAny (h : X.K = K) (hc : X.calm = true) : CallR X (.builtin "any") (rAny K) := h ▸ cr_any hc
theorem cAll (h : X.K = K) (hc : X.calm = true) : CallR X (.builtin "all") (rAll K) := h ▸ cr_all hc
theorem cIsi (h : X.K = K) : CallR X (.builtin "isinstance") (rIsi K) := h ▸ call_isi
theorem cSorted (h : X.K = K) : CallR X (.builtin "sorted") (rSortedI K) := h ▸ cr_sortedI
theorem oIn (h : X.K = K) : OpR X (compareOp .In) (rIn K false) := h ▸ op_in_seq
theorem oNotIn (h : X.K = K) : OpR X (compareOp .NotIn) (rIn K true) := h ▸ op_notIn_seq
theorem oEqD (h : X.K = K) (hu : X.A.units + 64 < cLine) : OpR X (compareOp .Eq) (rEqD K) := h ▸ op_eqD hu
theorem oNeD (h : X.K = K) (hu : X.A.units + 64 < cLine) : OpR X (compareOp .NotEq) (rNeD K) := h ▸ op_neD hu
theorem eFld (h : X.K = K) {e : Expr} {f : Str} {pos : Pos} {ta : TE} (he : PE X e ta) (hb : attributeBase e f X.env (eval e X.env) = eval e X.env := by rfl) : PE X (.Attribute e f pos) (tFld K ta f) := h ▸ pe_fld he hb
theorem tTruth (h : X.K = K) {a : Expr} {ta : TE} (ha : PE X a ta) (he : ∀ whole, isTrue a X.env whole = (do let v ← whole; standAt a.pos; holding [v] (truthy v)) := by intro _; rfl) : PT X a (tTr K ta) := h ▸ pt_truth ha he
theorem iLst (h : X.K = K) {tg l : Expr} {tl : TE} (hl : PE X l tl) : PI X tg l (iList K tl) := h ▸ pi_list hl
theorem iTpl (h : X.K = K) {tg l : Expr} {tl : TE} (hl : PE X l tl) : PI X tg l (iTup K tl) := h ▸ pi_tup hl
theorem iEnu (h : X.K = K) {e : Expr} {ta : TA} {p pos tpos : Pos} {elts : List Expr} {kk : Nat} (hg : Gl X "enumerate") (hm : X.mg "enumerate" = none) (ha : PA X [e] ta) (hs : starEach [e] X.env = [(false, eval e X.env)] := by rfl) :
    PI X (.Tuple elts kk tpos) (.Call (.Name "enumerate" p) [e] [] pos) (iEnum K ta) := h ▸ pi_enum hg hm ha hs
theorem iRvs (h : X.K = K) {tg e : Expr} {ta : TA} {p pos : Pos} (hg : Gl X "reversed") (hm : X.mg "reversed" = none) (ha : PA X [e] ta) (hs : starEach [e] X.env = [(false, eval e X.env)] := by rfl) :
    PI X tg (.Call (.Name "reversed" p) [e] [] pos) (iRev K ta) := h ▸ pi_reversed hg hm ha hs
theorem iZp (h : X.K = K) {e e2 : Expr} {ta : TA} {p pos tpos : Pos} {elts : List Expr} {kk : Nat} (hg : Gl X "zip") (hm : X.mg "zip" = none) (ha : PA X [e, e2] ta)
    (hs : starEach [e, e2] X.env = (false, eval e X.env) :: starEach [e2] X.env := by rfl) (hpl : (backTo pos (starEach [e2] X.env)).any (·.1) = false := by rfl) : PI X (.Tuple elts kk tpos) (.Call (.Name "zip" p) [e, e2] [] pos) (iZip K ta) := h ▸ pi_zip hg hm ha hs hpl
theorem sFd (h : X.K = K) {o value : Expr} {f : Str} {pos pos' : Pos} {ta tv : TE} (ha : PE X o ta) (hv : PE X value tv) (hs : swapsWith value (some (.Attribute o f pos')) pos.line X.env = pure false) : PS X (.Assign [.Attribute o f pos'] value pos) (sFld K ta tv f) := h ▸ ps_fld ha hv hs
theorem sFdAug (h : X.K = K) {o value : Expr} {f : Str} {pos tpos : Pos} {ta tv : TE} {op : Operator} {rd : V → V → Hp → VK → Prop} (hop : InOp X op rd) (ha : PE X o ta) (hv : PE X value tv) : PS X (.AugAssign (.Attribute o f tpos) op value pos) (sFldAug K ta tv rd f) := h ▸ ps_fldaug ha hv hop
theorem eBm (h : X.K = K) {T id : String} {name : Str} {o e : Expr} {es : List Expr} {to : TE} {t : TA} {r : V → List V → Hp → VK → Prop} {apos cpos : Pos} (pa : PlainAttrs T) (slot : Slot T name id) (hty : typeOf (.builtin id) = pure (.type "method_descriptor")) (hm : MtR X id r) (ho : PE X o to) (ha : PA X (e :: es) t)
    (hbase : attributeBase o name X.env (eval o X.env) = eval o X.env := by rfl)
    (hfew : ((backTo cpos (starEach (e :: es) X.env)).all (fun x => !x.1) && (backToKw cpos (keywordEach [] X.env)).all (fun x => x.1.isSome) && decide ((e :: es).length + ([] : List Keyword).length + (if ([] : List Keyword).isEmpty then 0 else 1) < 30)) = true := by rfl)
    (hline : (apos.endLine == cpos.line) = true := by rfl) (hs : starEach (e :: es) X.env = (false, eval e X.env) :: starEach es X.env := by rfl) (hplain : (backTo cpos (starEach es X.env)).any (·.1) = false := by rfl) :
    PE X (.Call (.Attribute o name apos) (e :: es) [] cpos) (tBM K T r to t) := h ▸ pe_bm pa slot hty hm ho ha hbase hfew hline hs hplain
theorem eBm0 (h : X.K = K) {T id : String} {name : Str} {o : Expr} {to : TE} {r : V → List V → Hp → VK → Prop} {apos cpos : Pos} (pa : PlainAttrs T) (slot : Slot T name id) (hty : typeOf (.builtin id) = pure (.type "method_descriptor")) (hm : MtR X id r) (ho : PE X o to)
    (hbase : attributeBase o name X.env (eval o X.env) = eval o X.env := by rfl) (hline : (apos.endLine == cpos.line) = true := by rfl) : PE X (.Call (.Attribute o name apos) [] [] cpos) (tBM0 K T r to) := h ▸ pe_bm0 pa slot hty hm ho hbase hline
end

/-! ### readings that leave the heap as it is -/
def ValA (ta : TA) (σ : L2.St) (H : Hp) (vs : List V) : Prop := ∀ Q : List V → Hp → Prop, Q vs H → ta σ H Q
section
variable {K : PySem.W.Frag} {σ : L2.St} {H : Hp} {ta tb te : TE} {x y v : V} {p : Addr} {xs : List V}
theorem va_nil : ValA tNil σ H [] := fun _ q => q
theorem va_cons {tr : TA} {vs : List V} (h : Val ta σ H x) (hr : ValA tr σ H vs) : ValA (tCons ta tr) σ H (x :: vs) := fun _ q => h _ (hr _ q)
theorem va_one (h : Val ta σ H x) : ValA (tCons ta tNil) σ H [x] := va_cons h va_nil
theorem va_two (h : Val ta σ H x) (h' : Val tb σ H y) : ValA (tCons ta (tCons tb tNil)) σ H [x, y] := va_cons h (va_one h')
theorem val_cb {r : List V → Hp → VK → Prop} {tl : TA} {vs : List V} (h : ValA tl σ H vs) (hr : ∀ Q : VK, Q v H → r vs H Q) : Val (tCB r tl) σ H v := fun Q q => h _ (hr Q q)
theorem val_isi {t n : String} {b : Bool} (h : Val ta σ H x) (ty : TyX K H x (.type t)) (e : kitB t n = some b) : Val (tCB (rIsi K) (tCons ta (tCons (tC (.ty n)) tNil))) σ H (.bl b) :=
  val_cb (va_two h val_c) fun _ q => ⟨x, .ty n, .type t, .type n, b, rfl, .ty n, ty, kit_ty e, q⟩
theorem val_lenL (h : Val ta σ H (.ref p)) (hs : SqL K H p xs) : Val (tCB (rLn K) (tCons ta tNil)) σ H (.int (xs.length : Int)) :=
  val_cb (va_one h) fun _ q => ⟨p, xs, rfl, .inl hs, q⟩
theorem val_lenT (h : Val ta σ H (.ref p)) (hs : SqT K H p xs) : Val (tCB (rLn K) (tCons ta tNil)) σ H (.int (xs.length : Int)) :=
  val_cb (va_one h) fun _ q => ⟨p, xs, rfl, .inr hs, q⟩
theorem val_ixL {i : Int} (h : Val ta σ H (.ref p)) (hi : Val tb σ H (.int i)) (hs : SqL K H p xs) (e : atI xs i = some v) : Val (tOp (rIxL K) ta tb) σ H v := val_op h hi fun _ q => ⟨p, xs, i, v, rfl, rfl, hs, e, q⟩
theorem val_ixT {i : Int} (h : Val ta σ H (.ref p)) (hi : Val tb σ H (.int i)) (hs : SqT K H p xs) (e : atI xs i = some v) : Val (tOp (rIxT K) ta tb) σ H v := val_op h hi fun _ q => ⟨p, xs, i, v, rfl, rfl, hs, e, q⟩
theorem val_ixSL {i : Int} (h : Val ta σ H (.ref p)) (hi : Val tb σ H (.int i)) (hs : SqL K H p xs) (e : atI xs i = some v) : Val (tOp (rIx K) ta tb) σ H v := val_op h hi fun _ q => .inl ⟨p, xs, i, v, rfl, rfl, hs, e, q⟩
theorem val_ixST {i : Int} (h : Val ta σ H (.ref p)) (hi : Val tb σ H (.int i)) (hs : SqT K H p xs) (e : atI xs i = some v) : Val (tOp (rIx K) ta tb) σ H v := val_op h hi fun _ q => .inr (.inl ⟨p, xs, i, v, rfl, rfl, hs, e, q⟩)
theorem val_I {g : Int → Int → V} {i j : Int} (h : Val ta σ H (.int i)) (h' : Val tb σ H (.int j)) : Val (tOp (rI0 g) ta tb) σ H (g i j) := val_op h h' fun _ q => ⟨i, j, rfl, rfl, q⟩
theorem val_IC {C : Int → Int → Prop} {g : Int → Int → V} {i j : Int} (h : Val ta σ H (.int i)) (h' : Val tb σ H (.int j)) (c : C i j) : Val (tOp (rI C g) ta tb) σ H (g i j) := val_op h h' fun _ q => ⟨i, j, rfl, rfl, c, q⟩
theorem val_eq (h : Val ta σ H x) (h' : Val tb σ H y) (s : scal x y = true) : Val (tOp rEq ta tb) σ H (.bl (decide (x = y))) := val_op h h' fun _ q => ⟨s, q⟩
theorem val_ne (h : Val ta σ H x) (h' : Val tb σ H y) (s : scal x y = true) : Val (tOp rNe ta tb) σ H (.bl (!decide (x = y))) := val_op h h' fun _ q => ⟨s, q⟩
theorem val_is {w : V} (h : Val ta σ H v) (e : v = w) : Val ta σ H w := e ▸ h
theorem val_and {a b : Bool} (h : Val ta σ H (.bl a)) (h' : a = true → Val tb σ H (.bl b)) : Val (tAndV ta tb) σ H (.bl (a && b)) := fun Q q => h _ ⟨a, rfl, by
  cases a with
  | true => exact iteT (h' rfl Q q)
  | false => exact iteF q⟩
theorem val_or {a b : Bool} (h : Val ta σ H (.bl a)) (h' : a = false → Val tb σ H (.bl b)) : Val (tOrV ta tb) σ H (.bl (a || b)) := fun Q q => h _ ⟨a, rfl, by
  cases a with
  | true => exact iteT q
  | false => exact iteF (h' rfl Q q)⟩
theorem val_not {a : Bool} (h : Val ta σ H (.bl a)) : Val (tNotV ta) σ H (.bl (!a)) := fun Q q => h _ ⟨a, rfl, q⟩
theorem val_if {t : TT} {b : Bool} (h : Ans t σ H b) (h1 : b = true → Val ta σ H v) (h2 : b = false → Val tb σ H v) : Val (tIf t ta tb) σ H v := fun Q q => h _ (by
  cases b with
  | true => exact iteT (h1 rfl Q q)
  | false => exact iteF (h2 rfl Q q))
theorem val_isN (h : Val ta σ H x) : Val (tOp rIsN ta (tC .non)) σ H (.bl (decide (x = .non))) := val_op h val_c fun _ q => ⟨rfl, q⟩
theorem ans_is {t : TT} {a b : Bool} (h : Ans t σ H a) (e : a = b) : Ans t σ H b := e ▸ h
theorem ans_v {b : Bool} (h : Val te σ H (.bl b)) : Ans (tTest te) σ H b := fun _ q => h _ ⟨b, rfl, q⟩
theorem ans_or2 {t u : TT} {a b : Bool} (h : Ans t σ H a) (h' : a = false → Ans u σ H b) : Ans (tOr t u) σ H (a || b) := by
  cases a with
  | true => exact ans_or1 h
  | false => exact ans_or h (h' rfl)
theorem ans_and3 {t u : TT} {a b : Bool} (h : Ans t σ H a) (h' : a = true → Ans u σ H b) : Ans (tAnd t u) σ H (a && b) := by
  cases a with
  | true => exact ans_and h (h' rfl)
  | false => exact ans_and0 h
/-- a call whose promise leaves the heap -/
theorem val_call {sp : Sp} {dvs vs : List V} {E : XK} {tl : TA} (h : ValA tl σ H vs) (hs : ∀ Q : VK, Q v H → sp (vs ++ dvs) H Q E) : Val (tCall sp dvs E tl) σ H v := fun Q q => h _ (hs Q q)
theorem val_ev (h : Val te σ H v) : ∀ Q : VK, Q v H → te σ H Q := h
/-- x in a written pair of ints -/
theorem val_chain {tc : TE} {g g' : Int → Int → Bool} {a b c : Int} (h1 : Val ta σ H (.int a)) (h2 : Val tb σ H (.int b)) (h3 : Val tc σ H (.int c)) : Val (tChain (rI0 fun i j => .bl (g i j)) (rI0 fun i j => .bl (g' i j)) ta tb tc) σ H (.bl (g a b && g' b c)) := fun Q q => by
  refine h1 _ (h2 _ ⟨a, b, rfl, rfl, g a b, rfl, ?_⟩)
  cases e : g a b with
  | true => exact iteT (h3 _ ⟨b, c, rfl, rfl, by rw [e] at q; exact q⟩)
  | false => exact iteF (by rw [e] at q; exact q)
theorem go_asg {D : Ends} {g : TG} (h : te σ H fun x H1 => g x σ H1 D.nx) : tAsg te g D σ H := h
theorem go_ret {D : Ends} (h : te σ H D.rt) : tRet te D σ H := h
theorem go_drop {D : Ends} (h : te σ H fun _ H1 => D.nx σ H1) : tDrop te D σ H := h
/-- raise C(e), C of one field -/
theorem st_raise1 {W : WX} {C : Addr} {f : Str} {y : V} (T : OexC K C) (hno : PySem.W.findIn K (.ref C) f = some none) (h : Val te σ H y) (q : ∀ d, H d = none → W (.ref C) (some d) σ (upd H d (.xd [(f, y)]))) :
    tMkO C (spX1 K C f) [] (tCons te tNil) σ H (fun cls d H' => W cls d σ H') := h _ (made1 (Q := fun cls d H' => W cls d σ H') T hno q)
theorem st_raise2 {W : WX} {C : Addr} {f g : Str} {y z : V} (T : OexC K C) (hf : PySem.W.findIn K (.ref C) f = some none) (hg : PySem.W.findIn K (.ref C) g = some none) (h : Val ta σ H y) (h' : Val tb σ H z) (q : ∀ d, H d = none → W (.ref C) (some d) σ (upd H d (.xd [(g, z), (f, y)]))) :
    tMkO C (spX2 K C f g) [] (tCons ta (tCons tb tNil)) σ H (fun cls d H' => W cls d σ H') := h _ (h' _ (made2 (Q := fun cls d H' => W cls d σ H') T hf hg q))
theorem val_un {r : V → Hp → VK → Prop} {z : V} (h : Val ta σ H x) (hr : ∀ Q : VK, Q z H → r x H Q) : Val (tUn r ta) σ H z := fun Q q => h _ (hr Q q)
theorem val_neg {i : Int} (h : Val ta σ H (.int i)) : Val (tUn (rU fun i => .int (-i)) ta) σ H (.int (-i)) := val_un h fun _ q => ⟨i, rfl, q⟩
theorem st_app {D : Ends} {l : Addr} (hl : H l = some (.lst xs)) (ha : Val ta σ H (.ref l)) (h : Val te σ H v) (hz : xs.length < sizeLine) (k : D.nx σ (upd H l (.lst (xs ++ [v])))) : tDrop (tBM K "list" rAppend ta (tCons te tNil)) D σ H :=
  ha _ ⟨Or.inl ⟨rfl, xs, Evl.sq_of hl⟩, h _ ⟨l, xs, v, rfl, rfl, hl, hz, k⟩⟩
theorem st_if {c : TT} {t u : TS} {D : Ends} {b : Bool} (h : Ans c σ H b) (h1 : b = true → t D σ H) (h2 : b = false → u D σ H) : tIfS c t u D σ H := by
  cases b with
  | true => exact st_yes h (h1 rfl)
  | false => exact st_no h (h2 rfl)
theorem st_forR {D : Ends} {tl : TA} {t : TS} {j n : Nat} (h : ValA tl σ H [.int (n : Int)]) (hn : n < 2 ^ 62) (Pv : Nat → L2.St → Hp → Prop) (h0 : Pv 0 σ H)
    (hs : ∀ i σ' H', i < n → Pv i σ' H' → t { D with nx := Pv (i + 1), ct := Pv (i + 1), bk := D.nx } (σ'.set j (some (.int (i : Int)))) H') (hd : ∀ σ' H', Pv n σ' H' → D.nx σ' H') : tFor (iRng1 tl) (gName j) t D σ H :=
  h _ ⟨(n : Int), rfl, by omega, by omega, for_range (lo := 0) (n := n) Pv h0 (fun i σ' H' hi p => by
    show t _ (σ'.set j (some (.int (0 + (i : Int))))) H'
    rw [Int.zero_add]
    exact hs i σ' H' hi p) hd⟩
theorem st_forL {D : Ends} {tl : TE} {t : TS} {j : Nat} (h : Val tl σ H (.ref p)) (hx : SqL K H p xs) (Pv : Nat → L2.St → Hp → Prop) (h0 : Pv 0 σ H) (hl : ∀ i σ' H', i ≤ xs.length → Pv i σ' H' → SqL K H' p xs)
    (hs : ∀ i x σ' H', xs[i]? = some x → Pv i σ' H' → t { D with nx := Pv (i + 1), ct := Pv (i + 1), bk := D.nx } (σ'.set j (some x)) H') (hd : ∀ σ' H', Pv xs.length σ' H' → D.nx σ' H') : tFor (iList K tl) (gName j) t D σ H :=
  h _ ⟨p, rfl, ⟨xs, hx⟩, for_list Pv h0 hl hs hd⟩
end

/-! ### readings that may make new things -/
section
open Evl
variable {K : PySem.W.Frag} {σ : L2.St} {H : Hp} {ta tb te : TE} {x y v : V} {p : Addr} {xs ys : List V}
theorem ev_val (h : ∀ H1, Ex H H1 → Val te σ H1 v) : Ev te σ H v := fun H1 e Q q => h H1 e Q (q H1 (Ex.refl _))
theorem et_ans {t : TT} {b : Bool} (h : ∀ H1, Ex H H1 → Ans t σ H1 b) : EvT t σ H b := fun H1 e Q q => h H1 e Q (q H1 (Ex.refl _))
theorem ev_meth {C a : Addr} {m : Str} {sp : Sp} {dvs vs : List V} {E : XK} {tl : TA} {dx : Addr} {fs : List (Str × V)} (h : Ev ta σ H (.ref a)) (ho : H a = some (.ins C dx fs)) (hn : fs.lookup m = none) (hv : EvA tl σ H vs)
    (hs : SpV sp (.ref a :: (vs ++ dvs)) H v) : Ev (tMeth C m sp dvs E ta tl) σ H v := fun H1 e Q q => h H1 e _ fun H2 e2 => ⟨a, dx, fs, rfl, e2 _ _ (e _ _ ho), hn, hv H2 (e.trans e2) _ fun H3 e3 => hs H3 ((e.trans e2).trans e3) Q (fun H4 e4 => q H4 ((e2.trans e3).trans e4)) E⟩
theorem el_meth {C a : Addr} {m : Str} {sp : Sp} {dvs vs : List V} {E : XK} {tl : TA} {dx : Addr} {fs : List (Str × V)} (h : Ev ta σ H (.ref a)) (ho : H a = some (.ins C dx fs)) (hn : fs.lookup m = none) (hv : EvA tl σ H vs)
    (hs : SpL sp (.ref a :: (vs ++ dvs)) H xs) : EvL (tMeth C m sp dvs E ta tl) σ H xs := fun H1 e Q q => h H1 e _ fun H2 e2 => ⟨a, dx, fs, rfl, e2 _ _ (e _ _ ho), hn, hv H2 (e.trans e2) _ fun H3 e3 => hs H3 ((e.trans e2).trans e3) Q (fun p H4 hp e4 h4 => q p H4 (fresh_back (e2.trans e3) hp) ((e2.trans e3).trans e4) h4) E⟩
/-- a call one of whose arguments is a new list: the value by what the list holds -/
theorem ev_callL {sp : Sp} {dvs : List V} {E : XK} {tr : TA} {vs : List V} (h : EvL te σ H xs) (hr : EvA tr σ H vs) (hs : ∀ p H1, H1 p = some (.lst xs) → Ex H H1 → SpV sp (.ref p :: (vs ++ dvs)) H1 v) : Ev (tCall sp dvs E (tCons te tr)) σ H v := fun H1 e Q q =>
  h H1 e _ fun p H2 _ e2 h2 => hr H2 (e.trans e2) _ fun H3 e3 => hs p H3 (e3 _ _ h2) ((e.trans e2).trans e3) H3 (Ex.refl _) Q (fun H4 e4 => q H4 ((e2.trans e3).trans e4)) E
/-- a built-in of a new list -/
theorem ev_cbL {r : List V → Hp → VK → Prop} (h : EvL te σ H xs) (hs : ∀ p H1, H1 p = some (.lst xs) → Ex H H1 → RC r [.ref p] H1 v) : Ev (tCB r (tCons te tNil)) σ H v := fun H1 e Q q =>
  h H1 e _ fun p H2 _ e2 h2 => hs p H2 h2 (e.trans e2) H2 (Ex.refl _) Q (fun H3 e3 => q H3 (e2.trans e3))
theorem rc_of {r : List V → Hp → VK → Prop} {vs : List V} (h : ∀ H1, Ex H H1 → ∀ Q : VK, Q v H1 → r vs H1 Q) : RC r vs H v := fun H1 e Q q => h H1 e Q (q H1 (Ex.refl _))
theorem ev_sum {ns : List Int} (h : EvL te σ H (ns.map V.int)) : Ev (tCB (rSum K) (tCons te tNil)) σ H (.int ns.sum) := ev_cbL h fun p H1 h1 _ => rc_of fun H2 e _ q => ⟨p, ns, rfl, ex_l e (sq_of h1), q⟩
theorem ev_sumV {ns : List Int} (h : Ev te σ H (.ref p)) (hs : SqL K H p (ns.map V.int)) : Ev (tCB (rSum K) (tCons te tNil)) σ H (.int ns.sum) := fun H1 e Q q =>
  h H1 e _ fun H2 e2 => ⟨p, ns, rfl, ex_l (e.trans e2) hs, q H2 e2⟩
theorem ev_lenV (h : Ev te σ H (.ref p)) (hs : SqL K H p xs) : Ev (tCB (rLn K) (tCons te tNil)) σ H (.int (xs.length : Int)) := fun H1 e Q q =>
  h H1 e _ fun H2 e2 => ⟨p, xs, rfl, .inl (ex_l (e.trans e2) hs), q H2 e2⟩
theorem ev_fld {C dx a : Addr} {fs : List (Str × V)} {f : Str} (h : Ev ta σ H (.ref a)) (ho : H a = some (.ins C dx fs)) (hc : Cls K C) (hn : NoAttr K C f) (hl : fs.lookup f = some v) : Ev (tFld K ta f) σ H v := fun H1 e Q q =>
  h H1 e _ fun H2 e2 => ⟨a, C, dx, fs, v, rfl, e2 _ _ (e _ _ ho), hc, hn, hl, q H2 e2⟩
/-- xs + ys, both new -/
theorem el_cat (h : EvL ta σ H xs) (h' : EvL tb σ H ys) (hz : xs.length + ys.length ≤ 100000) : EvL (tOp rCat ta tb) σ H (xs ++ ys) := fun H1 e Q q =>
  h H1 e _ fun p H2 _ e2 h2 => h' H2 (e.trans e2) _ fun r H3 _ e3 h3 => ⟨p, r, xs, ys, rfl, rfl, e3 _ _ h2, h3, sz_of hz, fun u hu => q u _ (fresh_back (e2.trans e3) hu) ((e2.trans e3).trans (Ex.new hu)) upd_same⟩
theorem el_lst0 : EvL (tLst tNil) σ H [] := el_lst ea_nil (by decide)
/-- an item of a new list -/
theorem ev_ixN {i : Int} (h : EvL ta σ H xs) (hi : ∀ H1, Ex H H1 → Ev tb σ H1 (.int i)) (e : atI xs i = some v) : Ev (tOp (rIxL K) ta tb) σ H v := ev_opL1 h hi fun p H1 h1 _ => rv_ixL (sq_of h1) e
end

/-! ### slices -/
theorem cut_to {xs : List V} {j : Nat} (h : j ≤ xs.length) : cutV xs none (some (j : Int)) = xs.take j := by
  show (xs.drop (HT.sIx xs.length 0 none)).take (HT.sIx xs.length xs.length (some (j : Int)) - HT.sIx xs.length 0 none) = _
  rw [HT.sIx_none, HT.sIx_nat, Nat.min_eq_left h]
  rfl
theorem cut_from {xs : List V} {j : Nat} (h : j ≤ xs.length) : cutV xs (some (j : Int)) none = xs.drop j := by
  show (xs.drop (HT.sIx xs.length 0 (some (j : Int)))).take (HT.sIx xs.length xs.length none - HT.sIx xs.length 0 (some (j : Int))) = _
  rw [HT.sIx_none, HT.sIx_nat, Nat.min_eq_left h]
  exact List.take_of_length_le (by rw [List.length_drop]; omega)
theorem cut_in {xs : List V} {i j : Nat} (hi : i ≤ xs.length) (h : j ≤ xs.length) : cutV xs (some (i : Int)) (some (j : Int)) = (xs.drop i).take (j - i) := by
  show (xs.drop (HT.sIx xs.length 0 (some (i : Int)))).take (HT.sIx xs.length xs.length (some (j : Int)) - HT.sIx xs.length 0 (some (i : Int))) = _
  rw [HT.sIx_nat, HT.sIx_nat, Nat.min_eq_left h, Nat.min_eq_left hi]
/-! ### a op1 b op2 c op3 d -/
section
open PyProof PyProof.Rows
variable {X : Cx} {a b c d : Expr} {pos : Pos} {ta tb tc td : TE}
def tChain3 (r r' r2 : R2) (ta tb tc td : TE) : TE := fun σ H Q => ta σ H fun x H1 => tb σ H1 fun y H2 => r x y H2 fun z H3 => ∃ k, z = .bl k ∧
  (if k = true then tc σ H3 fun w' H4 => r' y w' H4 fun z2 H5 => ∃ k2, z2 = .bl k2 ∧ (if k2 = true then td σ H5 fun u H6 => r2 w' u H6 Q else Q (.bl false) H5) else Q (.bl false) H3)
theorem pt_chain3 {op op' op2 : CmpOp} {r r' r2 : R2} (ho : OpR X (compareOp op) r) (ho' : OpR X (compareOp op') r') (ho2 : OpR X (compareOp op2) r2) (ha : PE X a ta) (hb : PE X b tb) (hc : PE X c tc) (hd : PE X d td)
    (hm : lastMarks [op, op', op2] [b, c, d] = false := by with_unfolding_all rfl) : PT X (.Compare a [op, op', op2] [b, c, d] pos) (tTest (tChain3 r r' r2 ta tb tc td)) := by
  refine ⟨fun pins s σ H Q I h => ?_⟩
  refine isTrue_chain (thn (ha.run pins s σ H _ I h) fun v s1 ⟨x, H1, I1, r1, q1⟩ => test_link (thn (hb.run pins s1 σ H1 _ I1 q1) fun u s2 ⟨y, H2, I2, r2, q2⟩ =>
    thn (ho pins s2 σ H2 x y v u _ I2 r1 r2 q2) fun d s3 ⟨z, H3, I3, r3, k, e, q3⟩ => ?_)) hm
  subst e
  cases r3
  refine wpAny_truthy_bool ?_
  cases k with
  | false =>
    obtain ⟨k', e', q'⟩ := q3
    cases e'
    exact ite_ff ⟨H3, I3, q'⟩
  | true =>
    refine ite_tt (test_link (thn (hc.run pins s3 σ H3 _ I3 q3) fun w' s4 ⟨z', H4, I4, r4, q4⟩ => thn (ho' pins s4 σ H4 y z' u w' _ I4 r2 r4 q4) fun d' s5 ⟨z2, H5, I5, r5, k2, e2, q5⟩ => ?_))
    subst e2
    cases r5
    refine wpAny_truthy_bool ?_
    cases k2 with
    | false =>
      obtain ⟨k', e', q'⟩ := q5
      cases e'
      exact ite_ff ⟨H5, I5, q'⟩
    | true =>
      refine ite_tt (test_last (thn (hd.run pins s5 σ H5 _ I5 q5) fun w2 s6 ⟨z3, H6, I6, r6, q6⟩ => thn (ho2 pins s6 σ H6 z' z3 w' w2 _ I6 r4 r6 q6) fun d2 s7 ⟨z4, H7, I7, r7, k3, e3, q7⟩ => ?_))
      subst e3
      cases r7
      exact wpAny_truthy_bool ⟨H7, I7, q7⟩
theorem val_chain3 {σ : L2.St} {H : Hp} {g g' g2 : Int → Int → Bool} {a b c d : Int} (h1 : Val ta σ H (.int a)) (h2 : Val tb σ H (.int b)) (h3 : Val tc σ H (.int c)) (h4 : Val td σ H (.int d)) :
    Val (tChain3 (rI0 fun i j => .bl (g i j)) (rI0 fun i j => .bl (g' i j)) (rI0 fun i j => .bl (g2 i j)) ta tb tc td) σ H (.bl (g a b && (g' b c && g2 c d))) := fun Q q => by
  refine h1 _ (h2 _ ⟨a, b, rfl, rfl, g a b, rfl, ?_⟩)
  cases e : g a b with
  | true =>
    refine iteT (h3 _ ⟨b, c, rfl, rfl, g' b c, rfl, ?_⟩)
    cases e2 : g' b c with
    | true => exact iteT (h4 _ ⟨c, d, rfl, rfl, by rw [e, e2] at q; exact q⟩)
    | false => exact iteF (by rw [e, e2] at q; exact q)
  | false => exact iteF (by rw [e] at q; exact q)
end

/-! ### a dict of ints under ints -/
def tk (ks : List Int) (c : Int → Int) : List (Key × V) := ks.map fun s => ((Sum.inl s : Key), V.int (c s))
theorem tk_keys (ks : List Int) (c : Int → Int) : (tk ks c).map (·.1) = ks.map Sum.inl := by
  unfold tk
  rw [List.map_map] <;> rfl
theorem tk_len (ks : List Int) (c : Int → Int) : (tk ks c).length = ks.length := by unfold tk; rw [List.length_map]
theorem tk_val (ks : List Int) (c : Int → Int) (u : Int) : valV (tk ks c) (.inl u) = if u ∈ ks then some (.int (c u)) else none := by
  induction ks with
  | nil => rfl
  | cons s r ih =>
    unfold tk valV at ih ⊢
    rw [List.map_cons, List.find?_cons]
    by_cases h : s = u
    · subst h
      rw [decide_eq_true rfl, if_pos (List.mem_cons_self ..)]
      rfl
    · rw [decide_eq_false (fun q => h (Sum.inl.inj q))]
      show Option.map _ (List.find? _ (List.map _ r)) = _
      rw [ih]
      by_cases h2 : u ∈ r
      · rw [if_pos h2, if_pos (List.mem_cons_of_mem _ h2)]
      · rw [if_neg h2, if_neg (fun q => by
          rcases List.mem_cons.mp q with q | q
          · exact h q.symm
          · exact h2 q)]
theorem tk_congr {ks : List Int} {c c' : Int → Int} (h : ∀ s ∈ ks, c s = c' s) : tk ks c = tk ks c' := List.map_congr_left fun s hs => by rw [h s hs]
theorem tk_put {ks : List Int} {c c' : Int → Int} {u y : Int} (hy : c' u = y) (h : ∀ s, s ≠ u → c s = c' s) : putK (tk ks c) (.inl u) (.int y) = tk (if u ∈ ks then ks else ks ++ [u]) c' := by
  by_cases hu : u ∈ ks
  · rw [if_pos hu]
    unfold putK
    rw [valV_any, tk_val, if_pos hu, if_pos (show (some (V.int (c u))).isSome = true from rfl)]
    unfold tk
    rw [List.map_map]
    refine List.map_congr_left fun s _ => ?_
    show (if (Sum.inl s : Key) = Sum.inl u then ((Sum.inl s : Key), V.int y) else (Sum.inl s, V.int (c s))) = _
    by_cases e : s = u
    · subst e
      rw [if_pos rfl, hy]
    · rw [if_neg (fun q => e (Sum.inl.inj q)), h s e]
  · rw [if_neg hu, putK_new _ (by rw [tk_val, if_neg hu])]
    unfold tk
    rw [List.map_append, List.map_cons, List.map_nil, hy]
    congr 1
    refine List.map_congr_left fun s hs => ?_
    rw [h s (fun e => hu (e ▸ hs))]

/-! ### rows of different ints -/
theorem nodup_le : ∀ {l m : List Int}, l.Nodup → (∀ x ∈ l, x ∈ m) → l.length ≤ m.length
  | [], _, _, _ => Nat.zero_le _
  | x :: r, m, h, hs => by
    have hx := hs x (List.mem_cons_self ..)
    have h1 := List.nodup_cons.mp h
    have := nodup_le (l := r) (m := m.erase x) h1.2 fun y hy => (List.mem_erase_of_ne (fun e : y = x => h1.1 (by rw [← e]; exact hy))).mpr (hs y (List.mem_cons_of_mem _ hy))
    rw [List.length_erase_of_mem hx] at this
    have := List.length_pos_of_mem hx
    rw [List.length_cons]
    omega
theorem asc_eq : ∀ {l m : List Int}, l.Pairwise (· < ·) → m.Pairwise (· < ·) → (∀ x, x ∈ l ↔ x ∈ m) → l = m
  | [], [], _, _, _ => rfl
  | [], y :: m, _, _, h => absurd ((h y).mpr (List.mem_cons_self ..)) (by simp)
  | x :: l, [], _, _, h => absurd ((h x).mp (List.mem_cons_self ..)) (by simp)
  | x :: l, y :: m, hl, hm, h => by
    obtain ⟨hl1, hl2⟩ := List.pairwise_cons.mp hl
    obtain ⟨hm1, hm2⟩ := List.pairwise_cons.mp hm
    have e : x = y := by
      rcases List.mem_cons.mp ((h x).mp (List.mem_cons_self ..)) with e | e
      · exact e
      · rcases List.mem_cons.mp ((h y).mpr (List.mem_cons_self ..)) with e' | e'
        · exact e'.symm
        · have := hm1 x e
          have := hl1 y e'
          omega
    subst e
    rw [asc_eq hl2 hm2 fun z => ⟨fun hz => ?_, fun hz => ?_⟩]
    · rcases List.mem_cons.mp ((h z).mp (List.mem_cons_of_mem _ hz)) with e | e
      · have := hl1 z hz
        omega
      · exact e
    · rcases List.mem_cons.mp ((h z).mpr (List.mem_cons_of_mem _ hz)) with e | e
      · have := hm1 z hz
        omega
      · exact e
theorem asc_of {l : List Int} (h : l.Pairwise (· ≤ ·)) (n : l.Nodup) : l.Pairwise (· < ·) := by
  induction l with
  | nil => exact .nil
  | cons x r ih =>
    obtain ⟨h1, h2⟩ := List.pairwise_cons.mp h
    obtain ⟨n1, n2⟩ := List.nodup_cons.mp n
    refine List.pairwise_cons.mpr ⟨fun y hy => ?_, ih h2 n2⟩
    have := h1 y hy
    have : x ≠ y := fun e => n1 (e ▸ hy)
    omega
theorem asc_nodup {l : List Int} (h : l.Pairwise (· < ·)) : l.Nodup := h.imp fun {a b} q e => by omega
/-- how often the items of ks stand in l, all in all -/
theorem counts_sum : ∀ (l ks : List Int), ks.Nodup → (∀ x ∈ l, x ∈ ks) → (ks.map fun s => ((l.count s : Nat) : Int)).sum = (l.length : Int)
  | [], ks, _, _ => by
    have : (ks.map fun s => (((([] : List Int).count s : Nat)) : Int)) = ks.map fun _ => (0 : Int) := List.map_congr_left fun s _ => by rw [List.count_nil]; rfl
    rw [this]
    clear this
    induction ks with
    | nil => rfl
    | cons s r ih => rw [List.map_cons, List.sum_cons]; simp_all
  | x :: l, ks, hn, h => by
    have ih := counts_sum l ks hn fun y hy => h y (List.mem_cons_of_mem _ hy)
    have hx := h x (List.mem_cons_self ..)
    have key : ∀ ks : List Int, ks.Nodup → (ks.map fun s => (((x :: l).count s : Nat) : Int)).sum = (ks.map fun s => ((l.count s : Nat) : Int)).sum + if x ∈ ks then 1 else 0 := by
      intro ks
      induction ks with
      | nil => intro _; rfl
      | cons s r ih =>
        intro hn
        obtain ⟨n1, n2⟩ := List.nodup_cons.mp hn
        rw [List.map_cons, List.sum_cons, List.map_cons, List.sum_cons, ih n2, List.count_cons]
        by_cases e : x = s
        · subst e
          rw [if_neg n1, if_pos (List.mem_cons_self ..), if_pos (by simp)]
          omega
        · have e1 : (x == s) = false := by simpa using e
          rw [e1]
          by_cases e2 : x ∈ r
          · rw [if_pos e2, if_pos (List.mem_cons_of_mem _ e2)]
            simp
            omega
          · have e3 : ¬ x ∈ s :: r := fun q => by
              rcases List.mem_cons.mp q with q | q
              · exact e q
              · exact e2 q
            rw [if_neg e2, if_neg e3, if_neg (by decide)]
            omega
    rw [key ks hn, ih, if_pos hx, List.length_cons]
    omega
/-! ### range(0, m, 2), range(0, m, 3) -/
theorem rgC_up {m c : Int} (hc : c = 2 ∨ c = 3) (hm : 0 ≤ m) (hm2 : m ≤ 40000) : ∃ n, RgC 0 m c n ∧ ∀ i : Nat, i < n → (i : Int) * c < m := by
  refine ⟨(Builtin.Range.rangeSize 0 m c).toNat, ⟨by omega, by omega, ?_, ?_⟩, fun i hi => ?_⟩
  · unfold Builtin.Range.small Builtin.Range.rangeSize
    simp only [Builtin.Range.rangeFitsLong, Bool.and_eq_true, Bool.or_eq_true, decide_eq_true_eq, beq_iff_eq]
    rcases hc with rfl | rfl <;> simp <;> split <;> omega
  · unfold Builtin.Range.rangeSize
    rcases hc with rfl | rfl <;> simp <;> split <;> omega
  · unfold Builtin.Range.rangeSize at hi
    rcases hc with rfl | rfl <;> simp at hi <;> split at hi <;> omega
theorem q_forR3 {ta : TA} {t : TS} {tz : TS} {D : Ends} {σ : L2.St} {H : Hp} {j : Nat} {m c : Int} (h : Evl.EvA ta σ H [.int 0, .int m, .int c]) (hc : c = 2 ∨ c = 3) (hm : 0 ≤ m ∧ m ≤ 40000) (Pv : Int → L2.St → Hp → Prop) (h0 : ∀ H1, Evl.Ex H H1 → Pv 0 σ H1)
    (hs : ∀ (i : Int) σ' H', 0 ≤ i → i < m → Pv i σ' H' → t { D with nx := Pv (i + c), ct := Pv (i + c), bk := tz D } (σ'.set j (some (.int i))) H') (hd : ∀ i σ' H', Pv i σ' H' → tz D σ' H') : tSeq (tFor (iRng3 ta) (gName j) t) tz D σ H :=
  h H (Evl.Ex.refl H) _ fun H1 e => by
    obtain ⟨n, hn, hb⟩ := rgC_up hc hm.1 hm.2
    refine ⟨0, m, c, n, rfl, hn, for_rangeC (D := { D with nx := tz D }) (fun i σ H => Pv ((i : Int) * c) σ H) (by have := h0 H1 e; rwa [show (((0 : Nat) : Int)) * c = 0 from by simp]) (fun i σ' H' hi p => ?_) (fun σ' H' p => hd _ σ' H' p)⟩
    have := hb i hi
    rw [Int.zero_add, show (((i + 1 : Nat)) : Int) * c = (i : Int) * c + c from by rw [Int.natCast_add, Int.add_mul]; simp]
    exact hs _ σ' H' (by rcases hc with rfl | rfl <;> omega) this p
/-- a suite asked only where the frame has its n slots -/
theorem ps_len {X : Cx} {st : List Stmt} {t : TS} {n : Nat} (hn : X.N.length = n) (h : PSs X st t) : PSs X st (fun D σ H => σ.length = n → t D σ H) := ⟨fun pins s σ H D I hw => h.run pins s σ H D I (hw (I.len.trans hn))⟩
/-! ### several except clauses, each with a name or without -/
abbrev Clause := Value × Option Nat × (Addr → Value → Option Addr → TS)
/-- behind a suite with a name the name's slot is empty -/
def emptied (D : Ends) : Option Nat → Ends
  | none => D
  | some i => { nx := fun τ G => D.nx (τ.set i none) G, rt := D.rt, bk := fun τ G => D.bk (τ.set i none) G, ct := fun τ G => D.ct (τ.set i none) G }
def named (τ : L2.St) (a : Addr) : Option Nat → L2.St
  | none => τ
  | some i => τ.set i (some (.ref a))
/-- what the clauses, one after the other, wish of what the body lets out -/
def wMix (K : PySem.W.Frag) (Wout : WX) (D : Ends) : List Clause → WX
  | [] => Wout
  | (c, o, ts) :: r => fun cls d τ G => ∃ b, PySem.W.exmOne K cls c = some b ∧ (b = true → ∀ a, G a = none → ts a cls d (emptied D o) (named τ a o) G) ∧ (b = false → wMix K Wout D r cls d τ G)
inductive Clauses (X : Cx) : List ExceptHandler → List Clause → Prop
  | nil : Clauses X [] []
  | bare {x : Str} {c : Value} {ts : Addr → Value → Option Addr → TS} {s0 : Stmt} {ss : List Stmt} {p1 p2 : Pos} {hds : List ExceptHandler} {l : List Clause} (hc : Names X x c)
      (hS : ∀ (a : Addr) (oe : Obj) (cls : Value) (d : Option Addr) (pn : List (Addr × Obj)), Zc cls d oe → (∃ vs, oe.data = .fields vs) → PSs (X.suite a ((a, oe) :: pn)) (s0 :: ss) (ts a cls d)) (r : Clauses X hds l) :
      Clauses X (.ExceptHandler (some (.Name x p1)) none (s0 :: ss) p2 :: hds) ((c, none, ts) :: l)
  | as {x n : Str} {i : Nat} {c : Value} {ts : Addr → Value → Option Addr → TS} {s0 : Stmt} {ss : List Stmt} {p1 p2 : Pos} {hds : List ExceptHandler} {l : List Clause} (hi : X.N[i]? = some n) (hk : X.env.kindOf n = some .local) (hc : Names X x c)
      (hS : ∀ (a : Addr) (oe : Obj) (cls : Value) (d : Option Addr) (pn : List (Addr × Obj)), Zc cls d oe → (∃ vs, oe.data = .fields vs) → PSs (X.suite a ((a, oe) :: pn)) (s0 :: ss) (ts a cls d)) (r : Clauses X hds l) :
      Clauses X (.ExceptHandler (some (.Name x p1)) (some n) (s0 :: ss) p2 :: hds) ((c, some i, ts) :: l)
section
variable {X : Cx} {body : List Stmt} {h₀ : ExceptHandler} {hds : List ExceptHandler} {l : List Clause} {pos : Pos} {tb : WX → TS} {Wout : WX}
theorem ps_try_mix (hs : X.stack = X.env :: X.outer) (hf : X.env.frame = some X.env.locals) (hN : X.N.Nodup) (tk : Takes X Wout)
    (hb : ∀ (W : WX) (pn : List (Addr × Obj)) (xe : Value → Shared → Prop), Takes (X.tr pn xe) W → PassesOwn (model X.prog X.w) X.A X.env xe → PSs (X.tr pn xe) body (tb W))
    (hh : Clauses X (h₀ :: hds) l) : PS X (.Try body (h₀ :: hds) [] [] pos) (fun D τ G => tb (wMix X.K Wout D l) D τ G) := by
  constructor
  intro pins s τ G D I h
  have okX := I.ok
  let caught : Value → Shared → Prop := fun e t1 => wpAny (model X.prog X.w) X.A (noteFrame e X.env) (fun _ t2 => wpAny (model X.prog X.w) X.A (setFlight e none) (fun _ t3 => wpAny (model X.prog X.w) X.A (handleBy e X.env (h₀ :: hds)) (SP X pins D) X.xe t3) X.xe t2) X.xe t1
  have back : ∀ (f : Flow) (t : Shared), SP (X.tr (X.pn ++ pins) caught) [] D f t → SP X pins D f t := by
    intro f t q
    cases f with
    | ret u =>
      obtain ⟨v, τ1, G1, J, rv, qq⟩ := q
      exact ⟨v, τ1, G1, J.ofTry okX, rv, qq⟩
    | next =>
      obtain ⟨τ1, G1, J, qq⟩ := q
      exact ⟨τ1, G1, J.ofTry okX, qq⟩
    | brk =>
      obtain ⟨τ1, G1, J, qq⟩ := q
      exact ⟨τ1, G1, J.ofTry okX, qq⟩
    | cont =>
      obtain ⟨τ1, G1, J, qq⟩ := q
      exact ⟨τ1, G1, J.ofTry okX, qq⟩
  refine wpAny_Try_except (wpAny_mono ((hb (wMix X.K Wout D l) (X.pn ++ pins) caught ?tk PassesOwn.looking).run [] s τ G D (I.toTry _) h) ?out fun _ _ he => he)
  case out =>
    intro f t q
    have q' := back f t q
    cases f with
    | next => exact wpAny_execs_nil q'
    | ret u => exact q'
    | brk => exact q'
    | cont => exact q'
  case tk =>
    rintro _ t ⟨a, B, sI, pins1, τ1, G1, cls, d, rfl, J0, nb, up, sky, na, os, ag, wish⟩
    have J := J0.ofTry okX
    rw [show (X.tr (X.pn ++ pins) caught).stack = X.env :: X.outer from hs] at sky
    show wpAny (model X.prog X.w) X.A (noteFrame (.ref a) X.env) _ _ _
    refine Sky.land Zc.steady (okX.frames.trans (congrArg some hs)) hf sky fun h3 fly up3 => ?_
    have J3 : Inv X pins τ1 G1 { t with heap := h3 } := J.landed nb fly.1 (up.trans up3) os ag
    obtain ⟨oe, vs, hget, hz, hdat⟩ := fly.there
    have off : a ∉ frs (X.env :: X.outer) := by
      intro hm
      obtain ⟨_, o1, g1, hne⟩ := fly.2.2.1.mem hm
      rw [hget] at g1
      cases g1
      exact hne _ hdat
    have offL : a ≠ X.env.locals := fun z => off (List.mem_filterMap.mpr ⟨X.env, List.mem_cons_self, by rw [hf, z]⟩)
    have offF : a ∉ X.fs := by
      intro hm
      obtain ⟨e, he, q⟩ := List.mem_filterMap.mp hm
      exact off (List.mem_filterMap.mpr ⟨e, List.mem_cons_of_mem _ he, q⟩)
    have Sus := J3.suite hget hdat na offL offF
    have kindIs : PySem.W.Looks (model X.prog X.w) h3 (typeOf (.ref a)) cls := fun _ _ _ _ look q => wpAny_typeOf_ref (look _ _ hget) (by rw [hz.1]; exact q)
    have reads : ∀ {x : Str} {c : Value} {p : Pos} {Q : Value → Shared → Prop} {E : Value → Shared → Prop}, Names X x c → Q c { t with heap := h3 } → wpAny (model X.prog X.w) (X.A.mark (some (.ref a))) (eval (.Name x p) X.env) Q E { t with heap := h3 } := by
      intro x c p Q E nm q
      obtain ⟨hg, hdbg, own | ⟨free, hv, hnn⟩⟩ := nm
      · exact ld_glob (X := X.suite a ((a, oe) :: (X.pn ++ pins))) Sus hg own q hdbg
      · exact ld_blt (X := X.suite a ((a, oe) :: (X.pn ++ pins))) Sus hg free hv q hnn hdbg
    have walk : ∀ (hs' : List ExceptHandler) (l' : List Clause), Clauses X hs' l' → wMix X.K Wout D l' cls d τ1 G1 → wpAny (model X.prog X.w) X.A (handleBy (.ref a) X.env hs') (SP X pins D) X.xe { t with heap := h3 } := by
      intro hs' l' hk
      induction hk with
      | nil =>
        intro wish
        refine wpAny_handleBy_nil ?_
        obtain ⟨_, _, _, oe', vs', T, _, _, g1, _, g2, g3, _⟩ := id fly
        have flies : wpAny (model X.prog X.w) X.A (setFlight (.ref a) X.env.frame) (fun _ t4 => wpAny (model X.prog X.w) X.A (throw (.ref a) : Sem Flow) (SP X pins D) X.xe t4) X.xe { t with heap := h3 } := by
          rw [hf]
          refine HandSPX.setFlight_upZ fly fun h4 held up4 => wpAny_throw (tk _ _ ⟨a, B, sI, pins, τ1, G1, cls, d, rfl, J, nb, (up.trans up3).trans up4, .inr (.inr ?_), na, os, ag, wish⟩)
          rw [hs]
          exact held
        unfold PySem.passOn
        refine wpAny_bind (wpAny_field g1 g2 g3 ?_)
        rw [if_neg (show ¬ ((Value.ref T == Value.none) = true) by simp)]
        first
          | exact wpAny_bind flies
          | exact wpAny_bind (wpAny_pure (wpAny_bind flies))
      | bare nm hS _ ih =>
        rintro ⟨b, hb1, yes, no⟩
        refine wpAny_handleBy_cons (codeAny_handlers_test ?_) (by intro q; cases q)
        refine reads nm ((PySem.W.exm_one (M := model X.prog X.w) J3.kIn kindIs hb1).here ?_)
        cases b with
        | false => exact ih (no rfl)
        | true =>
          refine codeAny_handlers_suite (HandSPX.lands_againZ fly fun h4 fly4 up4 => ?_)
          obtain ⟨oe4, vs4, hget4, hz4, hdat4⟩ := fly4.there
          have S4 := (J.landed nb fly4.1 ((up.trans up3).trans up4) os ag : Inv X pins τ1 G1 { t with heap := h4 }).suite hget4 hdat4 na offL offF
          refine wpAny_mono ((hS a oe4 cls d (X.pn ++ pins) hz4 ⟨_, hdat4⟩).run [] _ _ G1 _ S4 (yes rfl a na)) (fun f t6 q => ?_) fun _ _ z => z.elim
          cases f with
          | ret u =>
            obtain ⟨v, τ6, G6, S6, rv, q6⟩ := q
            exact ⟨v, τ6, G6, S6.unsuite okX, rv, q6⟩
          | next =>
            obtain ⟨τ6, G6, S6, q6⟩ := q
            exact ⟨τ6, G6, S6.unsuite okX, q6⟩
          | brk =>
            obtain ⟨τ6, G6, S6, q6⟩ := q
            exact ⟨τ6, G6, S6.unsuite okX, q6⟩
          | cont =>
            obtain ⟨τ6, G6, S6, q6⟩ := q
            exact ⟨τ6, G6, S6.unsuite okX, q6⟩
      | @as x n i c ts s0 ss p1 p2 hds2 l2 hi hloc nm hS _ ih =>
        rintro ⟨b, hb1, yes, no⟩
        refine wpAny_handleBy_cons (codeAny_handlers_test ?_) (by intro q; cases q)
        refine reads nm ((PySem.W.exm_one (M := model X.prog X.w) J3.kIn kindIs hb1).here ?_)
        cases b with
        | false => exact ih (no rfl)
        | true =>
          refine codeAny_handlers_suite_as (HandSPX.lands_againZ fly fun h4 fly4 up4 => ?_)
          obtain ⟨oe4, vs4, hget4, hz4, hdat4⟩ := fly4.there
          have S4 := (J.landed nb fly4.1 ((up.trans up3).trans up4) os ag : Inv X pins τ1 G1 { t with heap := h4 }).suite hget4 hdat4 na offL offF
          refine store_ok (X := X.suite a ((a, oe4) :: (X.pn ++ pins))) (v := .ref a) S4 hN hi (.inl hloc) rfl (fun t5 S5 => ?_) (.inr hloc)
          refine wpAny_mono ((hS a oe4 cls d (X.pn ++ pins) hz4 ⟨_, hdat4⟩).run [] t5 _ G1 _ S5 (yes rfl a na)) (fun f t6 q => ?_) fun _ _ z => z.elim
          cases f with
          | ret u =>
            obtain ⟨v, τ6, G6, S6, rv, q6⟩ := q
            exact gone_ok (S6.unsuite okX) hN hi hloc fun t7 J7 => ⟨v, _, _, J7, rv, q6⟩
          | next =>
            obtain ⟨τ6, G6, S6, q6⟩ := q
            exact gone_ok (S6.unsuite okX) hN hi hloc fun t7 J7 => ⟨_, _, J7, q6⟩
          | brk =>
            obtain ⟨τ6, G6, S6, q6⟩ := q
            exact gone_ok (S6.unsuite okX) hN hi hloc fun t7 J7 => ⟨_, _, J7, q6⟩
          | cont =>
            obtain ⟨τ6, G6, S6, q6⟩ := q
            exact gone_ok (S6.unsuite okX) hN hi hloc fun t7 J7 => ⟨_, _, J7, q6⟩
    exact walk _ _ hh wish
end

/-! ### stars, dict comprehensions -/
theorem aStar {X : Cx} (K : PySem.W.Frag) (h : X.K = K) {e : Expr} {es : List Expr} {te : TE} {t : TA} {p : Pos} (he : PE X e te) (hr : PA X es t) (hs : starEach (.Starred e p :: es) X.env = (true, eval e X.env) :: starEach es X.env := by rfl) : PA X (.Starred e p :: es) (StX.tStar K te t) := h ▸ StX.pa_star he hr hs
/-- a dict comprehension over whatever is walked -/
theorem dc_it {J : It} {n : Nat} {G : Hp → Prop} {Y : Nat → Hp → V → Hp → Prop} (w : Walk J n G Y) {g : TG} {tt : TT} {tk tv : TE} {vs : List Nat} {σ : L2.St} {H1 : Hp} {D : Addr} {Qd : Hp → Prop} (Pv : Nat → Hp → Prop) (h0 : Pv 0 (upd H1 D (.dK []))) (hG : ∀ i H, i ≤ n → Pv i H → G H)
    (turn : ∀ i x H H', i < n → Pv i H → Y i H x H' → g x (wipe σ vs) H' fun τ G2 => wipe τ vs = wipe σ vs ∧ tt τ G2 fun b G3 =>
      if b = true then tk τ G3 fun y G4 => tv τ G4 fun z G5 => ∃ kvs k, y = kV k ∧ G5 D = some (.dK kvs) ∧ kvs.length < sizeLine ∧ Pv (i + 1) (upd G5 D (.dK (putK kvs k z))) else Pv (i + 1) G3) (done : ∀ H, Pv n H → Qd H) :
    ∃ W : Nat → Nat → Hp → Prop, (∃ m, W 0 m (upd H1 D (.dK []))) ∧ ∀ i m H, W i m H →
      (J.stop i H ∧ Qd H) ∨ (J.go i H ∧ ∃ Nx : Hp → Prop, (∀ H', Nx H' → ∃ m', m' < m ∧ W (i + 1) m' H') ∧ ∀ x H', J.yld i H x H' → g x (wipe σ vs) H' fun τ G2 => wipe τ vs = wipe σ vs ∧ tt τ G2 fun b G3 =>
        if b = true then tk τ G3 fun y G4 => tv τ G4 fun z G5 => ∃ kvs k, y = kV k ∧ G5 D = some (.dK kvs) ∧ kvs.length < sizeLine ∧ Nx (upd G5 D (.dK (putK kvs k z))) else Nx G3) := by
  refine ⟨fun i m H => m + i = n ∧ Pv i H, ⟨n, rfl, h0⟩, ?_⟩
  rintro i m H ⟨hm, p⟩
  have q := hG i H (by omega) p
  by_cases hi : i = n
  · subst hi
    exact .inl ⟨w.stops H q, done H p⟩
  · have hlt : i < n := by omega
    exact .inr ⟨w.goes i H hlt q, Pv (i + 1), fun H' p' => ⟨m - 1, by omega, by omega, p'⟩, fun x H' y => turn i x H H' hlt p (w.yields i H x H' hlt q y)⟩
theorem mIdx {X : Cx} (K : PySem.W.Frag) (h : X.K = K) : MtR X "list.index" (rIndex K) := h ▸ mt_index
end Tp
namespace Tp
open PySem PySem.Spec PyProof.Rows L2 Evl
/-! ### the text by places, the facts -/
def top (i : Nat) : Stmt := PySem.Challenge.pw_topiary_k04_symbols_refused.main.body.getD i (.Pass ⟨0, 0, 0, 0⟩)
abbrev s__wall : Stmt := top 0
abbrev N__wall : List Str := ["k"]
abbrev ps__wall : List Str := ["k"]
abbrev at__wall : Str × Option Str := ("_wall", none)
theorem sc__wall : FnScope N__wall ps__wall (defScope s__wall) := ⟨rfl, rfl, rfl, by decide +kernel, rfl, by decide +kernel, by decide +kernel⟩
def d__wall : He.DefD := ⟨at__wall, "_wall", "_wall", defArgs s__wall, defBody s__wall, defScope s__wall, [], []⟩
abbrev s_InvalidRow_init : Stmt := inClass (top 3) 0
abbrev N_InvalidRow_init : List Str := ["self", "place"]
abbrev ps_InvalidRow_init : List Str := ["self", "place"]
abbrev at_InvalidRow_init : Str × Option Str := ("InvalidRow", some "__init__")
theorem sc_InvalidRow_init : FnScope N_InvalidRow_init ps_InvalidRow_init (defScope s_InvalidRow_init) := ⟨rfl, rfl, rfl, by decide +kernel, rfl, by decide +kernel, by decide +kernel⟩
def d_InvalidRow_init : He.DefD := ⟨at_InvalidRow_init, "__init__", "InvalidRow.__init__", defArgs s_InvalidRow_init, defBody s_InvalidRow_init, defScope s_InvalidRow_init, [], []⟩
abbrev s_InvalidPlace_init : Stmt := inClass (top 4) 0
abbrev N_InvalidPlace_init : List Str := ["self", "place"]
abbrev ps_InvalidPlace_init : List Str := ["self", "place"]
abbrev at_InvalidPlace_init : Str × Option Str := ("InvalidPlace", some "__init__")
theorem sc_InvalidPlace_init : FnScope N_InvalidPlace_init ps_InvalidPlace_init (defScope s_InvalidPlace_init) := ⟨rfl, rfl, rfl, by decide +kernel, rfl, by decide +kernel, by decide +kernel⟩
def d_InvalidPlace_init : He.DefD := ⟨at_InvalidPlace_init, "__init__", "InvalidPlace.__init__", defArgs s_InvalidPlace_init, defBody s_InvalidPlace_init, defScope s_InvalidPlace_init, [], []⟩
abbrev s_InvalidSize_init : Stmt := inClass (top 5) 0
abbrev N_InvalidSize_init : List Str := ["self", "size"]
abbrev ps_InvalidSize_init : List Str := ["self", "size"]
abbrev at_InvalidSize_init : Str × Option Str := ("InvalidSize", some "__init__")
theorem sc_InvalidSize_init : FnScope N_InvalidSize_init ps_InvalidSize_init (defScope s_InvalidSize_init) := ⟨rfl, rfl, rfl, by decide +kernel, rfl, by decide +kernel, by decide +kernel⟩
def d_InvalidSize_init : He.DefD := ⟨at_InvalidSize_init, "__init__", "InvalidSize.__init__", defArgs s_InvalidSize_init, defBody s_InvalidSize_init, defScope s_InvalidSize_init, [], []⟩
abbrev s_InvalidSymbol_init : Stmt := inClass (top 6) 0
abbrev N_InvalidSymbol_init : List Str := ["self", "symbol"]
abbrev ps_InvalidSymbol_init : List Str := ["self", "symbol"]
abbrev at_InvalidSymbol_init : Str × Option Str := ("InvalidSymbol", some "__init__")
theorem sc_InvalidSymbol_init : FnScope N_InvalidSymbol_init ps_InvalidSymbol_init (defScope s_InvalidSymbol_init) := ⟨rfl, rfl, rfl, by decide +kernel, rfl, by decide +kernel, by decide +kernel⟩
def d_InvalidSymbol_init : He.DefD := ⟨at_InvalidSymbol_init, "__init__", "InvalidSymbol.__init__", defArgs s_InvalidSymbol_init, defBody s_InvalidSymbol_init, defScope s_InvalidSymbol_init, [], []⟩
abbrev s__places_by_symbol : Stmt := top 9
abbrev N__places_by_symbol : List Str := ["row", "places", "place", "symbol"]
abbrev ps__places_by_symbol : List Str := ["row"]
abbrev at__places_by_symbol : Str × Option Str := ("_places_by_symbol", none)
theorem sc__places_by_symbol : FnScope N__places_by_symbol ps__places_by_symbol (defScope s__places_by_symbol) := ⟨rfl, rfl, rfl, by decide +kernel, rfl, by decide +kernel, by decide +kernel⟩
def d__places_by_symbol : He.DefD := ⟨at__places_by_symbol, "_places_by_symbol", "_places_by_symbol", defArgs s__places_by_symbol, defBody s__places_by_symbol, defScope s__places_by_symbol, [], []⟩
abbrev s_count_below : Stmt := top 10
abbrev N_count_below : List Str := ["places", "limit", "low", "high", "middle"]
abbrev ps_count_below : List Str := ["places", "limit"]
abbrev at_count_below : Str × Option Str := ("count_below", none)
theorem sc_count_below : FnScope N_count_below ps_count_below (defScope s_count_below) := ⟨rfl, rfl, rfl, by decide +kernel, rfl, by decide +kernel, by decide +kernel⟩
def d_count_below : He.DefD := ⟨at_count_below, "count_below", "count_below", defArgs s_count_below, defBody s_count_below, defScope s_count_below, [], []⟩
abbrev s_Wave_init : Stmt := inClass (top 11) 0
abbrev N_Wave_init : List Str := ["self", "row", "size", "place", "symbol"]
abbrev ps_Wave_init : List Str := ["self", "row", "size"]
abbrev at_Wave_init : Str × Option Str := ("Wave", some "__init__")
theorem sc_Wave_init : FnScope N_Wave_init ps_Wave_init (defScope s_Wave_init) := ⟨rfl, rfl, rfl, by decide +kernel, rfl, by decide +kernel, by decide +kernel⟩
def d_Wave_init : He.DefD := ⟨at_Wave_init, "__init__", "Wave.__init__", defArgs s_Wave_init, defBody s_Wave_init, defScope s_Wave_init, [], []⟩
abbrev s_Wave_at : Stmt := inClass (top 11) 1
abbrev N_Wave_at : List Str := ["self", "place"]
abbrev ps_Wave_at : List Str := ["self", "place"]
abbrev at_Wave_at : Str × Option Str := ("Wave", some "at")
theorem sc_Wave_at : FnScope N_Wave_at ps_Wave_at (defScope s_Wave_at) := ⟨rfl, rfl, rfl, by decide +kernel, rfl, by decide +kernel, by decide +kernel⟩
def d_Wave_at : He.DefD := ⟨at_Wave_at, "at", "Wave.at", defArgs s_Wave_at, defBody s_Wave_at, defScope s_Wave_at, [], []⟩
abbrev s_Wave_row : Stmt := inClass (top 11) 2
abbrev N_Wave_row : List Str := ["self"]
abbrev ps_Wave_row : List Str := ["self"]
abbrev at_Wave_row : Str × Option Str := ("Wave", some "row")
theorem sc_Wave_row : FnScope N_Wave_row ps_Wave_row (defScope s_Wave_row) := ⟨rfl, rfl, rfl, by decide +kernel, rfl, by decide +kernel, by decide +kernel⟩
def d_Wave_row : He.DefD := ⟨at_Wave_row, "row", "Wave.row", defArgs s_Wave_row, defBody s_Wave_row, defScope s_Wave_row, [], []⟩
abbrev s_Wave_rank : Stmt := inClass (top 11) 3
abbrev N_Wave_rank : List Str := ["self", "symbol", "i", "places"]
abbrev ps_Wave_rank : List Str := ["self", "symbol", "i"]
abbrev at_Wave_rank : Str × Option Str := ("Wave", some "rank")
theorem sc_Wave_rank : FnScope N_Wave_rank ps_Wave_rank (defScope s_Wave_rank) := ⟨rfl, rfl, rfl, by decide +kernel, rfl, by decide +kernel, by decide +kernel⟩
def d_Wave_rank : He.DefD := ⟨at_Wave_rank, "rank", "Wave.rank", defArgs s_Wave_rank, defBody s_Wave_rank, defScope s_Wave_rank, [], []⟩
abbrev s_Wave_select : Stmt := inClass (top 11) 4
abbrev N_Wave_select : List Str := ["self", "symbol", "k", "places"]
abbrev ps_Wave_select : List Str := ["self", "symbol", "k"]
abbrev at_Wave_select : Str × Option Str := ("Wave", some "select")
theorem sc_Wave_select : FnScope N_Wave_select ps_Wave_select (defScope s_Wave_select) := ⟨rfl, rfl, rfl, by decide +kernel, rfl, by decide +kernel, by decide +kernel⟩
def d_Wave_select : He.DefD := ⟨at_Wave_select, "select", "Wave.select", defArgs s_Wave_select, defBody s_Wave_select, defScope s_Wave_select, [], []⟩
abbrev s_Wave_following : Stmt := inClass (top 11) 5
abbrev N_Wave_following : List Str := ["self", "symbol", "i"]
abbrev ps_Wave_following : List Str := ["self", "symbol", "i"]
abbrev at_Wave_following : Str × Option Str := ("Wave", some "following")
theorem sc_Wave_following : FnScope N_Wave_following ps_Wave_following (defScope s_Wave_following) := ⟨rfl, rfl, rfl, by decide +kernel, rfl, by decide +kernel, by decide +kernel⟩
def d_Wave_following : He.DefD := ⟨at_Wave_following, "following", "Wave.following", defArgs s_Wave_following, defBody s_Wave_following, defScope s_Wave_following, [], []⟩
abbrev s_Wave_present : Stmt := inClass (top 11) 6
abbrev N_Wave_present : List Str := ["self", "first", "behind"]
abbrev ps_Wave_present : List Str := ["self", "first", "behind"]
abbrev at_Wave_present : Str × Option Str := ("Wave", some "present")
theorem sc_Wave_present : FnScope N_Wave_present ps_Wave_present (defScope s_Wave_present) := ⟨rfl, rfl, rfl, by decide +kernel, rfl, by decide +kernel, by decide +kernel⟩
def d_Wave_present : He.DefD := ⟨at_Wave_present, "present", "Wave.present", defArgs s_Wave_present, defBody s_Wave_present, defScope s_Wave_present, [], []⟩
abbrev s_Wave__places_of : Stmt := inClass (top 11) 7
abbrev N_Wave__places_of : List Str := ["self", "symbol"]
abbrev ps_Wave__places_of : List Str := ["self", "symbol"]
abbrev at_Wave__places_of : Str × Option Str := ("Wave", some "_places_of")
theorem sc_Wave__places_of : FnScope N_Wave__places_of ps_Wave__places_of (defScope s_Wave__places_of) := ⟨rfl, rfl, rfl, by decide +kernel, rfl, by decide +kernel, by decide +kernel⟩
def d_Wave__places_of : He.DefD := ⟨at_Wave__places_of, "_places_of", "Wave._places_of", defArgs s_Wave__places_of, defBody s_Wave__places_of, defScope s_Wave__places_of, [], []⟩
abbrev s__law_deck : Stmt := top 13
abbrev N__law_deck : List Str := ["_law_script"]
abbrev ps__law_deck : List Str := ["_law_script"]
abbrev at__law_deck : Str × Option Str := ("_law_deck", none)
theorem sc__law_deck : FnScope N__law_deck ps__law_deck (defScope s__law_deck) := ⟨rfl, rfl, rfl, by decide +kernel, rfl, by decide +kernel, by decide +kernel⟩
def d__law_deck : He.DefD := ⟨at__law_deck, "_law_deck", "_law_deck", defArgs s__law_deck, defBody s__law_deck, defScope s__law_deck, [], []⟩
abbrev s__law_draw : Stmt := top 14
abbrev N__law_draw : List Str := ["_law_deck_here", "_law_most", "_law_cell", "_law_value"]
abbrev ps__law_draw : List Str := ["_law_deck_here", "_law_most"]
abbrev at__law_draw : Str × Option Str := ("_law_draw", none)
theorem sc__law_draw : FnScope N__law_draw ps__law_draw (defScope s__law_draw) := ⟨rfl, rfl, rfl, by decide +kernel, rfl, by decide +kernel, by decide +kernel⟩
def d__law_draw : He.DefD := ⟨at__law_draw, "_law_draw", "_law_draw", defArgs s__law_draw, defBody s__law_draw, defScope s__law_draw, [], []⟩
abbrev s__law_same : Stmt := top 15
abbrev N__law_same : List Str := ["_law_actual", "_law_due", "_law_k"]
abbrev ps__law_same : List Str := ["_law_actual", "_law_due"]
abbrev at__law_same : Str × Option Str := ("_law_same", none)
theorem sc__law_same : FnScope N__law_same ps__law_same (defScope s__law_same) := ⟨rfl, rfl, rfl, by decide +kernel, rfl, by decide +kernel, by decide +kernel⟩
def d__law_same : He.DefD := ⟨at__law_same, "_law_same", "_law_same", defArgs s__law_same, defBody s__law_same, defScope s__law_same, [], []⟩
abbrev s__law_symbols : Stmt := top 16
abbrev N__law_symbols : List Str := ["_law_deck_here", "_law_size", "_law_most", "_law_few", "_law_kind", "_law_k"]
abbrev ps__law_symbols : List Str := ["_law_deck_here", "_law_size", "_law_most"]
abbrev at__law_symbols : Str × Option Str := ("_law_symbols", none)
theorem sc__law_symbols : FnScope N__law_symbols ps__law_symbols (defScope s__law_symbols) := ⟨rfl, rfl, rfl, by decide +kernel, rfl, by decide +kernel, by decide +kernel⟩
def d__law_symbols : He.DefD := ⟨at__law_symbols, "_law_symbols", "_law_symbols", defArgs s__law_symbols, defBody s__law_symbols, defScope s__law_symbols, [], []⟩
abbrev s__law_made : Stmt := top 17
abbrev N__law_made : List Str := ["_law_row", "_law_size", "e"]
abbrev ps__law_made : List Str := ["_law_row", "_law_size"]
abbrev at__law_made : Str × Option Str := ("_law_made", none)
theorem sc__law_made : FnScope N__law_made ps__law_made (defScope s__law_made) := ⟨rfl, rfl, rfl, by decide +kernel, rfl, by decide +kernel, by decide +kernel⟩
def d__law_made : He.DefD := ⟨at__law_made, "_law_made", "_law_made", defArgs s__law_made, defBody s__law_made, defScope s__law_made, [], []⟩
abbrev s__law_asked : Stmt := top 18
abbrev N__law_asked : List Str := ["_law_wave", "_law_what", "_law_symbol", "_law_number", "e"]
abbrev ps__law_asked : List Str := ["_law_wave", "_law_what", "_law_symbol", "_law_number"]
abbrev at__law_asked : Str × Option Str := ("_law_asked", none)
theorem sc__law_asked : FnScope N__law_asked ps__law_asked (defScope s__law_asked) := ⟨rfl, rfl, rfl, by decide +kernel, rfl, by decide +kernel, by decide +kernel⟩
def d__law_asked : He.DefD := ⟨at__law_asked, "_law_asked", "_law_asked", defArgs s__law_asked, defBody s__law_asked, defScope s__law_asked, [], []⟩
abbrev s_law : Stmt := top 19
abbrev N_law : List Str := ["_law_script", "_law_deck_here", "_law_size", "_law_row", "_law_bad", "_law_k", "_law_due", "_law_wrong", "_law_wave", "_law_far", "_law_symbol", "_law_told", "_law_at", "_law_what", "_law_place"]
abbrev ps_law : List Str := ["_law_script"]
abbrev at_law : Str × Option Str := ("law", none)
theorem sc_law : FnScope N_law ps_law (defScope s_law) := ⟨rfl, rfl, rfl, by decide +kernel, rfl, by decide +kernel, by decide +kernel⟩
def d_law : He.DefD := ⟨at_law, "law", "law", defArgs s_law, defBody s_law, defScope s_law, [], []⟩
def fn : List He.DefD := [d__wall, d_InvalidRow_init, d_InvalidPlace_init, d_InvalidSize_init, d_InvalidSymbol_init, d__places_by_symbol, d_count_below, d_Wave_init, d_Wave_at, d_Wave_row, d_Wave_rank, d_Wave_select, d_Wave_following, d_Wave_present, d_Wave__places_of, d__law_deck, d__law_draw, d__law_same, d__law_symbols, d__law_made, d__law_asked, d_law]
def fa : List He.Fa := [.free "len", .free "range", .free "int", .free "str", .free "list", .free "tuple", .free "bool", .free "enumerate", .free "isinstance", .free "ValueError", .glo "TopiaryError", .glo "InvalidRow", .noat "InvalidRow" "place", .glo "InvalidPlace", .noat "InvalidPlace" "place", .glo "InvalidSize", .noat "InvalidSize" "size", .glo "InvalidSymbol", .noat "InvalidSymbol" "symbol", .glo "Wave", .noat "Wave" "size", .noat "Wave" "length", .noat "Wave" "_symbols", .noat "Wave" "_places", .cls "Wave", .mkr "Wave", .meth "Wave" "at", .meth "Wave" "row", .meth "Wave" "rank", .meth "Wave" "select", .meth "Wave" "following", .meth "Wave" "present", .meth "Wave" "_places_of", .int "LARGEST_SIZE" 65536, .glo "_wall", .glo "_places_by_symbol", .glo "count_below", .glo "_law_deck", .glo "_law_draw", .glo "_law_same", .glo "_law_symbols", .glo "_law_made", .glo "_law_asked", .glo "law"]
def fx : List Fx := [.exc "InvalidRow", .ini "InvalidRow", .exc "InvalidPlace", .ini "InvalidPlace", .exc "InvalidSize", .ini "InvalidSize", .exc "InvalidSymbol", .ini "InvalidSymbol", .xf "InvalidSize", .xf "InvalidRow", .xf "InvalidSymbol", .xf "InvalidPlace", .sub "InvalidSymbol" "InvalidSymbol" true, .sub "InvalidPlace" "InvalidSymbol" false, .sub "InvalidPlace" "InvalidPlace" true, .sub "InvalidSize" "InvalidSize" true, .sub "InvalidRow" "InvalidSize" false, .sub "InvalidRow" "InvalidRow" true]
abbrev TX (K : PySem.W.Frag) (mg : Str → Option Value) : Prop := Txt fa fn fx K mg
theorem TX.n_len {K : PySem.W.Frag} {mg : Str → Option Value} (T : TX K mg) : mg "len" = none := T.no 0 _ rfl
theorem TX.n_range {K : PySem.W.Frag} {mg : Str → Option Value} (T : TX K mg) : mg "range" = none := T.no 1 _ rfl
theorem TX.n_int {K : PySem.W.Frag} {mg : Str → Option Value} (T : TX K mg) : mg "int" = none := T.no 2 _ rfl
theorem TX.n_str {K : PySem.W.Frag} {mg : Str → Option Value} (T : TX K mg) : mg "str" = none := T.no 3 _ rfl
theorem TX.n_list {K : PySem.W.Frag} {mg : Str → Option Value} (T : TX K mg) : mg "list" = none := T.no 4 _ rfl
theorem TX.n_tuple {K : PySem.W.Frag} {mg : Str → Option Value} (T : TX K mg) : mg "tuple" = none := T.no 5 _ rfl
theorem TX.n_bool {K : PySem.W.Frag} {mg : Str → Option Value} (T : TX K mg) : mg "bool" = none := T.no 6 _ rfl
theorem TX.n_enumerate {K : PySem.W.Frag} {mg : Str → Option Value} (T : TX K mg) : mg "enumerate" = none := T.no 7 _ rfl
theorem TX.n_isinstance {K : PySem.W.Frag} {mg : Str → Option Value} (T : TX K mg) : mg "isinstance" = none := T.no 8 _ rfl
theorem TX.n_ValueError {K : PySem.W.Frag} {mg : Str → Option Value} (T : TX K mg) : mg "ValueError" = none := T.no 9 _ rfl
theorem TX.g_TopiaryError {K : PySem.W.Frag} {mg : Str → Option Value} (T : TX K mg) : mg "TopiaryError" = some (.ref (He.ga K "TopiaryError")) := T.gl 10 _ rfl
theorem TX.g_InvalidRow {K : PySem.W.Frag} {mg : Str → Option Value} (T : TX K mg) : mg "InvalidRow" = some (.ref (He.ga K "InvalidRow")) := T.gl 11 _ rfl
theorem TX.na_InvalidRow_place {K : PySem.W.Frag} {mg : Str → Option Value} (T : TX K mg) : NoAttr K (He.ga K "InvalidRow") "place" := He.noat_ok (T.f 12 _ rfl)
theorem TX.ox_InvalidRow {K : PySem.W.Frag} {mg : Str → Option Value} (T : TX K mg) : OexC K (He.ga K "InvalidRow") := excB_ok (T.x 0 _ rfl)
theorem TX.oi_InvalidRow {K : PySem.W.Frag} {mg : Str → Option Value} (T : TX K mg) : PySem.W.findIn K (.ref (He.ga K "InvalidRow")) "__init__" = some (some (.ref (He.ma K (He.ga K "InvalidRow") "__init__"))) := (iniB_ok (T.x 1 _ rfl)).1
theorem TX.ot_InvalidRow {K : PySem.W.Frag} {mg : Str → Option Value} (T : TX K mg) : PySem.W.typeIn K (.ref (He.ma K (He.ga K "InvalidRow") "__init__")) = some (.type "function") := (iniB_ok (T.x 1 _ rfl)).2
theorem TX.g_InvalidPlace {K : PySem.W.Frag} {mg : Str → Option Value} (T : TX K mg) : mg "InvalidPlace" = some (.ref (He.ga K "InvalidPlace")) := T.gl 13 _ rfl
theorem TX.na_InvalidPlace_place {K : PySem.W.Frag} {mg : Str → Option Value} (T : TX K mg) : NoAttr K (He.ga K "InvalidPlace") "place" := He.noat_ok (T.f 14 _ rfl)
theorem TX.ox_InvalidPlace {K : PySem.W.Frag} {mg : Str → Option Value} (T : TX K mg) : OexC K (He.ga K "InvalidPlace") := excB_ok (T.x 2 _ rfl)
theorem TX.oi_InvalidPlace {K : PySem.W.Frag} {mg : Str → Option Value} (T : TX K mg) : PySem.W.findIn K (.ref (He.ga K "InvalidPlace")) "__init__" = some (some (.ref (He.ma K (He.ga K "InvalidPlace") "__init__"))) := (iniB_ok (T.x 3 _ rfl)).1
theorem TX.ot_InvalidPlace {K : PySem.W.Frag} {mg : Str → Option Value} (T : TX K mg) : PySem.W.typeIn K (.ref (He.ma K (He.ga K "InvalidPlace") "__init__")) = some (.type "function") := (iniB_ok (T.x 3 _ rfl)).2
theorem TX.g_InvalidSize {K : PySem.W.Frag} {mg : Str → Option Value} (T : TX K mg) : mg "InvalidSize" = some (.ref (He.ga K "InvalidSize")) := T.gl 15 _ rfl
theorem TX.na_InvalidSize_size {K : PySem.W.Frag} {mg : Str → Option Value} (T : TX K mg) : NoAttr K (He.ga K "InvalidSize") "size" := He.noat_ok (T.f 16 _ rfl)
theorem TX.ox_InvalidSize {K : PySem.W.Frag} {mg : Str → Option Value} (T : TX K mg) : OexC K (He.ga K "InvalidSize") := excB_ok (T.x 4 _ rfl)
theorem TX.oi_InvalidSize {K : PySem.W.Frag} {mg : Str → Option Value} (T : TX K mg) : PySem.W.findIn K (.ref (He.ga K "InvalidSize")) "__init__" = some (some (.ref (He.ma K (He.ga K "InvalidSize") "__init__"))) := (iniB_ok (T.x 5 _ rfl)).1
theorem TX.ot_InvalidSize {K : PySem.W.Frag} {mg : Str → Option Value} (T : TX K mg) : PySem.W.typeIn K (.ref (He.ma K (He.ga K "InvalidSize") "__init__")) = some (.type "function") := (iniB_ok (T.x 5 _ rfl)).2
theorem TX.g_InvalidSymbol {K : PySem.W.Frag} {mg : Str → Option Value} (T : TX K mg) : mg "InvalidSymbol" = some (.ref (He.ga K "InvalidSymbol")) := T.gl 17 _ rfl
theorem TX.na_InvalidSymbol_symbol {K : PySem.W.Frag} {mg : Str → Option Value} (T : TX K mg) : NoAttr K (He.ga K "InvalidSymbol") "symbol" := He.noat_ok (T.f 18 _ rfl)
theorem TX.ox_InvalidSymbol {K : PySem.W.Frag} {mg : Str → Option Value} (T : TX K mg) : OexC K (He.ga K "InvalidSymbol") := excB_ok (T.x 6 _ rfl)
theorem TX.oi_InvalidSymbol {K : PySem.W.Frag} {mg : Str → Option Value} (T : TX K mg) : PySem.W.findIn K (.ref (He.ga K "InvalidSymbol")) "__init__" = some (some (.ref (He.ma K (He.ga K "InvalidSymbol") "__init__"))) := (iniB_ok (T.x 7 _ rfl)).1
theorem TX.ot_InvalidSymbol {K : PySem.W.Frag} {mg : Str → Option Value} (T : TX K mg) : PySem.W.typeIn K (.ref (He.ma K (He.ga K "InvalidSymbol") "__init__")) = some (.type "function") := (iniB_ok (T.x 7 _ rfl)).2
theorem TX.g_Wave {K : PySem.W.Frag} {mg : Str → Option Value} (T : TX K mg) : mg "Wave" = some (.ref (He.ga K "Wave")) := T.gl 19 _ rfl
theorem TX.na_Wave_size {K : PySem.W.Frag} {mg : Str → Option Value} (T : TX K mg) : NoAttr K (He.ga K "Wave") "size" := He.noat_ok (T.f 20 _ rfl)
theorem TX.na_Wave_length {K : PySem.W.Frag} {mg : Str → Option Value} (T : TX K mg) : NoAttr K (He.ga K "Wave") "length" := He.noat_ok (T.f 21 _ rfl)
theorem TX.na_Wave__symbols {K : PySem.W.Frag} {mg : Str → Option Value} (T : TX K mg) : NoAttr K (He.ga K "Wave") "_symbols" := He.noat_ok (T.f 22 _ rfl)
theorem TX.na_Wave__places {K : PySem.W.Frag} {mg : Str → Option Value} (T : TX K mg) : NoAttr K (He.ga K "Wave") "_places" := He.noat_ok (T.f 23 _ rfl)
abbrev flds_Wave (a0 a1 a2 a3 : V) : List (Str × V) := [("size", a0), ("length", a1), ("_symbols", a2), ("_places", a3)]
theorem fl_Wave_size (a0 a1 a2 a3 : V) : (flds_Wave a0 a1 a2 a3).lookup ("size" : Str) = some a0 := fld_at (ks := ["size", "length", "_symbols", "_places"]) 0 rfl rfl (by decide +kernel)
theorem pf_Wave_length (a0 x : V) : putF "length" x ([("size", a0)] : List (Str × V)) = ([("size", a0), ("length", x)] : List (Str × V)) := putF_app (ks := ["size"]) rfl (by decide +kernel)
theorem fl_Wave_length (a0 a1 a2 a3 : V) : (flds_Wave a0 a1 a2 a3).lookup ("length" : Str) = some a1 := fld_at (ks := ["size", "length", "_symbols", "_places"]) 1 rfl rfl (by decide +kernel)
theorem pf_Wave__symbols (a0 a1 x : V) : putF "_symbols" x ([("size", a0), ("length", a1)] : List (Str × V)) = ([("size", a0), ("length", a1), ("_symbols", x)] : List (Str × V)) := putF_app (ks := ["size", "length"]) rfl (by decide +kernel)
theorem fl_Wave__symbols (a0 a1 a2 a3 : V) : (flds_Wave a0 a1 a2 a3).lookup ("_symbols" : Str) = some a2 := fld_at (ks := ["size", "length", "_symbols", "_places"]) 2 rfl rfl (by decide +kernel)
theorem pf_Wave__places (a0 a1 a2 x : V) : putF "_places" x ([("size", a0), ("length", a1), ("_symbols", a2)] : List (Str × V)) = ([("size", a0), ("length", a1), ("_symbols", a2), ("_places", x)] : List (Str × V)) := putF_app (ks := ["size", "length", "_symbols"]) rfl (by decide +kernel)
theorem fl_Wave__places (a0 a1 a2 a3 : V) : (flds_Wave a0 a1 a2 a3).lookup ("_places" : Str) = some a3 := fld_at (ks := ["size", "length", "_symbols", "_places"]) 3 rfl rfl (by decide +kernel)
theorem fn_Wave_at (a0 a1 a2 a3 : V) : (flds_Wave a0 a1 a2 a3).lookup ("at" : Str) = none := fld_no (ks := ["size", "length", "_symbols", "_places"]) rfl (by decide +kernel)
theorem fn_Wave_row (a0 a1 a2 a3 : V) : (flds_Wave a0 a1 a2 a3).lookup ("row" : Str) = none := fld_no (ks := ["size", "length", "_symbols", "_places"]) rfl (by decide +kernel)
theorem fn_Wave_rank (a0 a1 a2 a3 : V) : (flds_Wave a0 a1 a2 a3).lookup ("rank" : Str) = none := fld_no (ks := ["size", "length", "_symbols", "_places"]) rfl (by decide +kernel)
theorem fn_Wave_select (a0 a1 a2 a3 : V) : (flds_Wave a0 a1 a2 a3).lookup ("select" : Str) = none := fld_no (ks := ["size", "length", "_symbols", "_places"]) rfl (by decide +kernel)
theorem fn_Wave_following (a0 a1 a2 a3 : V) : (flds_Wave a0 a1 a2 a3).lookup ("following" : Str) = none := fld_no (ks := ["size", "length", "_symbols", "_places"]) rfl (by decide +kernel)
theorem fn_Wave_present (a0 a1 a2 a3 : V) : (flds_Wave a0 a1 a2 a3).lookup ("present" : Str) = none := fld_no (ks := ["size", "length", "_symbols", "_places"]) rfl (by decide +kernel)
theorem fn_Wave__places_of (a0 a1 a2 a3 : V) : (flds_Wave a0 a1 a2 a3).lookup ("_places_of" : Str) = none := fld_no (ks := ["size", "length", "_symbols", "_places"]) rfl (by decide +kernel)
theorem TX.cl_Wave {K : PySem.W.Frag} {mg : Str → Option Value} (T : TX K mg) : Cls K (He.ga K "Wave") := He.cls_ok (T.f 24 _ rfl)
theorem TX.m_Wave {K : PySem.W.Frag} {mg : Str → Option Value} (T : TX K mg) : Mk K (He.ga K "Wave") (He.ma K (He.ga K "Wave") "__init__") := He.mkr_ok (T.f 25 _ rfl)
theorem TX.me_Wave_at {K : PySem.W.Frag} {mg : Str → Option Value} (T : TX K mg) : Meth K (He.ga K "Wave") "at" (He.ma K (He.ga K "Wave") "at") := He.meth_ok (T.f 26 _ rfl)
theorem TX.me_Wave_row {K : PySem.W.Frag} {mg : Str → Option Value} (T : TX K mg) : Meth K (He.ga K "Wave") "row" (He.ma K (He.ga K "Wave") "row") := He.meth_ok (T.f 27 _ rfl)
theorem TX.me_Wave_rank {K : PySem.W.Frag} {mg : Str → Option Value} (T : TX K mg) : Meth K (He.ga K "Wave") "rank" (He.ma K (He.ga K "Wave") "rank") := He.meth_ok (T.f 28 _ rfl)
theorem TX.me_Wave_select {K : PySem.W.Frag} {mg : Str → Option Value} (T : TX K mg) : Meth K (He.ga K "Wave") "select" (He.ma K (He.ga K "Wave") "select") := He.meth_ok (T.f 29 _ rfl)
theorem TX.me_Wave_following {K : PySem.W.Frag} {mg : Str → Option Value} (T : TX K mg) : Meth K (He.ga K "Wave") "following" (He.ma K (He.ga K "Wave") "following") := He.meth_ok (T.f 30 _ rfl)
theorem TX.me_Wave_present {K : PySem.W.Frag} {mg : Str → Option Value} (T : TX K mg) : Meth K (He.ga K "Wave") "present" (He.ma K (He.ga K "Wave") "present") := He.meth_ok (T.f 31 _ rfl)
theorem TX.me_Wave__places_of {K : PySem.W.Frag} {mg : Str → Option Value} (T : TX K mg) : Meth K (He.ga K "Wave") "_places_of" (He.ma K (He.ga K "Wave") "_places_of") := He.meth_ok (T.f 32 _ rfl)
theorem TX.xf_InvalidSize {K : PySem.W.Frag} {mg : Str → Option Value} (T : TX K mg) : XfC K (He.ga K "InvalidSize") := xfB_ok (T.x 8 _ rfl)
theorem TX.xf_InvalidRow {K : PySem.W.Frag} {mg : Str → Option Value} (T : TX K mg) : XfC K (He.ga K "InvalidRow") := xfB_ok (T.x 9 _ rfl)
theorem TX.xf_InvalidSymbol {K : PySem.W.Frag} {mg : Str → Option Value} (T : TX K mg) : XfC K (He.ga K "InvalidSymbol") := xfB_ok (T.x 10 _ rfl)
theorem TX.xf_InvalidPlace {K : PySem.W.Frag} {mg : Str → Option Value} (T : TX K mg) : XfC K (He.ga K "InvalidPlace") := xfB_ok (T.x 11 _ rfl)
theorem TX.ex_InvalidSymbol_InvalidSymbol {K : PySem.W.Frag} {mg : Str → Option Value} (T : TX K mg) : PySem.W.exmOne K (.ref (He.ga K "InvalidSymbol")) (.ref (He.ga K "InvalidSymbol")) = some true := of_decide_eq_true (T.x 12 _ rfl)
theorem TX.ex_InvalidPlace_InvalidSymbol {K : PySem.W.Frag} {mg : Str → Option Value} (T : TX K mg) : PySem.W.exmOne K (.ref (He.ga K "InvalidPlace")) (.ref (He.ga K "InvalidSymbol")) = some false := of_decide_eq_true (T.x 13 _ rfl)
theorem TX.ex_InvalidPlace_InvalidPlace {K : PySem.W.Frag} {mg : Str → Option Value} (T : TX K mg) : PySem.W.exmOne K (.ref (He.ga K "InvalidPlace")) (.ref (He.ga K "InvalidPlace")) = some true := of_decide_eq_true (T.x 14 _ rfl)
theorem TX.ex_InvalidSize_InvalidSize {K : PySem.W.Frag} {mg : Str → Option Value} (T : TX K mg) : PySem.W.exmOne K (.ref (He.ga K "InvalidSize")) (.ref (He.ga K "InvalidSize")) = some true := of_decide_eq_true (T.x 15 _ rfl)
theorem TX.ex_InvalidRow_InvalidSize {K : PySem.W.Frag} {mg : Str → Option Value} (T : TX K mg) : PySem.W.exmOne K (.ref (He.ga K "InvalidRow")) (.ref (He.ga K "InvalidSize")) = some false := of_decide_eq_true (T.x 16 _ rfl)
theorem TX.ex_InvalidRow_InvalidRow {K : PySem.W.Frag} {mg : Str → Option Value} (T : TX K mg) : PySem.W.exmOne K (.ref (He.ga K "InvalidRow")) (.ref (He.ga K "InvalidRow")) = some true := of_decide_eq_true (T.x 17 _ rfl)
theorem TX.c_LARGEST_SIZE {K : PySem.W.Frag} {mg : Str → Option Value} (T : TX K mg) : ∃ t, mg "LARGEST_SIZE" = some (.int 65536 t) := T.int 33 _ _ rfl
theorem TX.g__wall {K : PySem.W.Frag} {mg : Str → Option Value} (T : TX K mg) : mg "_wall" = some (.ref (He.ga K "_wall")) := T.gl 34 _ rfl
theorem TX.k__wall {K : PySem.W.Frag} {mg : Str → Option Value} (T : TX K mg) : PySem.W.keepIn K (.ref (He.fAd K at__wall)) = true := (T.d 0 _ rfl).choose_spec.kp
theorem TX.k_InvalidRow_init {K : PySem.W.Frag} {mg : Str → Option Value} (T : TX K mg) : PySem.W.keepIn K (.ref (He.fAd K at_InvalidRow_init)) = true := (T.d 1 _ rfl).choose_spec.kp
theorem TX.k_InvalidPlace_init {K : PySem.W.Frag} {mg : Str → Option Value} (T : TX K mg) : PySem.W.keepIn K (.ref (He.fAd K at_InvalidPlace_init)) = true := (T.d 2 _ rfl).choose_spec.kp
theorem TX.k_InvalidSize_init {K : PySem.W.Frag} {mg : Str → Option Value} (T : TX K mg) : PySem.W.keepIn K (.ref (He.fAd K at_InvalidSize_init)) = true := (T.d 3 _ rfl).choose_spec.kp
theorem TX.k_InvalidSymbol_init {K : PySem.W.Frag} {mg : Str → Option Value} (T : TX K mg) : PySem.W.keepIn K (.ref (He.fAd K at_InvalidSymbol_init)) = true := (T.d 4 _ rfl).choose_spec.kp
theorem TX.g__places_by_symbol {K : PySem.W.Frag} {mg : Str → Option Value} (T : TX K mg) : mg "_places_by_symbol" = some (.ref (He.ga K "_places_by_symbol")) := T.gl 35 _ rfl
theorem TX.k__places_by_symbol {K : PySem.W.Frag} {mg : Str → Option Value} (T : TX K mg) : PySem.W.keepIn K (.ref (He.fAd K at__places_by_symbol)) = true := (T.d 5 _ rfl).choose_spec.kp
theorem TX.g_count_below {K : PySem.W.Frag} {mg : Str → Option Value} (T : TX K mg) : mg "count_below" = some (.ref (He.ga K "count_below")) := T.gl 36 _ rfl
theorem TX.k_count_below {K : PySem.W.Frag} {mg : Str → Option Value} (T : TX K mg) : PySem.W.keepIn K (.ref (He.fAd K at_count_below)) = true := (T.d 6 _ rfl).choose_spec.kp
theorem TX.k_Wave_init {K : PySem.W.Frag} {mg : Str → Option Value} (T : TX K mg) : PySem.W.keepIn K (.ref (He.fAd K at_Wave_init)) = true := (T.d 7 _ rfl).choose_spec.kp
theorem TX.k_Wave_at {K : PySem.W.Frag} {mg : Str → Option Value} (T : TX K mg) : PySem.W.keepIn K (.ref (He.fAd K at_Wave_at)) = true := (T.d 8 _ rfl).choose_spec.kp
theorem TX.k_Wave_row {K : PySem.W.Frag} {mg : Str → Option Value} (T : TX K mg) : PySem.W.keepIn K (.ref (He.fAd K at_Wave_row)) = true := (T.d 9 _ rfl).choose_spec.kp
theorem TX.k_Wave_rank {K : PySem.W.Frag} {mg : Str → Option Value} (T : TX K mg) : PySem.W.keepIn K (.ref (He.fAd K at_Wave_rank)) = true := (T.d 10 _ rfl).choose_spec.kp
theorem TX.k_Wave_select {K : PySem.W.Frag} {mg : Str → Option Value} (T : TX K mg) : PySem.W.keepIn K (.ref (He.fAd K at_Wave_select)) = true := (T.d 11 _ rfl).choose_spec.kp
theorem TX.k_Wave_following {K : PySem.W.Frag} {mg : Str → Option Value} (T : TX K mg) : PySem.W.keepIn K (.ref (He.fAd K at_Wave_following)) = true := (T.d 12 _ rfl).choose_spec.kp
theorem TX.k_Wave_present {K : PySem.W.Frag} {mg : Str → Option Value} (T : TX K mg) : PySem.W.keepIn K (.ref (He.fAd K at_Wave_present)) = true := (T.d 13 _ rfl).choose_spec.kp
theorem TX.k_Wave__places_of {K : PySem.W.Frag} {mg : Str → Option Value} (T : TX K mg) : PySem.W.keepIn K (.ref (He.fAd K at_Wave__places_of)) = true := (T.d 14 _ rfl).choose_spec.kp
theorem TX.g__law_deck {K : PySem.W.Frag} {mg : Str → Option Value} (T : TX K mg) : mg "_law_deck" = some (.ref (He.ga K "_law_deck")) := T.gl 37 _ rfl
theorem TX.k__law_deck {K : PySem.W.Frag} {mg : Str → Option Value} (T : TX K mg) : PySem.W.keepIn K (.ref (He.fAd K at__law_deck)) = true := (T.d 15 _ rfl).choose_spec.kp
theorem TX.g__law_draw {K : PySem.W.Frag} {mg : Str → Option Value} (T : TX K mg) : mg "_law_draw" = some (.ref (He.ga K "_law_draw")) := T.gl 38 _ rfl
theorem TX.k__law_draw {K : PySem.W.Frag} {mg : Str → Option Value} (T : TX K mg) : PySem.W.keepIn K (.ref (He.fAd K at__law_draw)) = true := (T.d 16 _ rfl).choose_spec.kp
theorem TX.g__law_same {K : PySem.W.Frag} {mg : Str → Option Value} (T : TX K mg) : mg "_law_same" = some (.ref (He.ga K "_law_same")) := T.gl 39 _ rfl
theorem TX.k__law_same {K : PySem.W.Frag} {mg : Str → Option Value} (T : TX K mg) : PySem.W.keepIn K (.ref (He.fAd K at__law_same)) = true := (T.d 17 _ rfl).choose_spec.kp
theorem TX.g__law_symbols {K : PySem.W.Frag} {mg : Str → Option Value} (T : TX K mg) : mg "_law_symbols" = some (.ref (He.ga K "_law_symbols")) := T.gl 40 _ rfl
theorem TX.k__law_symbols {K : PySem.W.Frag} {mg : Str → Option Value} (T : TX K mg) : PySem.W.keepIn K (.ref (He.fAd K at__law_symbols)) = true := (T.d 18 _ rfl).choose_spec.kp
theorem TX.g__law_made {K : PySem.W.Frag} {mg : Str → Option Value} (T : TX K mg) : mg "_law_made" = some (.ref (He.ga K "_law_made")) := T.gl 41 _ rfl
theorem TX.k__law_made {K : PySem.W.Frag} {mg : Str → Option Value} (T : TX K mg) : PySem.W.keepIn K (.ref (He.fAd K at__law_made)) = true := (T.d 19 _ rfl).choose_spec.kp
theorem TX.g__law_asked {K : PySem.W.Frag} {mg : Str → Option Value} (T : TX K mg) : mg "_law_asked" = some (.ref (He.ga K "_law_asked")) := T.gl 42 _ rfl
theorem TX.k__law_asked {K : PySem.W.Frag} {mg : Str → Option Value} (T : TX K mg) : PySem.W.keepIn K (.ref (He.fAd K at__law_asked)) = true := (T.d 20 _ rfl).choose_spec.kp
theorem TX.g_law {K : PySem.W.Frag} {mg : Str → Option Value} (T : TX K mg) : mg "law" = some (.ref (He.ga K "law")) := T.gl 43 _ rfl
theorem TX.k_law {K : PySem.W.Frag} {mg : Str → Option Value} (T : TX K mg) : PySem.W.keepIn K (.ref (He.fAd K at_law)) = true := (T.d 21 _ rfl).choose_spec.kp
theorem mk__wall {P : Program} {w : World} {K : PySem.W.Frag} {mg : Str → Option Value} {base : Heap} {CX : CXT} {k : Nat} {sp : Sp} (T : TX K mg) (h : ∀ fd, FunD K "_wall" "_wall" (defArgs s__wall) (defBody s__wall) (defScope s__wall) [] [] (He.fAd K at__wall) fd → FnOk P w K mg base CX k (He.fAd K at__wall) fd ps__wall sp) :
    Can P w K mg base CX k (He.fAd K at__wall) ps__wall [] sp := by
  obtain ⟨fd, F⟩ := T.d 0 _ rfl
  exact ⟨fd, h fd F, [], .nil, FunD.bindsN F fun _ _ _ _ _ _ us hl => match us, hl with | [_], _ => rfl⟩
theorem mk_InvalidRow_init {P : Program} {w : World} {K : PySem.W.Frag} {mg : Str → Option Value} {base : Heap} {CX : CXT} {k : Nat} {sp : Sp} (T : TX K mg) (h : ∀ fd, FunD K "__init__" "InvalidRow.__init__" (defArgs s_InvalidRow_init) (defBody s_InvalidRow_init) (defScope s_InvalidRow_init) [] [] (He.fAd K at_InvalidRow_init) fd → FnOk P w K mg base CX k (He.fAd K at_InvalidRow_init) fd ps_InvalidRow_init sp) :
    Can P w K mg base CX k (He.fAd K at_InvalidRow_init) ps_InvalidRow_init [] sp := by
  obtain ⟨fd, F⟩ := T.d 1 _ rfl
  exact ⟨fd, h fd F, [], .nil, FunD.bindsN F fun _ _ _ _ _ _ us hl => match us, hl with | [_, _], _ => rfl⟩
theorem mk_InvalidPlace_init {P : Program} {w : World} {K : PySem.W.Frag} {mg : Str → Option Value} {base : Heap} {CX : CXT} {k : Nat} {sp : Sp} (T : TX K mg) (h : ∀ fd, FunD K "__init__" "InvalidPlace.__init__" (defArgs s_InvalidPlace_init) (defBody s_InvalidPlace_init) (defScope s_InvalidPlace_init) [] [] (He.fAd K at_InvalidPlace_init) fd → FnOk P w K mg base CX k (He.fAd K at_InvalidPlace_init) fd ps_InvalidPlace_init sp) :
    Can P w K mg base CX k (He.fAd K at_InvalidPlace_init) ps_InvalidPlace_init [] sp := by
  obtain ⟨fd, F⟩ := T.d 2 _ rfl
  exact ⟨fd, h fd F, [], .nil, FunD.bindsN F fun _ _ _ _ _ _ us hl => match us, hl with | [_, _], _ => rfl⟩
theorem mk_InvalidSize_init {P : Program} {w : World} {K : PySem.W.Frag} {mg : Str → Option Value} {base : Heap} {CX : CXT} {k : Nat} {sp : Sp} (T : TX K mg) (h : ∀ fd, FunD K "__init__" "InvalidSize.__init__" (defArgs s_InvalidSize_init) (defBody s_InvalidSize_init) (defScope s_InvalidSize_init) [] [] (He.fAd K at_InvalidSize_init) fd → FnOk P w K mg base CX k (He.fAd K at_InvalidSize_init) fd ps_InvalidSize_init sp) :
    Can P w K mg base CX k (He.fAd K at_InvalidSize_init) ps_InvalidSize_init [] sp := by
  obtain ⟨fd, F⟩ := T.d 3 _ rfl
  exact ⟨fd, h fd F, [], .nil, FunD.bindsN F fun _ _ _ _ _ _ us hl => match us, hl with | [_, _], _ => rfl⟩
theorem mk_InvalidSymbol_init {P : Program} {w : World} {K : PySem.W.Frag} {mg : Str → Option Value} {base : Heap} {CX : CXT} {k : Nat} {sp : Sp} (T : TX K mg) (h : ∀ fd, FunD K "__init__" "InvalidSymbol.__init__" (defArgs s_InvalidSymbol_init) (defBody s_InvalidSymbol_init) (defScope s_InvalidSymbol_init) [] [] (He.fAd K at_InvalidSymbol_init) fd → FnOk P w K mg base CX k (He.fAd K at_InvalidSymbol_init) fd ps_InvalidSymbol_init sp) :
    Can P w K mg base CX k (He.fAd K at_InvalidSymbol_init) ps_InvalidSymbol_init [] sp := by
  obtain ⟨fd, F⟩ := T.d 4 _ rfl
  exact ⟨fd, h fd F, [], .nil, FunD.bindsN F fun _ _ _ _ _ _ us hl => match us, hl with | [_, _], _ => rfl⟩
theorem mk__places_by_symbol {P : Program} {w : World} {K : PySem.W.Frag} {mg : Str → Option Value} {base : Heap} {CX : CXT} {k : Nat} {sp : Sp} (T : TX K mg) (h : ∀ fd, FunD K "_places_by_symbol" "_places_by_symbol" (defArgs s__places_by_symbol) (defBody s__places_by_symbol) (defScope s__places_by_symbol) [] [] (He.fAd K at__places_by_symbol) fd → FnOk P w K mg base CX k (He.fAd K at__places_by_symbol) fd ps__places_by_symbol sp) :
    Can P w K mg base CX k (He.fAd K at__places_by_symbol) ps__places_by_symbol [] sp := by
  obtain ⟨fd, F⟩ := T.d 5 _ rfl
  exact ⟨fd, h fd F, [], .nil, FunD.bindsN F fun _ _ _ _ _ _ us hl => match us, hl with | [_], _ => rfl⟩
theorem mk_count_below {P : Program} {w : World} {K : PySem.W.Frag} {mg : Str → Option Value} {base : Heap} {CX : CXT} {k : Nat} {sp : Sp} (T : TX K mg) (h : ∀ fd, FunD K "count_below" "count_below" (defArgs s_count_below) (defBody s_count_below) (defScope s_count_below) [] [] (He.fAd K at_count_below) fd → FnOk P w K mg base CX k (He.fAd K at_count_below) fd ps_count_below sp) :
    Can P w K mg base CX k (He.fAd K at_count_below) ps_count_below [] sp := by
  obtain ⟨fd, F⟩ := T.d 6 _ rfl
  exact ⟨fd, h fd F, [], .nil, FunD.bindsN F fun _ _ _ _ _ _ us hl => match us, hl with | [_, _], _ => rfl⟩
theorem mk_Wave_init {P : Program} {w : World} {K : PySem.W.Frag} {mg : Str → Option Value} {base : Heap} {CX : CXT} {k : Nat} {sp : Sp} (T : TX K mg) (h : ∀ fd, FunD K "__init__" "Wave.__init__" (defArgs s_Wave_init) (defBody s_Wave_init) (defScope s_Wave_init) [] [] (He.fAd K at_Wave_init) fd → FnOk P w K mg base CX k (He.fAd K at_Wave_init) fd ps_Wave_init sp) :
    Can P w K mg base CX k (He.fAd K at_Wave_init) ps_Wave_init [] sp := by
  obtain ⟨fd, F⟩ := T.d 7 _ rfl
  exact ⟨fd, h fd F, [], .nil, FunD.bindsN F fun _ _ _ _ _ _ us hl => match us, hl with | [_, _, _], _ => rfl⟩
theorem mk_Wave_at {P : Program} {w : World} {K : PySem.W.Frag} {mg : Str → Option Value} {base : Heap} {CX : CXT} {k : Nat} {sp : Sp} (T : TX K mg) (h : ∀ fd, FunD K "at" "Wave.at" (defArgs s_Wave_at) (defBody s_Wave_at) (defScope s_Wave_at) [] [] (He.fAd K at_Wave_at) fd → FnOk P w K mg base CX k (He.fAd K at_Wave_at) fd ps_Wave_at sp) :
    Can P w K mg base CX k (He.fAd K at_Wave_at) ps_Wave_at [] sp := by
  obtain ⟨fd, F⟩ := T.d 8 _ rfl
  exact ⟨fd, h fd F, [], .nil, FunD.bindsN F fun _ _ _ _ _ _ us hl => match us, hl with | [_, _], _ => rfl⟩
theorem mk_Wave_row {P : Program} {w : World} {K : PySem.W.Frag} {mg : Str → Option Value} {base : Heap} {CX : CXT} {k : Nat} {sp : Sp} (T : TX K mg) (h : ∀ fd, FunD K "row" "Wave.row" (defArgs s_Wave_row) (defBody s_Wave_row) (defScope s_Wave_row) [] [] (He.fAd K at_Wave_row) fd → FnOk P w K mg base CX k (He.fAd K at_Wave_row) fd ps_Wave_row sp) :
    Can P w K mg base CX k (He.fAd K at_Wave_row) ps_Wave_row [] sp := by
  obtain ⟨fd, F⟩ := T.d 9 _ rfl
  exact ⟨fd, h fd F, [], .nil, FunD.bindsN F fun _ _ _ _ _ _ us hl => match us, hl with | [_], _ => rfl⟩
theorem mk_Wave_rank {P : Program} {w : World} {K : PySem.W.Frag} {mg : Str → Option Value} {base : Heap} {CX : CXT} {k : Nat} {sp : Sp} (T : TX K mg) (h : ∀ fd, FunD K "rank" "Wave.rank" (defArgs s_Wave_rank) (defBody s_Wave_rank) (defScope s_Wave_rank) [] [] (He.fAd K at_Wave_rank) fd → FnOk P w K mg base CX k (He.fAd K at_Wave_rank) fd ps_Wave_rank sp) :
    Can P w K mg base CX k (He.fAd K at_Wave_rank) ps_Wave_rank [] sp := by
  obtain ⟨fd, F⟩ := T.d 10 _ rfl
  exact ⟨fd, h fd F, [], .nil, FunD.bindsN F fun _ _ _ _ _ _ us hl => match us, hl with | [_, _, _], _ => rfl⟩
theorem mk_Wave_select {P : Program} {w : World} {K : PySem.W.Frag} {mg : Str → Option Value} {base : Heap} {CX : CXT} {k : Nat} {sp : Sp} (T : TX K mg) (h : ∀ fd, FunD K "select" "Wave.select" (defArgs s_Wave_select) (defBody s_Wave_select) (defScope s_Wave_select) [] [] (He.fAd K at_Wave_select) fd → FnOk P w K mg base CX k (He.fAd K at_Wave_select) fd ps_Wave_select sp) :
    Can P w K mg base CX k (He.fAd K at_Wave_select) ps_Wave_select [] sp := by
  obtain ⟨fd, F⟩ := T.d 11 _ rfl
  exact ⟨fd, h fd F, [], .nil, FunD.bindsN F fun _ _ _ _ _ _ us hl => match us, hl with | [_, _, _], _ => rfl⟩
theorem mk_Wave_following {P : Program} {w : World} {K : PySem.W.Frag} {mg : Str → Option Value} {base : Heap} {CX : CXT} {k : Nat} {sp : Sp} (T : TX K mg) (h : ∀ fd, FunD K "following" "Wave.following" (defArgs s_Wave_following) (defBody s_Wave_following) (defScope s_Wave_following) [] [] (He.fAd K at_Wave_following) fd → FnOk P w K mg base CX k (He.fAd K at_Wave_following) fd ps_Wave_following sp) :
    Can P w K mg base CX k (He.fAd K at_Wave_following) ps_Wave_following [] sp := by
  obtain ⟨fd, F⟩ := T.d 12 _ rfl
  exact ⟨fd, h fd F, [], .nil, FunD.bindsN F fun _ _ _ _ _ _ us hl => match us, hl with | [_, _, _], _ => rfl⟩
theorem mk_Wave_present {P : Program} {w : World} {K : PySem.W.Frag} {mg : Str → Option Value} {base : Heap} {CX : CXT} {k : Nat} {sp : Sp} (T : TX K mg) (h : ∀ fd, FunD K "present" "Wave.present" (defArgs s_Wave_present) (defBody s_Wave_present) (defScope s_Wave_present) [] [] (He.fAd K at_Wave_present) fd → FnOk P w K mg base CX k (He.fAd K at_Wave_present) fd ps_Wave_present sp) :
    Can P w K mg base CX k (He.fAd K at_Wave_present) ps_Wave_present [] sp := by
  obtain ⟨fd, F⟩ := T.d 13 _ rfl
  exact ⟨fd, h fd F, [], .nil, FunD.bindsN F fun _ _ _ _ _ _ us hl => match us, hl with | [_, _, _], _ => rfl⟩
theorem mk_Wave__places_of {P : Program} {w : World} {K : PySem.W.Frag} {mg : Str → Option Value} {base : Heap} {CX : CXT} {k : Nat} {sp : Sp} (T : TX K mg) (h : ∀ fd, FunD K "_places_of" "Wave._places_of" (defArgs s_Wave__places_of) (defBody s_Wave__places_of) (defScope s_Wave__places_of) [] [] (He.fAd K at_Wave__places_of) fd → FnOk P w K mg base CX k (He.fAd K at_Wave__places_of) fd ps_Wave__places_of sp) :
    Can P w K mg base CX k (He.fAd K at_Wave__places_of) ps_Wave__places_of [] sp := by
  obtain ⟨fd, F⟩ := T.d 14 _ rfl
  exact ⟨fd, h fd F, [], .nil, FunD.bindsN F fun _ _ _ _ _ _ us hl => match us, hl with | [_, _], _ => rfl⟩
theorem mk__law_deck {P : Program} {w : World} {K : PySem.W.Frag} {mg : Str → Option Value} {base : Heap} {CX : CXT} {k : Nat} {sp : Sp} (T : TX K mg) (h : ∀ fd, FunD K "_law_deck" "_law_deck" (defArgs s__law_deck) (defBody s__law_deck) (defScope s__law_deck) [] [] (He.fAd K at__law_deck) fd → FnOk P w K mg base CX k (He.fAd K at__law_deck) fd ps__law_deck sp) :
    Can P w K mg base CX k (He.fAd K at__law_deck) ps__law_deck [] sp := by
  obtain ⟨fd, F⟩ := T.d 15 _ rfl
  exact ⟨fd, h fd F, [], .nil, FunD.bindsN F fun _ _ _ _ _ _ us hl => match us, hl with | [_], _ => rfl⟩
theorem mk__law_draw {P : Program} {w : World} {K : PySem.W.Frag} {mg : Str → Option Value} {base : Heap} {CX : CXT} {k : Nat} {sp : Sp} (T : TX K mg) (h : ∀ fd, FunD K "_law_draw" "_law_draw" (defArgs s__law_draw) (defBody s__law_draw) (defScope s__law_draw) [] [] (He.fAd K at__law_draw) fd → FnOk P w K mg base CX k (He.fAd K at__law_draw) fd ps__law_draw sp) :
    Can P w K mg base CX k (He.fAd K at__law_draw) ps__law_draw [] sp := by
  obtain ⟨fd, F⟩ := T.d 16 _ rfl
  exact ⟨fd, h fd F, [], .nil, FunD.bindsN F fun _ _ _ _ _ _ us hl => match us, hl with | [_, _], _ => rfl⟩
theorem mk__law_same {P : Program} {w : World} {K : PySem.W.Frag} {mg : Str → Option Value} {base : Heap} {CX : CXT} {k : Nat} {sp : Sp} (T : TX K mg) (h : ∀ fd, FunD K "_law_same" "_law_same" (defArgs s__law_same) (defBody s__law_same) (defScope s__law_same) [] [] (He.fAd K at__law_same) fd → FnOk P w K mg base CX k (He.fAd K at__law_same) fd ps__law_same sp) :
    Can P w K mg base CX k (He.fAd K at__law_same) ps__law_same [] sp := by
  obtain ⟨fd, F⟩ := T.d 17 _ rfl
  exact ⟨fd, h fd F, [], .nil, FunD.bindsN F fun _ _ _ _ _ _ us hl => match us, hl with | [_, _], _ => rfl⟩
theorem mk__law_symbols {P : Program} {w : World} {K : PySem.W.Frag} {mg : Str → Option Value} {base : Heap} {CX : CXT} {k : Nat} {sp : Sp} (T : TX K mg) (h : ∀ fd, FunD K "_law_symbols" "_law_symbols" (defArgs s__law_symbols) (defBody s__law_symbols) (defScope s__law_symbols) [] [] (He.fAd K at__law_symbols) fd → FnOk P w K mg base CX k (He.fAd K at__law_symbols) fd ps__law_symbols sp) :
    Can P w K mg base CX k (He.fAd K at__law_symbols) ps__law_symbols [] sp := by
  obtain ⟨fd, F⟩ := T.d 18 _ rfl
  exact ⟨fd, h fd F, [], .nil, FunD.bindsN F fun _ _ _ _ _ _ us hl => match us, hl with | [_, _, _], _ => rfl⟩
theorem mk__law_made {P : Program} {w : World} {K : PySem.W.Frag} {mg : Str → Option Value} {base : Heap} {CX : CXT} {k : Nat} {sp : Sp} (T : TX K mg) (h : ∀ fd, FunD K "_law_made" "_law_made" (defArgs s__law_made) (defBody s__law_made) (defScope s__law_made) [] [] (He.fAd K at__law_made) fd → FnOk P w K mg base CX k (He.fAd K at__law_made) fd ps__law_made sp) :
    Can P w K mg base CX k (He.fAd K at__law_made) ps__law_made [] sp := by
  obtain ⟨fd, F⟩ := T.d 19 _ rfl
  exact ⟨fd, h fd F, [], .nil, FunD.bindsN F fun _ _ _ _ _ _ us hl => match us, hl with | [_, _], _ => rfl⟩
theorem mk__law_asked {P : Program} {w : World} {K : PySem.W.Frag} {mg : Str → Option Value} {base : Heap} {CX : CXT} {k : Nat} {sp : Sp} (T : TX K mg) (h : ∀ fd, FunD K "_law_asked" "_law_asked" (defArgs s__law_asked) (defBody s__law_asked) (defScope s__law_asked) [] [] (He.fAd K at__law_asked) fd → FnOk P w K mg base CX k (He.fAd K at__law_asked) fd ps__law_asked sp) :
    Can P w K mg base CX k (He.fAd K at__law_asked) ps__law_asked [] sp := by
  obtain ⟨fd, F⟩ := T.d 20 _ rfl
  exact ⟨fd, h fd F, [], .nil, FunD.bindsN F fun _ _ _ _ _ _ us hl => match us, hl with | [_, _, _, _], _ => rfl⟩
theorem mk_law {P : Program} {w : World} {K : PySem.W.Frag} {mg : Str → Option Value} {base : Heap} {CX : CXT} {k : Nat} {sp : Sp} (T : TX K mg) (h : ∀ fd, FunD K "law" "law" (defArgs s_law) (defBody s_law) (defScope s_law) [] [] (He.fAd K at_law) fd → FnOk P w K mg base CX k (He.fAd K at_law) fd ps_law sp) :
    Can P w K mg base CX k (He.fAd K at_law) ps_law [] sp := by
  obtain ⟨fd, F⟩ := T.d 21 _ rfl
  exact ⟨fd, h fd F, [], .nil, FunD.bindsN F fun _ _ _ _ _ _ us hl => match us, hl with | [_], _ => rfl⟩
/-! ### the deck and its draws -/
/-- a deck stands at d: the script's copy, the next cell, what is left of one, the state -/
def Deck (H : Hp) (d s : Addr) : Prop := ∃ (ns : List Int) (i c x : Int), H d = some (.lst [.ref s, .int i, .int c, .int x]) ∧ H s = some (.lst (ns.map V.int)) ∧ 0 ≤ i
theorem Deck.kp {S : List Addr} {H H' : Hp} {d s : Addr} (D : Deck H d s) (e : Kp S H H') (h1 : d ∉ S) (h2 : s ∉ S) : Deck H' d s := by
  obtain ⟨ns, i, c, x, g1, g2, g3⟩ := D
  exact ⟨ns, i, c, x, e.at g1 h1, e.at g2 h2, g3⟩
theorem Deck.keep {H H' : Hp} {d s : Addr} (D : Deck H d s) (e : Ex H H') : Deck H' d s := D.kp (S := []) (Kp.of e) (by simp) (by simp)
theorem Deck.lst {H : Hp} {d s : Addr} (D : Deck H d s) : H d ≠ none := by
  obtain ⟨ns, i, c, x, h1, _⟩ := D
  rw [h1]
  intro z
  cases z
theorem Deck.lst2 {H : Hp} {d s : Addr} (D : Deck H d s) : H s ≠ none := by
  obtain ⟨ns, i, c, x, _, h1, _⟩ := D
  rw [h1]
  intro z
  cases z
theorem Deck.ne_new {H : Hp} {d s p : Addr} (D : Deck H d s) (h : H p = none) : p ≠ d := fun e => D.lst (e ▸ h)
theorem Deck.ne_new2 {H : Hp} {d s p : Addr} (D : Deck H d s) (h : H p = none) : p ≠ s := fun e => D.lst2 (e ▸ h)
theorem Deck.put {H : Hp} {d s p : Addr} {o : HO} (D : Deck H d s) (h : H p = none) : Deck (upd H p o) d s := D.keep (Ex.new h)
theorem Deck.mut {H : Hp} {d s p : Addr} {o : HO} (D : Deck H d s) (h : p ≠ d) (h2 : p ≠ s) : Deck (upd H p o) d s := D.kp (Kp.up (p := p)) (fun z => h (List.mem_singleton.mp z).symm) (fun z => h2 (List.mem_singleton.mp z).symm)
def spDraw : Sp := fun vs H Q _ => ∃ (d s : Addr) (m : Int), vs = [.ref d, .int m] ∧ 0 < m ∧ m < 1073741824 ∧ Deck H d s ∧ ∀ (v : Int) (H' : Hp), 0 ≤ v → v < m → Deck H' d s → Kp [d] H H' → Q (.int v) H'
theorem fmod_in {i m : Int} (h : 0 < m) : 0 ≤ i.fmod m ∧ i.fmod m < m := by
  rw [Int.fmod_eq_emod_of_nonneg i (Int.le_of_lt h)]
  exact ⟨Int.emod_nonneg _ (by omega), Int.emod_lt_of_pos _ h⟩
section
variable {P : Program} {w : World} {K : PySem.W.Frag} {mg : Str → Option Value} {base : Heap}
theorem ok__law_draw (T : TX K mg) : Can P w K mg base CX0 1 (He.fAd K at__law_draw) ps__law_draw [] spDraw := mk__law_draw T fun fd F => def0 F sc__law_draw (fun vs H Q E h => by
  obtain ⟨d, z, m, rfl, _⟩ := h
  rfl) fun cdv A outer s H vs Q E hr h => by
  obtain ⟨d, z, m, rfl, m0, m1, ⟨ns, i, c, x, hd, hz, hi⟩, k⟩ := h
  have nzd : z ≠ d := by
    intro e
    rw [e, hd] at hz
    cases ns with
    | nil => cases hz
    | cons n r => cases hz
  have hz' : ∀ o, upd H d o z = some (.lst (ns.map V.int)) := fun o => by rw [upd_ne nzd]; exact hz
  refine ⟨_, (pss_cons (ps_if (pt_cmpR op_ge (pe_ix (ixL K rfl) (pv 0) pe_int (fun _ _ => rfl)) (pv 1) (nomark _)) (pss_cons (ps_set (i := 3) sc__law_draw.nd rfl (Or.inl rfl) (pe_op op_modN (pe_callTy call_int1 (by rfl) T.n_int (by decide +kernel) (pa_cons (pe_ix (ixL K rfl) (pv 0) pe_int (fun _ _ => rfl)) pa_nil)) (pv 1)))
  (pss_cons (ps_asg (pe_op op_fdivN (pe_ix (ixL K rfl) (pv 0) pe_int (fun _ _ => rfl)) (pv 1)) (pg_sub (pv 0) pe_int set_list))
  (pss_one (ps_ret (pv 3))))) pss_nil)
  (pss_cons (ps_set (i := 2) sc__law_draw.nd rfl (Or.inl rfl) pe_int)
  (Evl.pss_cut (ps_if (pt_cmpR op_lt (pe_ix (ixL K rfl) (pv 0) pe_int (fun _ _ => rfl)) (pe_callB (cLen K rfl) (by rfl) T.n_len PySem.boot_len (pa_cons (pe_ix (ixL K rfl) (pv 0) pe_int (fun _ _ => rfl)) pa_nil)) (nomark _)) (pss_one (ps_set (i := 2) sc__law_draw.nd rfl (Or.inl rfl) (pe_ix (ixL K rfl) (pe_ix (ixL K rfl) (pv 0) pe_int (fun _ _ => rfl)) (pe_ix (ixL K rfl) (pv 0) pe_int (fun _ _ => rfl)) (fun _ _ => rfl)))) pss_nil)
  (pss_cons (ps_asg (pe_op op_add (pe_ix (ixL K rfl) (pv 0) pe_int (fun _ _ => rfl)) pe_int) (pg_sub (pv 0) pe_int set_list))
  (pss_cons (ps_asg pe_int (pg_sub (pv 0) pe_int set_list))
  (pss_cons (ps_if (pt_cmpR op_ge (pv 2) (pe_op op_pow pe_int pe_int) (nomark _)) (pss_cons (ps_asg (pe_op op_fdivN (pv 2) (pv 1)) (pg_sub (pv 0) pe_int set_list))
  (pss_one (ps_ret (pe_op op_modN (pe_callTy call_int1 (by rfl) T.n_int (by decide +kernel) (pa_cons (pv 2) pa_nil)) (pv 1))))) pss_nil)
  (pss_cons (ps_asg (pe_op op_modN (pe_callTy call_int1 (by rfl) T.n_int (by decide +kernel) (pa_cons (pe_op op_add (pe_op op_add (pe_op op_mul (pe_ix (ixL K rfl) (pv 0) pe_int (fun _ _ => rfl)) pe_int) (pe_op op_mul (pv 2) pe_int)) (pe_op op_mul (pe_ix (ixL K rfl) (pv 0) pe_int (fun _ _ => rfl)) pe_int)) pa_nil)) pe_int) (pg_sub (pv 0) pe_int set_list))
  (pss_cons (ps_asg (pe_op op_modN (pe_callTy call_int1 (by rfl) T.n_int (by decide +kernel) (pa_cons (pe_op op_add (pe_op op_mul (pe_ix (ixL K rfl) (pv 0) pe_int (fun _ _ => rfl)) pe_int) pe_int) pa_nil)) pe_int) (pg_sub (pv 0) pe_int set_list))
  (pss_one (ps_ret (pe_op op_modN (pe_callTy call_int1 (by rfl) T.n_int (by decide +kernel) (pa_cons (pe_op op_fdivN (pe_ix (ixL K rfl) (pv 0) pe_int (fun _ _ => rfl)) pe_int) pa_nil)) (pv 1)))))))))))), ?_⟩
  -- if deck[2] >= most
  refine ⟨_, rfl, d, _, _, _, rfl, rfl, SqL.of hd, rfl, _, rfl, _, _, rfl, rfl, _, rfl, ?_⟩
  refine ite2 (fun _ => ?_) (fun _ => ?_)
  · refine ⟨_, rfl, d, _, _, _, rfl, rfl, SqL.of hd, rfl, .inl ⟨_, rfl, _, rfl, _, _, rfl, rfl, (by omega), ?_⟩⟩
    refine ⟨_, rfl, d, _, _, _, rfl, rfl, SqL.of hd, rfl, _, rfl, _, _, rfl, rfl, ⟨by omega, by omega⟩, _, rfl, d, _, _, 2, rfl, rfl, hd, rfl, _, rfl, ?_⟩
    exact k _ _ (fmod_in m0).1 (fmod_in m0).2 ⟨ns, i, _, x, upd_same, hz' _, hi⟩ (Kp.put (by simp))
  · -- cell = 0; if deck[1] < len(deck[0]): cell = deck[0][deck[1]]
    refine ⟨fun σ' H' => ∃ y : Int, σ' = [some (.ref d), some (.int m), some (.int y), none] ∧ H' = H, ?_, ?_⟩
    · refine ⟨_, rfl, d, _, _, _, rfl, rfl, SqL.of hd, rfl, _, rfl, d, _, _, _, rfl, rfl, SqL.of hd, rfl, z, _, rfl, .inl (SqL.of hz), _, _, rfl, rfl, _, rfl, ?_⟩
      refine ite2 (fun hlt => ?_) (fun _ => ⟨0, rfl, rfl⟩)
      have hlt' : i < (ns.map V.int).length := of_decide_eq_true hlt
      rw [List.length_map] at hlt'
      have hj : i.toNat < ns.length := by omega
      have e : atI (ns.map V.int) i = some (V.int (ns[i.toNat]'hj)) := at_of (j := i.toNat) (by omega) (by rw [List.getElem?_map, List.getElem?_eq_getElem hj] <;> rfl)
      exact ⟨_, rfl, d, _, _, _, rfl, rfl, SqL.of hd, rfl, _, rfl, d, _, _, _, rfl, rfl, SqL.of hd, rfl, z, _, i, _, rfl, rfl, SqL.of hz, e, _, rfl, rfl⟩
    · rintro σ' H' ⟨y, rfl, rfl⟩
      -- deck[1] = deck[1] + 1; deck[2] = 0
      refine ⟨_, rfl, d, _, _, _, rfl, rfl, SqL.of hd, rfl, _, _, rfl, rfl, _, rfl, d, _, _, 1, rfl, rfl, hd, rfl, ?_⟩
      refine ⟨_, rfl, d, _, _, 2, rfl, rfl, upd_same, rfl, ?_⟩
      rw [upd_upd]
      -- if cell >= 10 ** 18
      refine ⟨_, rfl, _, _, rfl, rfl, ⟨by decide, by decide, by decide⟩, _, _, rfl, rfl, _, rfl, ?_⟩
      refine ite2 (fun _ => ?_) (fun _ => ?_)
      · refine ⟨_, rfl, _, rfl, _, _, rfl, rfl, ⟨by omega, by omega⟩, _, rfl, d, _, _, 2, rfl, rfl, upd_same, rfl, ?_⟩
        rw [upd_upd]
        refine ⟨_, rfl, .inl ⟨_, rfl, _, rfl, _, _, rfl, rfl, (by omega), ?_⟩⟩
        exact k _ _ (fmod_in m0).1 (fmod_in m0).2 ⟨ns, _, _, x, upd_same, hz' _, by omega⟩ (Kp.put (by simp))
      · -- deck[3] = ..; deck[3] = ..; return
        refine ⟨_, rfl, d, _, _, _, rfl, rfl, SqL.of upd_same, rfl, _, _, rfl, rfl, .inr ⟨by decide, by decide⟩, _, rfl, _, _, rfl, rfl, .inr ⟨by decide, by decide⟩, _, _, rfl, rfl, _, rfl, d, _, _, _, rfl, rfl, SqL.of upd_same, rfl, _, _, rfl, rfl, .inr ⟨by decide, by decide⟩, _, _, rfl, rfl,
          .inl ⟨_, rfl, _, _, rfl, rfl, (by show (2147483647 : Int) ≠ 0; decide), _, rfl, d, _, _, 3, rfl, rfl, upd_same, rfl, ?_⟩⟩
        rw [upd_upd]
        refine ⟨_, rfl, d, _, _, _, rfl, rfl, SqL.of upd_same, rfl, _, _, rfl, rfl, .inr ⟨by decide, by decide⟩, _, _, rfl, rfl, .inl ⟨_, rfl, _, _, rfl, rfl, (by show (2147483647 : Int) ≠ 0; decide), _, rfl, d, _, _, 3, rfl, rfl, upd_same, rfl, ?_⟩⟩
        rw [upd_upd]
        refine ⟨_, rfl, d, _, _, _, rfl, rfl, SqL.of upd_same, rfl, _, _, rfl, rfl, ⟨by decide, by decide⟩, .inl ⟨_, rfl, _, rfl, _, _, rfl, rfl, (by omega), ?_⟩⟩
        exact k _ _ (fmod_in m0).1 (fmod_in m0).2 ⟨ns, _, _, _, upd_same, hz' _, by omega⟩ (Kp.put (by simp))
/-- the deck of a script -/
def spDeck (K : PySem.W.Frag) : Sp := fun vs H Q _ => ∃ (a : Addr) (ns : List Int), vs = [.ref a] ∧ SqL K H a (ns.map V.int) ∧ ∀ (d s : Addr) (H' : Hp), H d = none → H s = none → Deck H' d s → Ex H H' → Q (.ref d) H'
theorem ok__law_deck (T : TX K mg) : Can P w K mg base CX0 1 (He.fAd K at__law_deck) ps__law_deck [] (spDeck K) := mk__law_deck T fun fd F => def0 F sc__law_deck (fun vs H Q E h => by
  obtain ⟨a, ns, rfl, _⟩ := h
  rfl) fun cdv A outer s H vs Q E hr h => by
  obtain ⟨a, ns, rfl, hS, k⟩ := h
  refine ⟨_, (pss_one (ps_ret (pe_lst (pa_cons (pe_callTy (cList K rfl) (by rfl) T.n_list (by decide +kernel) (pa_cons (pv 0) pa_nil)) (pa_cons pe_int (pa_cons pe_int (pa_cons pe_int pa_nil))))))), ?_⟩
  refine ⟨_, rfl, a, _, rfl, .inl hS, fun z hz => ?_⟩
  refine ⟨by show 4 ≤ sizeLine; decide, fun d hd => ?_⟩
  have ne : d ≠ z := fun e => by rw [e, upd_same] at hd; cases hd
  rw [upd_ne ne] at hd
  refine k d z _ hd hz ⟨ns, 0, 0, 7, upd_same, by rw [upd_ne (Ne.symm ne), upd_same], by decide⟩ ((Ex.new hz).trans (Ex.new ?_))
  rw [upd_ne ne]
  exact hd
end
theorem rd_draw {σ : L2.St} {H : Hp} {i : Nat} {te : TE} {d s : Addr} {m : Int} {Q : VK} {E : XK} (hσ : σ[i]? = some (some (.ref d))) (hm : Val te σ H (.int m)) (m0 : 0 < m) (m1 : m < 1073741824) (D : Deck H d s)
    (k : ∀ (v : Int) (H' : Hp), 0 ≤ v → v < m → Deck H' d s → Kp [d] H H' → Q (.int v) H') : tCall spDraw [] E (tCons (tVar i) (tCons te tNil)) σ H Q := ⟨_, hσ, hm _ ⟨d, s, m, rfl, m0, m1, D, k⟩⟩
/-- a comprehension over a range whose items are drawn -/
theorem lc_drawn {d sc : Addr} {σ : L2.St} {H : Hp} {j : Nat} {ta : TA} {te : TE} {Pn : Nat → Prop} {Pz : Int → Prop} {Q : VK} (hN : ∀ n, Pn n → n ≤ 10000) (hta : ∀ R : List V → Hp → Prop, (∀ (n : Nat) (H1 : Hp), Pn n → Deck H1 d sc → Kp [d] H H1 → R [.int (n : Int)] H1) → ta σ H R)
    (hw : ∀ y, wipe ((wipe σ [j]).set j (some y)) [j] = wipe σ [j])
    (hte : ∀ y H1, Kp [d] H H1 → Deck H1 d sc → ∀ R : VK, (∀ (v : Int) (H2 : Hp), Pz v → Deck H2 d sc → Kp [d] H1 H2 → R (.int v) H2) → te ((wipe σ [j]).set j (some y)) H1 R)
    (k : ∀ (p : Addr) (row : List Int) (H' : Hp), H p = none → (∀ z ∈ row, Pz z) → Pn row.length → Deck H' d sc → Kp [d] H H' → H' p = some (.lst (row.map V.int)) → Q (.ref p) H') : tLc (iRng1 ta) (gName j) tYes te [j] σ H Q := by
  refine hta _ fun n H1 hp D1 e1 => ⟨(n : Int), rfl, by omega, by have := hN n hp; omega, fun L hL => lc_range (lo := 0) (n := n) (fun i H' => Kp [d] H1 H' ∧ Deck H' d sc ∧ ∃ acc : List Int, H' L = some (.lst (acc.map V.int)) ∧ acc.length = i ∧ ∀ z ∈ acc, Pz z)
    ⟨Kp.new hL, D1.put hL, [], upd_same, rfl, fun z hz => absurd hz (by simp)⟩ ?_ ?_⟩
  · rintro i H2 hi ⟨e2, D2, acc, hacc, hl, hz⟩
    refine ⟨hw _, ?_⟩
    refine hte _ H2 (e1.trans e2) D2 _ fun v H3 hv D3 e3 => ?_
    have nLd : L ≠ d := D1.ne_new hL
    have nLs : L ≠ sc := D1.ne_new2 hL
    have hacc3 : H3 L = some (.lst (acc.map V.int)) := e3.at hacc (by simpa using nLd)
    refine ⟨_, hacc3, Nat.lt_of_le_of_lt (show _ ≤ 100000 by rw [List.length_map]; have := hN n hp; omega) (by decide), (e2.trans e3).mut hL, D3.mut nLd nLs, acc ++ [v], ?_, by rw [List.length_append, hl]; rfl, fun z hz' => ?_⟩
    · rw [upd_same, List.map_append]
      rfl
    · rcases List.mem_append.mp hz' with h | h
      · exact hz z h
      · rw [List.mem_singleton.mp h]
        exact hv
  · rintro H2 ⟨e2, D2, acc, hacc, hl, hz⟩
    have hLH : H L = none := e1.back (fun a ha => by rw [List.mem_singleton.mp ha]; exact D1.lst) hL
    exact k L acc H2 hLH hz (by rw [hl]; exact hp) D2 (e1.trans e2) hacc
/-! ### the same data -/
/-- a value's class, by the data that it is -/
def nameD : PyData → String
  | .none => "NoneType"
  | .bool _ => "bool"
  | .int _ => "int"
  | .str _ => "str"
  | .list _ => "list"
  | .tuple _ => "tuple"
  | .dict _ => "dict"
theorem ty_sqL {K : PySem.W.Frag} {H : Hp} {a : Addr} {xs : List V} (h : SqL K H a xs) : TyX K H (.ref a) (.type "list") := by
  rcases h with (h | ⟨o, h⟩) | ⟨o, its, n, hk, hc, _⟩
  · exact .base (.lst h)
  · exact .base (.frz h)
  · exact .kList hk hc
theorem ty_sqT {K : PySem.W.Frag} {H : Hp} {a : Addr} {xs : List V} (h : SqT K H a xs) : TyX K H (.ref a) (.type "tuple") := by
  rcases h with (h | ⟨o, h⟩) | ⟨o, its, n, hk, hc, _⟩
  · exact .base (.tup h)
  · exact .fTuple h
  · exact .kTuple hk hc
theorem ty_dp {K : PySem.W.Frag} {H : Hp} {x : V} {d : PyData} (h : Dp K H x d) : TyX K H x (.type (nameD d)) := by
  cases h with
  | non => exact .base .non
  | bl b => exact .base (.bl b)
  | int i => exact .base (.int i)
  | str z => exact .base (.str z)
  | lst h _ => exact ty_sqL h
  | tup h _ => exact ty_sqT h
theorem dpAll_len {K : PySem.W.Frag} {H : Hp} {xs : List V} {ds : List PyData} (h : DpAll K H xs ds) : xs.length = ds.length := by
  induction ds generalizing xs with
  | nil => cases h; rfl
  | cons d ds ih =>
    cases h with
    | cons a b => rw [List.length_cons, List.length_cons, ih b]
theorem dpAll_at {K : PySem.W.Frag} {H : Hp} {xs : List V} {ds : List PyData} (h : DpAll K H xs ds) {i : Nat} {d : PyData} (e : ds[i]? = some d) : ∃ x, xs[i]? = some x ∧ Dp K H x d := by
  induction ds generalizing xs i with
  | nil => cases e
  | cons c ds ih =>
    cases h with
    | cons a b =>
      cases i with
      | zero =>
        have e' : c = d := Option.some.inj e
        exact ⟨_, rfl, e' ▸ a⟩
      | succ i => exact ih b e
theorem depth_at {ds : List PyData} {i : Nat} {d : PyData} (e : ds[i]? = some d) : d.depth ≤ PyData.depthAll ds := by
  induction ds generalizing i with
  | nil => cases e
  | cons c ds ih =>
    rw [PyData.depthAll]
    cases i with
    | zero =>
      have e' : c = d := Option.some.inj e
      subst e'
      exact Nat.le_max_left _ _
    | succ i => exact Nat.le_trans (ih e) (Nat.le_max_right _ _)
theorem dpAll_ints {K : PySem.W.Frag} {H : Hp} : ∀ ns : List Int, DpAll K H (ns.map V.int) (ns.map PyData.int)
  | [] => .nil
  | n :: r => .cons (.int n) (dpAll_ints r)
theorem depth_ints : ∀ ns : List Int, PyData.depthAll (ns.map PyData.int) = 0
  | [] => rfl
  | n :: r => by rw [List.map_cons, PyData.depthAll, depth_ints r, PyData.depth]; rfl
mutual
def lenD : PyData → Nat
  | .list xs => lenAll xs
  | .tuple xs => lenAll xs
  | .dict _ => 0
  | .none => 0
  | .bool _ => 0
  | .int _ => 0
  | .str _ => 0
def lenAll : List PyData → Nat
  | [] => 0
  | x :: xs => lenD x + 1 + lenAll xs
end
theorem len_le : ∀ ds : List PyData, ds.length ≤ lenAll ds
  | [] => Nat.le_refl _
  | d :: ds => by
    have := len_le ds
    rw [lenAll, List.length_cons]
    omega
theorem len_at : ∀ {ds : List PyData} {i : Nat} {d : PyData}, ds[i]? = some d → lenD d ≤ lenAll ds
  | [], _, _, e => by cases e
  | c :: ds, 0, d, e => by
    have e' : c = d := Option.some.inj e
    subst e'
    rw [lenAll]
    omega
  | c :: ds, i + 1, d, e => by
    have := len_at (ds := ds) (i := i) e
    rw [lenAll]
    omega
theorem lenAll_ints : ∀ ns : List Int, lenAll (ns.map PyData.int) = ns.length
  | [] => rfl
  | n :: r => by rw [List.map_cons, lenAll, lenAll_ints r, lenD, List.length_cons]; omega
/-- two values that are the same data, less than n deep: True -/
def spSame (K : PySem.W.Frag) (n : Nat) : Sp := fun vs H Q _ => ∃ (x y : V) (d : PyData), vs = [x, y] ∧ Dp K H x d ∧ Dp K H y d ∧ d.depth < n ∧ lenD d < 2 ^ 62 ∧ Q (.bl true) H
section
variable {P : Program} {w : World} {K : PySem.W.Frag} {mg : Str → Option Value} {base : Heap}
theorem ok_same (T : TX K mg) : ∀ n, Can P w K mg base CX0 n (He.fAd K at__law_same) ps__law_same [] (spSame K n)
  | 0 => by
    obtain ⟨fd, _, b⟩ := mk__law_same (P := P) (w := w) (base := base) (CX := CX0) (k := 0) (sp := fun _ _ _ _ => False) T fun fd F => ⟨fun _ _ _ _ h => h.elim, fun _ _ _ _ _ _ _ _ _ _ _ _ _ h => h.elim⟩
    exact ⟨fd, ⟨fun _ _ _ _ ⟨_, _, _, _, _, _, h, _⟩ => absurd h (Nat.not_lt_zero _), fun _ _ _ _ _ _ _ _ _ _ _ _ _ ⟨_, _, _, _, _, _, h, _⟩ => absurd h (Nat.not_lt_zero _)⟩, b⟩
  | n + 1 => by
    obtain ⟨fd_s, G__law_same, ds_s, v__law_same, b__law_same⟩ := ok_same T n
    exact mk__law_same T fun fd F => def0 F sc__law_same (fun vs H Q E h => by
      obtain ⟨x, y, d, rfl, _⟩ := h
      rfl) fun cdv A outer s H vs Q E hr h => by
      obtain ⟨x, y, d, rfl, hx, hy, hd, hz0, k⟩ := h
      refine ⟨_, (pss_cons (ps_if (PW.pt (pw_or (pt_val (pe_callB (cIsi K rfl) (by rfl) T.n_isinstance (by decide +kernel) (pa_cons (pv 1) (pa_cons (pe_bltn (v := .ty "tuple") rfl T.n_tuple (by decide +kernel) rfl) pa_nil)))) (pw_or1 (pt_val (pe_callB (cIsi K rfl) (by rfl) T.n_isinstance (by decide +kernel) (pa_cons (pv 1) (pa_cons (pe_bltn (v := .ty "list") rfl T.n_list (by decide +kernel) rfl) pa_nil))))))) (pss_cons (ps_if (PW.pt (pw_or (pt_cmpR op_ne (pe_callB (cIsi K rfl) (by rfl) T.n_isinstance (by decide +kernel) (pa_cons (pv 1) (pa_cons (pe_bltn (v := .ty "tuple") rfl T.n_tuple (by decide +kernel) rfl) pa_nil))) (pe_callB (cIsi K rfl) (by rfl) T.n_isinstance (by decide +kernel) (pa_cons (pv 0) (pa_cons (pe_bltn (v := .ty "tuple") rfl T.n_tuple (by decide +kernel) rfl) pa_nil))) (nomark _)) (pw_or1 (pt_cmpR op_ne (pe_callB (cIsi K rfl) (by rfl) T.n_isinstance (by decide +kernel) (pa_cons (pv 1) (pa_cons (pe_bltn (v := .ty "list") rfl T.n_list (by decide +kernel) rfl) pa_nil))) (pe_callB (cIsi K rfl) (by rfl) T.n_isinstance (by decide +kernel) (pa_cons (pv 0) (pa_cons (pe_bltn (v := .ty "list") rfl T.n_list (by decide +kernel) rfl) pa_nil))) (nomark _))))) (pss_one (ps_ret pe_bl)) pss_nil)
  (pss_cons (ps_if (pt_cmpR op_ne (pe_callB (cLen K rfl) (by rfl) T.n_len PySem.boot_len (pa_cons (pv 0) pa_nil)) (pe_callB (cLen K rfl) (by rfl) T.n_len PySem.boot_len (pa_cons (pv 1) pa_nil)) (nomark _)) (pss_one (ps_ret pe_bl)) pss_nil)
  (pss_cons (ps_for PassesOwn.never rfl (pi_range1 rfl T.n_range (pa_cons (pe_callB (cLen K rfl) (by rfl) T.n_len PySem.boot_len (pa_cons (pv 1) pa_nil)) pa_nil)) (pg_name (i := 2) sc__law_same.nd rfl (Or.inl rfl))
  (pss_one (ps_if (pt_not (pt_val (pe_call G__law_same (hr.mono (by first | decide | omega)) rfl T.g__law_same T.k__law_same b__law_same v__law_same pass0 (pa_cons (pe_ix (ixS K rfl) (pv 0) (pv 2) (fun _ _ => rfl)) (pa_cons (pe_ix (ixS K rfl) (pv 1) (pv 2) (fun _ _ => rfl)) pa_nil))))) (pss_one (ps_ret pe_bl)) pss_nil)))
  (pss_one (ps_ret pe_bl))))) pss_nil)
  (pss_cons (ps_if (PW.pt (pw_or (pt_val (pe_callB (cIsi K rfl) (by rfl) T.n_isinstance (by decide +kernel) (pa_cons (pv 1) (pa_cons (pe_bltn (v := .ty "bool") rfl T.n_bool (by decide +kernel) rfl) pa_nil)))) (pw_or1 (pt_val (pe_callB (cIsi K rfl) (by rfl) T.n_isinstance (by decide +kernel) (pa_cons (pv 0) (pa_cons (pe_bltn (v := .ty "bool") rfl T.n_bool (by decide +kernel) rfl) pa_nil))))))) (pss_one (ps_ret (pe_and (pe_callB (cIsi K rfl) (by rfl) T.n_isinstance (by decide +kernel) (pa_cons (pv 1) (pa_cons (pe_bltn (v := .ty "bool") rfl T.n_bool (by decide +kernel) rfl) pa_nil))) (pe_and (pe_callB (cIsi K rfl) (by rfl) T.n_isinstance (by decide +kernel) (pa_cons (pv 0) (pa_cons (pe_bltn (v := .ty "bool") rfl T.n_bool (by decide +kernel) rfl) pa_nil))) (pe_one (pe_cmpR op_eq (pv 1) (pv 0) (nomark _))))))) pss_nil)
  (pss_cons (ps_if (pt_val (pe_callB (cIsi K rfl) (by rfl) T.n_isinstance (by decide +kernel) (pa_cons (pv 1) (pa_cons (pe_bltn (v := .ty "int") rfl T.n_int (by decide +kernel) rfl) pa_nil)))) (pss_one (ps_ret (pe_and (pe_callB (cIsi K rfl) (by rfl) T.n_isinstance (by decide +kernel) (pa_cons (pv 0) (pa_cons (pe_bltn (v := .ty "int") rfl T.n_int (by decide +kernel) rfl) pa_nil))) (pe_one (pe_cmpR op_eq (pv 0) (pv 1) (nomark _)))))) pss_nil)
  (pss_cons (ps_if (pt_val (pe_callB (cIsi K rfl) (by rfl) T.n_isinstance (by decide +kernel) (pa_cons (pv 1) (pa_cons (pe_bltn (v := .ty "str") rfl T.n_str (by decide +kernel) rfl) pa_nil)))) (pss_one (ps_ret (pe_and (pe_callB (cIsi K rfl) (by rfl) T.n_isinstance (by decide +kernel) (pa_cons (pv 0) (pa_cons (pe_bltn (v := .ty "str") rfl T.n_str (by decide +kernel) rfl) pa_nil))) (pe_one (pe_cmpR op_eq (pv 0) (pv 1) (nomark _)))))) pss_nil)
  (pss_one (ps_ret (pe_and (pe_cmpR op_isN (pv 1) pe_non (nomark _)) (pe_one (pe_cmpR op_isN (pv 0) pe_non (nomark _)))))))))), ?_⟩
      have tx := ty_dp hx
      have ty := ty_dp hy
      cases hx with
      | non =>
        cases hy
        replace tx : TyX K H .non (.type "NoneType") := tx
        replace ty : TyX K H .non (.type "NoneType") := ty
        refine st_seq (st_no (ans_or (ans_val (val_isi (val_var rfl) ty (by decide +kernel))) (ans_val (val_isi (val_var rfl) ty (by decide +kernel)))) ?_)
        refine st_seq (st_no (ans_or (ans_val (val_isi (val_var rfl) ty (by decide +kernel))) (ans_val (val_isi (val_var rfl) tx (by decide +kernel)))) ?_)
        refine st_seq (st_no (ans_val (val_isi (val_var rfl) ty (by decide +kernel))) ?_)
        refine st_seq (st_no (ans_val (val_isi (val_var rfl) ty (by decide +kernel))) ?_)
        exact st_ret (v := .bl true) (val_is (val_and (val_isN (val_var rfl)) fun _ => val_isN (val_var rfl)) (by simp)) k
      | bl b =>
        cases hy
        replace tx : TyX K H (.bl b) (.type "bool") := tx
        replace ty : TyX K H (.bl b) (.type "bool") := ty
        refine st_seq (st_no (ans_or (ans_val (val_isi (val_var rfl) ty (by decide +kernel))) (ans_val (val_isi (val_var rfl) ty (by decide +kernel)))) ?_)
        refine st_seq (st_yes (ans_or1 (ans_val (val_isi (val_var rfl) ty (by decide +kernel)))) ?_)
        exact st_ret (v := .bl true) (val_is (val_and (val_isi (b := true) (val_var rfl) ty (by decide +kernel)) fun _ => val_and (val_isi (b := true) (val_var rfl) tx (by decide +kernel)) fun _ => val_eq (val_var rfl) (val_var rfl) rfl) (by simp)) k
      | int i =>
        cases hy
        replace tx : TyX K H (.int i) (.type "int") := tx
        replace ty : TyX K H (.int i) (.type "int") := ty
        refine st_seq (st_no (ans_or (ans_val (val_isi (val_var rfl) ty (by decide +kernel))) (ans_val (val_isi (val_var rfl) ty (by decide +kernel)))) ?_)
        refine st_seq (st_no (ans_or (ans_val (val_isi (val_var rfl) ty (by decide +kernel))) (ans_val (val_isi (val_var rfl) tx (by decide +kernel)))) ?_)
        refine st_seq (st_yes (ans_val (val_isi (val_var rfl) ty (by decide +kernel))) ?_)
        exact st_ret (v := .bl true) (val_is (val_and (val_isi (b := true) (val_var rfl) tx (by decide +kernel)) fun _ => val_eq (val_var rfl) (val_var rfl) rfl) (by simp)) k
      | str z =>
        cases hy
        replace tx : TyX K H (.str z) (.type "str") := tx
        replace ty : TyX K H (.str z) (.type "str") := ty
        refine st_seq (st_no (ans_or (ans_val (val_isi (val_var rfl) ty (by decide +kernel))) (ans_val (val_isi (val_var rfl) ty (by decide +kernel)))) ?_)
        refine st_seq (st_no (ans_or (ans_val (val_isi (val_var rfl) ty (by decide +kernel))) (ans_val (val_isi (val_var rfl) tx (by decide +kernel)))) ?_)
        refine st_seq (st_no (ans_val (val_isi (val_var rfl) ty (by decide +kernel))) ?_)
        refine st_seq (st_yes (ans_val (val_isi (val_var rfl) ty (by decide +kernel))) ?_)
        exact st_ret (v := .bl true) (val_is (val_and (val_isi (b := true) (val_var rfl) tx (by decide +kernel)) fun _ => val_eq (val_var rfl) (val_var rfl) rfl) (by simp)) k
      | @lst a xs ds sx ax =>
        cases hy with
        | @lst b ys _ sy ay =>
          replace tx : TyX K H (.ref a) (.type "list") := tx
          replace ty : TyX K H (.ref b) (.type "list") := ty
          have hd' : PyData.depthAll ds < n := by
            rw [PyData.depth] at hd
            omega
          have ex := dpAll_len ax
          have ey := dpAll_len ay
          rw [lenD] at hz0
          have hz := Nat.lt_of_le_of_lt (len_le ds) hz0
          refine st_seq (st_yes (ans_or (ans_val (val_isi (val_var rfl) ty (by decide +kernel))) (ans_val (val_isi (val_var rfl) ty (by decide +kernel)))) ?_)
          refine st_seq (st_no (ans_or (ans_v (val_is (w := .bl false) (val_ne (val_isi (b := false) (val_var rfl) ty (by decide +kernel)) (val_isi (b := false) (val_var rfl) tx (by decide +kernel)) rfl) rfl)) (ans_v (val_is (w := .bl false) (val_ne (val_isi (b := true) (val_var rfl) ty (by decide +kernel)) (val_isi (b := true) (val_var rfl) tx (by decide +kernel)) rfl) rfl))) ?_)
          refine st_seq (st_no (ans_v (val_is (w := .bl false) (val_ne (val_lenL (val_var rfl) sx) (val_lenL (val_var rfl) sy) rfl) (by rw [ex, ey]; simp))) ?_)
          refine st_seq (st_forR (n := ds.length) (va_one (val_is (val_lenL (val_var rfl) sy) (by rw [ey]))) hz (fun i σ H' => ∃ v, σ = [some (.ref a), some (.ref b), v] ∧ H' = H) ⟨none, rfl, rfl⟩ ?_ ?_)
          · rintro i σ H' hi ⟨v, rfl, rfl⟩
            obtain ⟨u1, g1, g2⟩ := dpAll_at ax (List.getElem?_eq_getElem hi)
            obtain ⟨u2, g3, g4⟩ := dpAll_at ay (List.getElem?_eq_getElem hi)
            have h3 := depth_at (List.getElem?_eq_getElem hi)
            have h4 := len_at (List.getElem?_eq_getElem hi)
            exact st_no (ans_is (ans_not (ans_val (val_call (va_two (val_ixSL (val_var rfl) (val_var rfl) sx (atI_nat g1)) (val_ixSL (val_var rfl) (val_var rfl) sy (atI_nat g3))) fun Q q => ⟨_, _, _, rfl, g2, g4, by omega, by omega, q⟩))) rfl) ⟨_, rfl, rfl⟩
          · rintro σ H' ⟨v, rfl, rfl⟩
            exact k
      | @tup a xs ds sx ax =>
        cases hy with
        | @tup b ys _ sy ay =>
          replace tx : TyX K H (.ref a) (.type "tuple") := tx
          replace ty : TyX K H (.ref b) (.type "tuple") := ty
          have hd' : PyData.depthAll ds < n := by
            rw [PyData.depth] at hd
            omega
          have ex := dpAll_len ax
          have ey := dpAll_len ay
          rw [lenD] at hz0
          have hz := Nat.lt_of_le_of_lt (len_le ds) hz0
          refine st_seq (st_yes (ans_or1 (ans_val (val_isi (val_var rfl) ty (by decide +kernel)))) ?_)
          refine st_seq (st_no (ans_or (ans_v (val_is (w := .bl false) (val_ne (val_isi (b := true) (val_var rfl) ty (by decide +kernel)) (val_isi (b := true) (val_var rfl) tx (by decide +kernel)) rfl) rfl)) (ans_v (val_is (w := .bl false) (val_ne (val_isi (b := false) (val_var rfl) ty (by decide +kernel)) (val_isi (b := false) (val_var rfl) tx (by decide +kernel)) rfl) rfl))) ?_)
          refine st_seq (st_no (ans_v (val_is (w := .bl false) (val_ne (val_lenT (val_var rfl) sx) (val_lenT (val_var rfl) sy) rfl) (by rw [ex, ey]; simp))) ?_)
          refine st_seq (st_forR (n := ds.length) (va_one (val_is (val_lenT (val_var rfl) sy) (by rw [ey]))) hz (fun i σ H' => ∃ v, σ = [some (.ref a), some (.ref b), v] ∧ H' = H) ⟨none, rfl, rfl⟩ ?_ ?_)
          · rintro i σ H' hi ⟨v, rfl, rfl⟩
            obtain ⟨u1, g1, g2⟩ := dpAll_at ax (List.getElem?_eq_getElem hi)
            obtain ⟨u2, g3, g4⟩ := dpAll_at ay (List.getElem?_eq_getElem hi)
            have h3 := depth_at (List.getElem?_eq_getElem hi)
            have h4 := len_at (List.getElem?_eq_getElem hi)
            exact st_no (ans_is (ans_not (ans_val (val_call (va_two (val_ixST (val_var rfl) (val_var rfl) sx (atI_nat g1)) (val_ixST (val_var rfl) (val_var rfl) sy (atI_nat g3))) fun Q q => ⟨_, _, _, rfl, g2, g4, by omega, by omega, q⟩))) rfl) ⟨_, rfl, rfl⟩
          · rintro σ H' ⟨v, rfl, rfl⟩
            exact k
end
/-! ### rows of bits: what is kept -/
def pre (row : List Int) (i : Nat) : Int := (row.take i).sum
def sums (row : List Int) : List Int := (List.range (row.length + 1)).map (pre row)
def isAt (row : List Int) (d : Int) (i : Nat) : Bool := decide (row[i]? = some d)
/-- the places below n at which d stands -/
def plcTo (row : List Int) (d : Int) (n : Nat) : List Int := ((List.range n).filter (isAt row d)).map fun (i : Nat) => (i : Int)
def plc (row : List Int) (d : Int) : List Int := plcTo row d row.length
theorem pre_zero (row : List Int) : pre row 0 = 0 := rfl
theorem pre_succ {row : List Int} {i : Nat} {z : Int} (h : row[i]? = some z) : pre row (i + 1) = pre row i + z := sum_take h
theorem pre_all (row : List Int) : pre row row.length = row.sum := by unfold pre; rw [List.take_length]
theorem sums_len (row : List Int) : (sums row).length = row.length + 1 := by unfold sums; rw [List.length_map, List.length_range]
theorem sums_at {row : List Int} {i : Nat} (h : i ≤ row.length) : (sums row)[i]? = some (pre row i) := by
  unfold sums
  rw [List.getElem?_map, List.getElem?_range (by omega)] <;> rfl
theorem plcTo_succ {row : List Int} {d : Int} {n : Nat} : plcTo row d (n + 1) = if isAt row d n = true then plcTo row d n ++ [(n : Int)] else plcTo row d n := by
  unfold plcTo
  rw [List.range_succ, List.filter_append, List.map_append, List.filter_cons]
  by_cases h : isAt row d n = true
  · rw [if_pos h, if_pos h] <;> rfl
  · rw [if_neg h, if_neg h]
    show _ ++ [] = _
    rw [List.append_nil]
theorem plcTo_len (row : List Int) (d : Int) (n : Nat) : (plcTo row d n).length ≤ n := by
  unfold plcTo
  rw [List.length_map]
  have h := List.length_filter_le (isAt row d) (List.range n)
  rwa [List.length_range] at h
theorem int_at {ns : List Int} {i : Nat} {x : V} (h : (ns.map V.int)[i]? = some x) : ∃ z, ns[i]? = some z ∧ x = .int z := by
  rw [List.getElem?_map] at h
  cases e : ns[i]? with
  | none =>
    rw [e] at h
    cases h
  | some z =>
    rw [e] at h
    exact ⟨z, rfl, (Option.some.inj h).symm⟩
theorem at_int {ns : List Int} {i : Nat} {z : Int} (h : ns[i]? = some z) : (ns.map V.int)[i]? = some (V.int z) := by rw [List.getElem?_map, h] <;> rfl
theorem lt_of_at {α : Type} {l : List α} {i : Nat} {x : α} (h : l[i]? = some x) : i < l.length := (List.getElem?_eq_some_iff.mp h).1
theorem small9 {n : Nat} (h : n ≤ 100000) : n < sizeLine := Nat.lt_of_le_of_lt h (by decide)
section
variable {P : Program} {w : World} {K : PySem.W.Frag} {mg : Str → Option Value} {base : Heap}
theorem ok_InvalidRow_init (T : TX K mg) : Can P w K mg base CX0 1 (He.fAd K at_InvalidRow_init) ps_InvalidRow_init [] (spX1 K (He.ga K "InvalidRow") "place") := mk_InvalidRow_init T fun fd F => def0 F sc_InvalidRow_init (fun vs H Q E h => by
  obtain ⟨a, y, rfl, _⟩ := h
  rfl) fun cdv A outer s H vs Q E hr h => by
  obtain ⟨a, y, rfl, O, hno, ha, k⟩ := h
  refine ⟨_, (pss_one (ps_ost (pv 0) (pv 1))), ?_⟩
  exact ⟨_, rfl, _, rfl, a, _, rfl, O, hno, .inl ⟨ha, fun dx n1 n2 => k dx n1 n2⟩⟩
theorem ok_InvalidPlace_init (T : TX K mg) : Can P w K mg base CX0 1 (He.fAd K at_InvalidPlace_init) ps_InvalidPlace_init [] (spX1 K (He.ga K "InvalidPlace") "place") := mk_InvalidPlace_init T fun fd F => def0 F sc_InvalidPlace_init (fun vs H Q E h => by
  obtain ⟨a, y, rfl, _⟩ := h
  rfl) fun cdv A outer s H vs Q E hr h => by
  obtain ⟨a, y, rfl, O, hno, ha, k⟩ := h
  refine ⟨_, (pss_one (ps_ost (pv 0) (pv 1))), ?_⟩
  exact ⟨_, rfl, _, rfl, a, _, rfl, O, hno, .inl ⟨ha, fun dx n1 n2 => k dx n1 n2⟩⟩
end
/-- an InvalidPlace of this place is let out -/
def BadPlace (K : PySem.W.Frag) (H : Hp) (E : XK) (i : Int) : Prop := ∀ d H', H d = none → Ex H H' → H' d = some (.xd [("place", .int i)]) → E (.ref (He.ga K "InvalidPlace")) (some d) H'
/-- the k-th item, or None -/
def kth (l : List Int) (k : Int) : V := match l[k.toNat]? with
  | some z => .int z
  | none => .non
theorem kth_lt {l : List Int} {k : Int} (h0 : 0 ≤ k) (h : k < l.length) : ∃ z, l[k.toNat]? = some z ∧ kth l k = .int z := by
  have h1 : k.toNat < l.length := by omega
  refine ⟨l[k.toNat], List.getElem?_eq_getElem h1, ?_⟩
  unfold kth
  rw [List.getElem?_eq_getElem h1]
theorem kth_ge {l : List Int} {k : Int} (h0 : 0 ≤ k) (h : ¬ k < l.length) : kth l k = .non := by
  unfold kth
  rw [List.getElem?_eq_none (by omega)]
/-! ### ascending places -/
theorem plcTo_mem {row : List Int} {s : Int} {n : Nat} {z : Int} : z ∈ plcTo row s n ↔ ∃ i : Nat, z = (i : Int) ∧ i < n ∧ row[i]? = some s := by
  unfold plcTo isAt
  simp only [List.mem_map, List.mem_filter, List.mem_range, decide_eq_true_eq]
  constructor
  · rintro ⟨i, ⟨h1, h2⟩, rfl⟩
    exact ⟨i, rfl, h1, h2⟩
  · rintro ⟨i, rfl, h1, h2⟩
    exact ⟨i, ⟨h1, h2⟩, rfl⟩
theorem plcTo_lt (row : List Int) (s : Int) (n : Nat) : (plcTo row s n).Pairwise (· < ·) := by
  unfold plcTo
  rw [List.pairwise_map]
  refine List.Pairwise.imp (R := (· < ·)) (fun {a b} h => by omega) ?_
  exact List.Pairwise.filter _ List.pairwise_lt_range
theorem plcTo_split {row : List Int} {s : Int} {i : Nat} : ∀ {n : Nat}, i ≤ n → ∃ r, plcTo row s n = plcTo row s i ++ r ∧ ∀ z ∈ r, (i : Int) ≤ z
  | 0, h => by
    obtain rfl : i = 0 := by omega
    exact ⟨[], by rw [List.append_nil], fun z hz => absurd hz (by simp)⟩
  | n + 1, h => by
    by_cases e : i = n + 1
    · subst e
      exact ⟨[], by rw [List.append_nil], fun z hz => absurd hz (by simp)⟩
    · obtain ⟨r, h1, h2⟩ := plcTo_split (row := row) (s := s) (i := i) (n := n) (by omega)
      rw [plcTo_succ]
      by_cases c : isAt row s n = true
      · rw [if_pos c, h1]
        refine ⟨r ++ [(n : Int)], by rw [List.append_assoc], fun z hz => ?_⟩
        rcases List.mem_append.mp hz with h | h
        · exact h2 z h
        · rw [List.mem_singleton.mp h]
          omega
      · rw [if_neg c]
        exact ⟨r, h1, h2⟩
theorem plcTo_below {row : List Int} {s : Int} {n : Nat} {z : Int} (h : z ∈ plcTo row s n) : 0 ≤ z ∧ z < n := by
  obtain ⟨i, rfl, h1, _⟩ := plcTo_mem.mp h
  omega
theorem filter_all {α : Type} {p : α → Bool} : ∀ {l : List α}, (∀ z ∈ l, p z = true) → l.filter p = l
  | [], _ => rfl
  | a :: r, h => by rw [List.filter_cons, if_pos (h a (List.mem_cons_self ..)), filter_all fun z hz => h z (List.mem_cons_of_mem _ hz)]
theorem filter_none {α : Type} {p : α → Bool} : ∀ {l : List α}, (∀ z ∈ l, p z = false) → l.filter p = []
  | [], _ => rfl
  | a :: r, h => by rw [List.filter_cons, if_neg (by rw [h a (List.mem_cons_self ..)]; decide), filter_none fun z hz => h z (List.mem_cons_of_mem _ hz)]
/-- how many items are less than m -/
def below (ns : List Int) (m : Int) : Nat := (ns.filter fun z => decide (z < m)).length
theorem below_at {ns : List Int} {m : Int} {k : Nat} (hk : k ≤ ns.length) (h1 : ∀ (j : Nat) (z : Int), j < k → ns[j]? = some z → z < m) (h2 : ∀ (j : Nat) (z : Int), k ≤ j → ns[j]? = some z → ¬ z < m) : below ns m = k := by
  unfold below
  rw [← List.take_append_drop k ns, List.filter_append, filter_all (l := ns.take k), filter_none (l := ns.drop k), List.append_nil, List.length_take, Nat.min_eq_left hk]
  · intro z hz
    obtain ⟨j, hj, e⟩ := List.mem_iff_getElem.mp hz
    rw [List.length_drop] at hj
    refine decide_eq_false (h2 (k + j) z (by omega) ?_)
    rw [← e, List.getElem_drop, List.getElem?_eq_getElem (by omega)]
  · intro z hz
    obtain ⟨j, hj, e⟩ := List.mem_iff_getElem.mp hz
    rw [List.length_take] at hj
    refine decide_eq_true (h1 j z (by omega) ?_)
    rw [← e, List.getElem_take, List.getElem?_eq_getElem (by omega)]
theorem below_plc {row : List Int} {s : Int} {i n : Nat} (h : i ≤ n) : below (plcTo row s n) (i : Int) = (plcTo row s i).length := by
  obtain ⟨r, h1, h2⟩ := plcTo_split (row := row) (s := s) h
  unfold below
  rw [h1, List.filter_append, filter_all, filter_none, List.append_nil]
  · intro z hz
    exact decide_eq_false (by have := h2 z hz; omega)
  · intro z hz
    exact decide_eq_true (plcTo_below hz).2
section
variable {P : Program} {w : World} {K : PySem.W.Frag} {mg : Str → Option Value} {base : Heap}
theorem ok_InvalidSize_init (T : TX K mg) : Can P w K mg base CX0 1 (He.fAd K at_InvalidSize_init) ps_InvalidSize_init [] (spX1 K (He.ga K "InvalidSize") "size") := mk_InvalidSize_init T fun fd F => def0 F sc_InvalidSize_init (fun vs H Q E h => by
  obtain ⟨a, y, rfl, _⟩ := h
  rfl) fun cdv A outer s H vs Q E hr h => by
  obtain ⟨a, y, rfl, O, hno, ha, k⟩ := h
  refine ⟨_, (pss_one (ps_ost (pv 0) (pv 1))), ?_⟩
  exact ⟨_, rfl, _, rfl, a, _, rfl, O, hno, .inl ⟨ha, fun dx n1 n2 => k dx n1 n2⟩⟩
theorem ok_InvalidSymbol_init (T : TX K mg) : Can P w K mg base CX0 1 (He.fAd K at_InvalidSymbol_init) ps_InvalidSymbol_init [] (spX1 K (He.ga K "InvalidSymbol") "symbol") := mk_InvalidSymbol_init T fun fd F => def0 F sc_InvalidSymbol_init (fun vs H Q E h => by
  obtain ⟨a, y, rfl, _⟩ := h
  rfl) fun cdv A outer s H vs Q E hr h => by
  obtain ⟨a, y, rfl, O, hno, ha, k⟩ := h
  refine ⟨_, (pss_one (ps_ost (pv 0) (pv 1))), ?_⟩
  exact ⟨_, rfl, _, rfl, a, _, rfl, O, hno, .inl ⟨ha, fun dx n1 n2 => k dx n1 n2⟩⟩
end
/-! ### rows of symbols -/
def spCount (K : PySem.W.Frag) : Sp := fun vs H Q _ => ∃ (l : Addr) (ns : List Int) (m : Int), vs = [.ref l, .int m] ∧ SqL K H l (ns.map V.int) ∧ ns.length ≤ 100000 ∧ ns.Pairwise (· < ·) ∧ Q (.int (below ns m)) H
theorem asc_at {ns : List Int} (h : ns.Pairwise (· < ·)) {i j : Nat} {y z : Int} (hij : i < j) (hi : ns[i]? = some y) (hj : ns[j]? = some z) : y < z := by
  obtain ⟨h1, e1⟩ := List.getElem?_eq_some_iff.mp hi
  obtain ⟨h2, e2⟩ := List.getElem?_eq_some_iff.mp hj
  have := List.pairwise_iff_getElem.mp h i j h1 h2 hij
  rw [e1, e2] at this
  exact this
section
variable {P : Program} {w : World} {K : PySem.W.Frag} {mg : Str → Option Value} {base : Heap}
theorem ok_count_below (T : TX K mg) : Can P w K mg base CX0 1 (He.fAd K at_count_below) ps_count_below [] (spCount K) := mk_count_below T fun fd F => def0 F sc_count_below (fun vs H Q E h => by
  obtain ⟨l, ns, m, rfl, _⟩ := h
  rfl) fun cdv A outer s H vs Q E hr h => by
  obtain ⟨l, ns, m, rfl, hS, hz, hp, k⟩ := h
  refine ⟨_, (pss_cons (ps_set (i := 2) sc_count_below.nd rfl (Or.inl rfl) pe_int)
  (pss_cons (ps_set (i := 3) sc_count_below.nd rfl (Or.inl rfl) (pe_callB (cLen K rfl) (by rfl) T.n_len PySem.boot_len (pa_cons (pv 0) pa_nil)))
  (pss_cons (ps_while PassesOwn.never (pt_cmpR op_lt (pv 2) (pv 3) (nomark _))
  (pss_cons (ps_set (i := 4) sc_count_below.nd rfl (Or.inl rfl) (pe_op op_fdivN (pe_op op_add (pv 2) (pv 3)) pe_int))
  (pss_one (ps_if (pt_cmpR op_lt (pe_ix (ixL K rfl) (pv 0) (pv 4) (fun _ _ => rfl)) (pv 1) (nomark _)) (pss_one (ps_set (i := 2) sc_count_below.nd rfl (Or.inl rfl) (pe_op op_add (pv 4) pe_int))) (pss_one (ps_set (i := 3) sc_count_below.nd rfl (Or.inl rfl) (pv 4)))))))
  (pss_one (ps_ret (pv 2)))))), ?_⟩
  refine st_seq (st_set val_c (st_seq (st_set (v := .int (ns.length : Int)) (val_is (val_lenL (val_var rfl) hS) (by rw [List.length_map])) ?_)))
  refine ⟨fun q σ H' => ∃ (lo hi : Nat) (v : Option V), σ = [some (.ref l), some (.int m), some (.int (lo : Int)), some (.int (hi : Int)), v] ∧ H' = H ∧ q = hi - lo ∧ lo ≤ hi ∧ hi ≤ ns.length ∧ (∀ (j : Nat) (z : Int), j < lo → ns[j]? = some z → z < m) ∧ (∀ (j : Nat) (z : Int), hi ≤ j → ns[j]? = some z → ¬ z < m),
    ⟨ns.length, 0, ns.length, none, rfl, rfl, by omega, Nat.zero_le _, Nat.le_refl _, fun j z h => absurd h (Nat.not_lt_zero _), fun j z h e => by rw [List.getElem?_eq_none h] at e; cases e⟩, ?_⟩
  rintro q σ H' ⟨lo, hi, v, rfl, rfl, rfl, h1, h2, h3, h4⟩
  refine ans_v (val_I (g := fun i j => .bl (decide (i < j))) (val_var rfl) (val_var rfl)) _ ?_
  refine ite2 (fun hc => ?_) (fun hc => ?_)
  · have hlt : lo < hi := by
      have := of_decide_eq_true hc
      omega
    have hmid : ((lo : Int) + (hi : Int)).fdiv 2 = (((lo + hi) / 2 : Nat) : Int) := by
      rw [Int.fdiv_eq_ediv_of_nonneg _ (by decide)]
      omega
    have hm2 : (lo + hi) / 2 < ns.length := by omega
    refine ⟨fun σ' H'' => ∃ q', q' < hi - lo ∧ ∃ (lo' hi' : Nat) (v : Option V), σ' = [some (.ref l), some (.int m), some (.int (lo' : Int)), some (.int (hi' : Int)), v] ∧ H'' = H' ∧ q' = hi' - lo' ∧ lo' ≤ hi' ∧ hi' ≤ ns.length ∧ (∀ (j : Nat) (z : Int), j < lo' → ns[j]? = some z → z < m) ∧ (∀ (j : Nat) (z : Int), hi' ≤ j → ns[j]? = some z → ¬ z < m),
      fun σ' H'' ⟨q', hq, h⟩ => ⟨q', hq, h⟩, ?_⟩
    refine st_seq (st_set (v := .int (((lo + hi) / 2 : Nat) : Int)) (val_is (val_IC (C := fun _ j => j ≠ 0 ∧ j.natAbs < 1073741824) (g := fun i j => .int (i.fdiv j)) (val_I (g := fun i j => .int (i + j)) (val_var rfl) (val_var rfl)) val_c ⟨by decide, by decide⟩) (by rw [hmid])) ?_)
    refine st_if (ans_v (val_I (g := fun i j => .bl (decide (i < j))) (val_ixL (val_var rfl) (val_var rfl) hS (atI_nat (at_int (List.getElem?_eq_getElem hm2)))) (val_var rfl))) (fun hb => ?_) (fun hb => ?_)
    · refine st_set (v := .int (((lo + hi) / 2 + 1 : Nat) : Int)) (val_is (val_I (g := fun i j => .int (i + j)) (val_var rfl) val_c) (by simp)) ⟨hi - ((lo + hi) / 2 + 1), by omega, (lo + hi) / 2 + 1, hi, _, rfl, rfl, rfl, by omega, h2, fun j z hj e => ?_, h4⟩
      have hb' : ns[(lo + hi) / 2] < m := of_decide_eq_true hb
      by_cases hjm : j = (lo + hi) / 2
      · subst hjm
        rw [List.getElem?_eq_getElem hm2] at e
        obtain rfl := Option.some.inj e
        exact hb'
      · have := asc_at hp (show j < (lo + hi) / 2 by omega) e (List.getElem?_eq_getElem hm2)
        omega
    · refine st_set (v := .int (((lo + hi) / 2 : Nat) : Int)) (val_var rfl) ⟨(lo + hi) / 2 - lo, by omega, lo, (lo + hi) / 2, _, rfl, rfl, rfl, by omega, by omega, h3, fun j z hj e => ?_⟩
      have hb' : ¬ ns[(lo + hi) / 2] < m := of_decide_eq_false hb
      by_cases hjm : j = (lo + hi) / 2
      · subst hjm
        rw [List.getElem?_eq_getElem hm2] at e
        obtain rfl := Option.some.inj e
        exact hb'
      · have := asc_at hp (show (lo + hi) / 2 < j by omega) (List.getElem?_eq_getElem hm2) e
        omega
  · have hge : lo = hi := by
      have : ¬ ((lo : Int) < (hi : Int)) := fun z => hc (decide_eq_true z)
      omega
    subst hge
    have e := below_at h2 h3 h4
    rw [e] at k
    exact st_ret (val_var rfl) k
end
/-- a dict of the places of each symbol that stands below n -/
def PlacesAt (H : Hp) (pd : Addr) (row : List Int) (n : Nat) (kvs : List (Key × V)) (F : Addr → Prop) : Prop := H pd = some (.dK kvs) ∧ kvs.length ≤ n ∧
  (∀ s : Int, (∃ q, valV kvs (.inl s) = some (.ref q) ∧ H q = some (.lst ((plcTo row s n).map V.int)) ∧ F q) ∨ (valV kvs (.inl s) = none ∧ plcTo row s n = [])) ∧
  ∀ (s t : Int) (q : Addr), valV kvs (.inl s) = some (.ref q) → valV kvs (.inl t) = some (.ref q) → s = t
theorem PlacesAt.kp {S : List Addr} {H H' : Hp} {pd : Addr} {row : List Int} {n : Nat} {kvs : List (Key × V)} {F : Addr → Prop} (p : PlacesAt H pd row n kvs F) (e : Kp S H H') (h : pd ∉ S) (hF : ∀ a, F a → a ∉ S) : PlacesAt H' pd row n kvs F := by
  obtain ⟨h1, h2, h3, h4⟩ := p
  refine ⟨e.at h1 h, h2, fun s => ?_, h4⟩
  rcases h3 s with ⟨q, g1, g2, g3⟩ | g
  · exact .inl ⟨q, g1, e.at g2 (hF q g3), g3⟩
  · exact .inr g
theorem PlacesAt.keep {H H' : Hp} {pd : Addr} {row : List Int} {n : Nat} {kvs : List (Key × V)} {F : Addr → Prop} (p : PlacesAt H pd row n kvs F) (e : Ex H H') : PlacesAt H' pd row n kvs F := p.kp (S := []) (Kp.of e) (by simp) (fun _ _ => by simp)
theorem PlacesAt.mono {H : Hp} {pd : Addr} {row : List Int} {n : Nat} {kvs : List (Key × V)} {F F' : Addr → Prop} (p : PlacesAt H pd row n kvs F) (h : ∀ a, F a → F' a) : PlacesAt H pd row n kvs F' := by
  obtain ⟨h1, h2, h3, h4⟩ := p
  refine ⟨h1, h2, fun s => ?_, h4⟩
  rcases h3 s with ⟨q, g1, g2, g3⟩ | g
  · exact .inl ⟨q, g1, g2, h q g3⟩
  · exact .inr g
theorem isAt_eq {row : List Int} {i : Nat} {u s : Int} (h : row[i]? = some u) : isAt row s i = decide (u = s) := by
  unfold isAt
  rw [h]
  by_cases e : u = s
  · simp [e]
  · simp [e]
/-- one place more, its list there -/
theorem PlacesAt.more {H : Hp} {pd q : Addr} {row : List Int} {i : Nat} {u : Int} {kvs : List (Key × V)} {F : Addr → Prop} (p : PlacesAt H pd row i kvs F) (hu : row[i]? = some u) (hv : valV kvs (.inl u) = some (.ref q)) :
    PlacesAt (upd H q (.lst ((plcTo row u i).map V.int ++ [V.int (i : Int)]))) pd row (i + 1) kvs F := by
  obtain ⟨h1, h2, h3, h4⟩ := p
  obtain ⟨q', g1, g2, g3⟩ : ∃ q', valV kvs (.inl u) = some (.ref q') ∧ H q' = some (.lst ((plcTo row u i).map V.int)) ∧ F q' := by
    rcases h3 u with g | ⟨g, _⟩
    · exact g
    · rw [hv] at g
      cases g
  obtain rfl : q' = q := by
    rw [hv] at g1
    injection g1 with z
    injection z with z
    exact z.symm
  have npq : pd ≠ q' := ne_of h1 g2 (by intro z; cases z)
  refine ⟨by rw [upd_ne npq]; exact h1, by omega, fun s => ?_, h4⟩
  by_cases hs : u = s
  · subst hs
    refine .inl ⟨q', hv, ?_, g3⟩
    rw [upd_same, plcTo_succ, isAt_eq hu, decide_eq_true rfl, if_pos rfl, List.map_append]
    rfl
  · have es : plcTo row s (i + 1) = plcTo row s i := by rw [plcTo_succ, isAt_eq hu, decide_eq_false hs, if_neg (by decide)]
    rw [es]
    rcases h3 s with ⟨r, k1, k2, k3⟩ | k
    · refine .inl ⟨r, k1, ?_, k3⟩
      rw [upd_ne (fun z => hs (h4 u s q' hv (by rw [← z]; exact k1)))]
      exact k2
    · exact .inr k
/-- .. a list for it made -/
theorem PlacesAt.make {H : Hp} {pd z : Addr} {row : List Int} {i : Nat} {u : Int} {kvs : List (Key × V)} {F : Addr → Prop} (p : PlacesAt H pd row i kvs F) (hu : row[i]? = some u) (hv : valV kvs (.inl u) = none) (hz : H z = some (.lst [])) (hF : F z) (hn : ∀ s, valV kvs (.inl s) ≠ some (.ref z)) :
    PlacesAt (upd (upd H pd (.dK (putK kvs (.inl u) (.ref z)))) z (.lst ([] ++ [V.int (i : Int)]))) pd row (i + 1) (putK kvs (.inl u) (.ref z)) F := by
  obtain ⟨h1, h2, h3, h4⟩ := p
  have npz : pd ≠ z := ne_of h1 hz (by intro q; cases q)
  have hl : (putK kvs (.inl u) (V.ref z)).length = kvs.length + 1 := by
    rw [putK_new _ hv, List.length_append]
    rfl
  have hval : ∀ s, valV (putK kvs (.inl u) (V.ref z)) (.inl s) = if s = u then some (.ref z) else valV kvs (.inl s) := fun s => by
    rw [valV_put]
    by_cases e : s = u
    · subst e
      rw [if_pos rfl, if_pos rfl]
    · rw [if_neg e, if_neg (fun q => e (Sum.inl.inj q))]
  refine ⟨by rw [upd_ne npz, upd_same], by omega, fun s => ?_, fun s t q a b => ?_⟩
  · rw [hval]
    by_cases hs : s = u
    · subst hs
      rw [if_pos rfl]
      have e0 : plcTo row s i = [] := by
        rcases h3 s with ⟨r, k1, _⟩ | ⟨_, k⟩
        · rw [hv] at k1
          cases k1
        · exact k
      refine .inl ⟨z, rfl, ?_, hF⟩
      rw [upd_same, plcTo_succ, isAt_eq hu, decide_eq_true rfl, if_pos rfl, e0]
      rfl
    · rw [if_neg hs]
      have es : plcTo row s (i + 1) = plcTo row s i := by rw [plcTo_succ, isAt_eq hu, decide_eq_false (Ne.symm hs), if_neg (by decide)]
      rw [es]
      rcases h3 s with ⟨r, k1, k2, k3⟩ | k
      · refine .inl ⟨r, k1, ?_, k3⟩
        rw [upd_ne (fun q => hn s (by rw [← q]; exact k1)), upd_ne (ne_of k2 h1 (by intro q; cases q))]
        exact k2
      · exact .inr k
  · rw [hval] at a b
    by_cases hs : s = u <;> by_cases ht : t = u
    · rw [hs, ht]
    · rw [if_pos hs] at a
      rw [if_neg ht] at b
      obtain rfl : z = q := by
        injection a with a
        injection a
      exact absurd b (hn t)
    · rw [if_neg hs] at a
      rw [if_pos ht] at b
      obtain rfl : z = q := by
        injection b with b
        injection b
      exact absurd a (hn s)
    · rw [if_neg hs] at a
      rw [if_neg ht] at b
      exact h4 s t q a b
def spPlaces (K : PySem.W.Frag) : Sp := fun vs H Q _ => ∃ (l : Addr) (row : List Int), vs = [.ref l] ∧ SqL K H l (row.map V.int) ∧ row.length ≤ 1000 ∧ ∀ pd kvs H', H pd = none → Ex H H' → PlacesAt H' pd row row.length kvs (fun q => H q = none) → Q (.ref pd) H'
section
variable {P : Program} {w : World} {K : PySem.W.Frag} {mg : Str → Option Value} {base : Heap}
theorem ok__places_by_symbol (T : TX K mg) : Can P w K mg base CX0 1 (He.fAd K at__places_by_symbol) ps__places_by_symbol [] (spPlaces K) := mk__places_by_symbol T fun fd F => def0 F sc__places_by_symbol (fun vs H Q E h => by
  obtain ⟨l, row, rfl, _⟩ := h
  rfl) fun cdv A outer s H vs Q E hr h => by
  obtain ⟨l, row, rfl, hS, hz, k⟩ := h
  have hlen : (row.map V.int).length = row.length := List.length_map ..
  refine ⟨_, (pss_cons (ps_set (i := 1) sc__places_by_symbol.nd rfl (Or.inl rfl) pe_dnewK)
  (pss_cons (ps_for PassesOwn.never rfl (iEnu K rfl (by rfl) T.n_enumerate (pa_cons (pv 0) pa_nil)) (pg_tup rfl (pgs_cons (pg_name (i := 2) sc__places_by_symbol.nd rfl (Or.inl rfl)) (pgs_cons (pg_name (i := 3) sc__places_by_symbol.nd rfl (Or.inl rfl)) pgs_nil)))
  (pss_one (ps_expr (eBm K rfl PySem.F.plainAttrs_list PySem.F.slot_list_append PySem.F.type_list_append mt_append (pe_dsetd (pv 1) (pv 3) (pe_lst pa_nil) ⟨rfl, rfl, rfl, rfl⟩) (pa_cons (pv 2) pa_nil)))))
  (pss_one (ps_ret (pv 1))))), ?_⟩
  intro pd hpd
  refine ⟨_, rfl, l, _, rfl, ex_l (Ex.new hpd) hS, for_it walk_enum (fun i σ H' => ∃ v1 v2 kvs, σ = [some (.ref l), some (.ref pd), v1, v2] ∧ Ex H H' ∧ PlacesAt H' pd row i kvs (fun q => H q = none)) ⟨none, none, [], rfl, Ex.new hpd, upd_same, Nat.le_refl _, fun s => .inr ⟨rfl, rfl⟩, fun s t q h => by cases h⟩ (fun i σ H' _ ⟨_, _, _, _, e, _⟩ => ex_l e hS) ?_ ?_⟩
  · rintro i x σ H1 H2 hi ⟨v1, v2, kvs, rfl, e, pa⟩ ⟨t, y, x', rfl, ht, rfl, e1, e2⟩
    obtain rfl := Option.some.inj e1
    obtain ⟨u, hu, rfl⟩ := int_at e2
    have hil : i < row.length := lt_of_at hu
    refine ⟨t, _, rfl, SqT.of upd_same, rfl, _, _, rfl, _, _, rfl, rfl, ?_⟩
    have e3 : Ex H1 (upd H1 t (.tup [.int (i : Int), .int u])) := Ex.new ht
    have eH := e.trans e3
    have pa2 := pa.keep e3
    generalize upd H1 t (.tup [.int (i : Int), .int u]) = H2 at eH pa2 ⊢
    refine ⟨_, rfl, pd, rfl, .inl ⟨_, Rd.of pa2.1⟩, _, rfl, by show 0 ≤ sizeLine; decide, fun z hz0 => ?_⟩
    have e4 : Ex H2 (upd H2 z (.lst [])) := Ex.new hz0
    have pa3 := pa2.keep e4
    have hz3 : (upd H2 z (.lst [])) z = some (.lst []) := upd_same
    have hzH : H z = none := fresh_back eH hz0
    have eH3 := eH.trans e4
    have hn : ∀ s, valV kvs (.inl s) ≠ some (.ref z) := fun s q => by
      rcases pa2.2.2.1 s with ⟨r, k1, k2, _⟩ | ⟨k1, _⟩
      · rw [k1] at q
        injection q with q
        injection q with q
        rw [q, hz0] at k2
        cases k2
      · rw [k1] at q
        cases q
    generalize upd H2 z (.lst []) = H3 at pa3 hz3 eH3 ⊢
    have hkl := pa3.2.1
    refine ⟨kvs, .inl u, pa3.1, rfl, small9 (by omega), fun v hv => ?_, fun hv => ?_⟩
    · rcases pa3.2.2.1 u with ⟨q, k1, k2, k3⟩ | ⟨k1, _⟩
      · rw [hv] at k1
        obtain rfl := Option.some.inj k1
        have h9 : (plcTo row u i).length ≤ i := plcTo_len row u i
        exact ⟨.inl ⟨rfl, _, SqL.of k2⟩, _, rfl, q, _, _, rfl, rfl, k2, small9 (by rw [List.length_map]; omega), _, _, kvs, rfl, eH3.mut k3, pa3.more hu hv⟩
      · rw [hv] at k1
        cases k1
    · have npz : z ≠ pd := ne_of hz3 pa3.1 (by intro q; cases q)
      have hz4 : (upd H3 pd (.dK (putK kvs (.inl u) (.ref z)))) z = some (.lst []) := by rw [upd_ne npz]; exact hz3
      exact ⟨.inl ⟨rfl, _, SqL.of hz4⟩, _, rfl, z, _, _, rfl, rfl, hz4, by show 0 < sizeLine; decide, _, _, _, rfl, (eH3.mut hpd).mut hzH, pa3.make hu hv hz3 hzH hn⟩
  · rintro σ H1 ⟨v1, v2, kvs, rfl, e, pa⟩
    rw [hlen] at pa
    exact st_ret (val_var rfl) (k pd kvs H1 hpd e pa)
end
/-- an object of a row of symbols; F: its parts -/
def WaveAt (C : Addr) (H : Hp) (p : Addr) (row : List Int) (size : Int) (F : Addr → Prop) : Prop := ∃ dx sy pd kvs, H p = some (.ins C dx (flds_Wave (.int size) (.int row.length) (.ref sy) (.ref pd))) ∧ F sy ∧ F pd ∧ H sy = some (.lst (row.map V.int)) ∧ PlacesAt H pd row row.length kvs F
theorem WaveAt.kp {C : Addr} {S : List Addr} {H H' : Hp} {p : Addr} {row : List Int} {size : Int} {F : Addr → Prop} (B : WaveAt C H p row size F) (e : Kp S H H') (h : p ∉ S) (hF : ∀ a, F a → a ∉ S) : WaveAt C H' p row size F := by
  obtain ⟨dx, sy, pd, kvs, h1, f1, f2, h2, h3⟩ := B
  exact ⟨dx, sy, pd, kvs, e.at h1 h, f1, f2, e.at h2 (hF _ f1), h3.kp e (hF _ f2) hF⟩
theorem WaveAt.keep {C : Addr} {H H' : Hp} {p : Addr} {row : List Int} {size : Int} {F : Addr → Prop} (B : WaveAt C H p row size F) (e : Ex H H') : WaveAt C H' p row size F := B.kp (S := []) (Kp.of e) (by simp) (fun _ _ => by simp)
def sym (size z : Int) : Prop := 0 ≤ z ∧ z < size
instance (size z : Int) : Decidable (sym size z) := by unfold sym; infer_instance
def okSize (size : Int) : Prop := 1 ≤ size ∧ size ≤ 65536
def spWave (K : PySem.W.Frag) : Sp := fun vs H Q E => ∃ (p dx l : Addr) (row : List Int) (size : Int), vs = [.ref p, .ref l, .int size] ∧ H p = some (.ins (He.ga K "Wave") dx []) ∧ SqL K H l (row.map V.int) ∧ row.length ≤ 1000 ∧
  (okSize size → (∀ z ∈ row, sym size z) → ∀ H', Kp [p] H H' → WaveAt (He.ga K "Wave") H' p row size (fun a => H a = none) → Q .non H') ∧
  (¬ okSize size → ∀ (d : Addr) (H' : Hp), H d = none → Ex H H' → H' d = some (.xd [("size", .int size)]) → E (.ref (He.ga K "InvalidSize")) (some d) H') ∧
  (okSize size → ∀ (i : Nat) (z : Int), row[i]? = some z → ¬ sym size z → (∀ (j : Nat) (u : Int), j < i → row[j]? = some u → sym size u) → ∀ (d : Addr) (H' : Hp), H d = none → Ex H H' → H' d = some (.xd [("place", .int (i : Int))]) → E (.ref (He.ga K "InvalidRow")) (some d) H')
section
variable {P : Program} {w : World} {K : PySem.W.Frag} {mg : Str → Option Value} {base : Heap}
theorem ok_Wave_init (T : TX K mg) : Can P w K mg base (L2.CX P w) 4 (He.fAd K at_Wave_init) ps_Wave_init [] (spWave K) := by
  obtain ⟨fd_InvalidRow_init, G_InvalidRow_init, ds_InvalidRow_init, v_InvalidRow_init, b_InvalidRow_init⟩ := ok_InvalidRow_init (P := P) (w := w) (base := base) T
  obtain ⟨fd_InvalidSize_init, G_InvalidSize_init, ds_InvalidSize_init, v_InvalidSize_init, b_InvalidSize_init⟩ := ok_InvalidSize_init (P := P) (w := w) (base := base) T
  obtain ⟨fd__places_by_symbol, G__places_by_symbol, ds__places_by_symbol, v__places_by_symbol, b__places_by_symbol⟩ := ok__places_by_symbol (P := P) (w := w) (base := base) T
  exact mk_Wave_init T fun fd F => defX F sc_Wave_init (fun vs H Q E h => by
    obtain ⟨p, dx, l, row, size, rfl, _⟩ := h
    rfl) fun cdv A outer s H vs Q E hr h => by
    obtain ⟨p, dx, l, row, size, rfl, hp, hS, hz, k, kS, kE⟩ := h
    refine ⟨_, (pss_cons (ps_if (pt_not (pt_chain op_le op_le pe_int (pv 2) (pe_glob (v := .int 65536) rfl T.c_LARGEST_SIZE.choose_spec ⟨_, rfl⟩))) (pss_one (ps_raise rfl (takes_of rfl rfl rfl rfl) (pmk_oex T.ox_InvalidSize T.oi_InvalidSize T.ot_InvalidSize G_InvalidSize_init (hr.mono (by first | decide | omega)) b_InvalidSize_init v_InvalidSize_init pass0 rfl T.g_InvalidSize (pa_cons (pv 2) pa_nil)))) pss_nil)
  (pss_cons (ps_for (passes_of rfl) rfl (iEnu K rfl (by rfl) T.n_enumerate (pa_cons (pv 1) pa_nil)) (pg_tup rfl (pgs_cons (pg_name (i := 3) sc_Wave_init.nd rfl (Or.inl rfl)) (pgs_cons (pg_name (i := 4) sc_Wave_init.nd rfl (Or.inl rfl)) pgs_nil)))
  (pss_one (ps_if (pt_not (pt_chain op_le op_lt pe_int (pv 4) (pv 2))) (pss_one (ps_raise rfl (takes_of rfl rfl rfl rfl) (pmk_oex T.ox_InvalidRow T.oi_InvalidRow T.ot_InvalidRow G_InvalidRow_init (hr.mono (by first | decide | omega)) b_InvalidRow_init v_InvalidRow_init pass0 rfl T.g_InvalidRow (pa_cons (pv 3) pa_nil)))) pss_nil)))
  (pss_cons (sFd K rfl (pv 0) (pv 2) rfl)
  (pss_cons (sFd K rfl (pv 0) (pe_callB (cLen K rfl) (by rfl) T.n_len PySem.boot_len (pa_cons (pv 1) pa_nil)) rfl)
  (pss_cons (sFd K rfl (pv 0) (pe_callTy (cList K rfl) (by rfl) T.n_list (by decide +kernel) (pa_cons (pv 1) pa_nil)) rfl)
  (pss_one (sFd K rfl (pv 0) (pe_call G__places_by_symbol (hr.mono (by first | decide | omega)) rfl T.g__places_by_symbol T.k__places_by_symbol b__places_by_symbol v__places_by_symbol pass0 (pa_cons (pv 1) pa_nil)) rfl))))))), ?_⟩
    have hlen : (row.map V.int).length = row.length := List.length_map ..
    refine st_seq (st_if (ans_not (ans_v (val_chain (g := fun i j => decide (i ≤ j)) (g' := fun i j => decide (i ≤ j)) val_c (val_var rfl) val_c))) (fun hb => ?_) (fun hb => ?_))
    · refine st_raise1 (W := fun cls d _ H => E cls d H) (y := .int size) T.ox_InvalidSize T.na_InvalidSize_size (val_var rfl) fun d hd => kS (fun hc => ?_) d _ hd (Ex.new hd) upd_same
      rw [decide_eq_true hc.1, decide_eq_true hc.2] at hb
      cases hb
    simp only [Bool.not_eq_false', Bool.and_eq_true, decide_eq_true_eq] at hb
    have hsz : okSize size := hb
    refine ⟨_, rfl, l, _, rfl, hS, for_it walk_enum (fun i σ H' => ∃ v1 v2, σ = [some (.ref p), some (.ref l), some (.int size), v1, v2] ∧ Ex H H' ∧ ∀ (j : Nat) (u : Int), j < i → row[j]? = some u → sym size u) ⟨none, none, rfl, Ex.refl H, fun j u h => absurd h (Nat.not_lt_zero _)⟩ (fun i σ H' _ ⟨_, _, _, e, _⟩ => ex_l e hS) ?_ ?_⟩
    · rintro i x σ H1 H2 hi ⟨v1, v2, rfl, e, hb⟩ ⟨t, y, x', rfl, ht, rfl, e1, e2⟩
      obtain rfl := Option.some.inj e1
      obtain ⟨u, hu, rfl⟩ := int_at e2
      have e3 : Ex H (upd H1 t (.tup [.int (i : Int), .int u])) := e.trans (Ex.new ht)
      refine ⟨t, _, rfl, SqT.of upd_same, rfl, _, _, rfl, _, _, rfl, rfl, ?_⟩
      refine st_if (ans_not (ans_v (val_chain (g := fun i j => decide (i ≤ j)) (g' := fun i j => decide (i < j)) val_c (val_var rfl) (val_var rfl)))) (fun hc => ?_) (fun hc => ?_)
      · refine st_raise1 (W := fun cls d _ H => E cls d H) (y := .int (i : Int)) T.ox_InvalidRow T.na_InvalidRow_place (val_var rfl) fun d hd => kE hsz i u hu (fun hs => ?_) hb d _ (fresh_back e3 hd) (e3.trans (Ex.new hd)) upd_same
        rw [decide_eq_true hs.1, decide_eq_true hs.2] at hc
        cases hc
      · simp only [Bool.not_eq_false', Bool.and_eq_true, decide_eq_true_eq] at hc
        refine ⟨_, _, rfl, e3, fun j v hj hv => ?_⟩
        by_cases hji : j < i
        · exact hb j v hji hv
        · obtain rfl : j = i := by omega
          rw [hu] at hv
          obtain rfl := Option.some.inj hv
          exact hc
    · rintro σ H1 ⟨v1, v2, rfl, e, hb⟩
      rw [hlen] at hb
      have hall : ∀ z ∈ row, sym size z := fun z hz' => by
        obtain ⟨j, hj, ej⟩ := List.mem_iff_getElem.mp hz'
        exact hb j z hj (by rw [List.getElem?_eq_getElem hj, ej])
      have p1 : H1 p = some (.ins (He.ga K "Wave") dx []) := e _ _ hp
      have f1 : Kp [p] H H1 := Kp.of e
      -- self.size = size; self.length = len(row)
      refine ⟨_, rfl, _, rfl, p, _, dx, _, rfl, p1, T.cl_Wave, T.na_Wave_size, by show 0 < 1000; decide, ?_⟩
      have f2 := f1.trans (Kp.up (p := p) (o := .ins (He.ga K "Wave") dx [("size", .int size)]))
      refine ⟨_, rfl, l, _, rfl, .inl (f2.sqL hp hS), _, rfl, p, _, dx, _, rfl, upd_same, T.cl_Wave, T.na_Wave_length, by show 1 < 1000; decide, ?_⟩
      rw [upd_upd, hlen, show putF "length" (V.int row.length) (putF "size" (V.int size) []) = _ from pf_Wave_length _ _]
      have f3 := f1.trans (Kp.up (p := p) (o := .ins (He.ga K "Wave") dx [("size", .int size), ("length", .int row.length)]))
      -- self._symbols = list(row)
      refine ⟨_, rfl, l, _, rfl, .inl (f3.sqL hp hS), fun sy hsy => ?_⟩
      have n1 : sy ≠ p := fun z => by rw [z, upd_same] at hsy; cases hsy
      refine ⟨_, rfl, p, _, dx, _, rfl, by rw [upd_ne (Ne.symm n1)]; exact upd_same, T.cl_Wave, T.na_Wave__symbols, by show 2 < 1000; decide, ?_⟩
      rw [pf_Wave__symbols]
      have hsy0 : H sy = none := by
        rw [upd_ne n1] at hsy
        exact fresh_back e hsy
      generalize hA : upd (upd (upd H1 p _) sy _) p _ = H4
      have f4 : Kp [p] H H4 := by rw [← hA]; exact ((f3.trans (Kp.new hsy)).trans Kp.up)
      have g4 : H4 p = some (.ins (He.ga K "Wave") dx [("size", .int size), ("length", .int row.length), ("_symbols", .ref sy)]) := by rw [← hA]; exact upd_same
      have d4 : H4 sy = some (.lst (row.map V.int)) := by rw [← hA, upd_ne n1]; exact upd_same
      have b4 : ∀ a, H4 a = none → H a = none := fun a q => f4.back (fun b hb => by rw [List.mem_singleton.mp hb, g4]; intro q; cases q) q
      -- self._places = _places_by_symbol(row)
      refine ⟨_, rfl, l, row, rfl, f4.sqL hp hS, hz, fun pd kvs H5 hpd e5 pa => ?_⟩
      have n2 : pd ≠ p := fun z => by rw [z, g4] at hpd; cases hpd
      refine ⟨_, rfl, p, _, dx, _, rfl, e5 _ _ g4, T.cl_Wave, T.na_Wave__places, by show 3 < 1000; decide, ?_⟩
      rw [pf_Wave__places]
      have pa' := pa.kp (Kp.up (p := p) (o := .ins (He.ga K "Wave") dx (flds_Wave (.int size) (.int row.length) (.ref sy) (.ref pd)))) (by simpa using n2) (fun a ha => by
        intro z
        rw [List.mem_singleton.mp z, g4] at ha
        cases ha)
      exact k hsz hall _ ((f4.trans (Kp.of e5)).trans Kp.up) ⟨dx, sy, pd, kvs, upd_same, hsy0, b4 _ hpd, by rw [upd_ne n1]; exact e5 _ _ d4, pa'.mono b4⟩
end
def BadSym (K : PySem.W.Frag) (H : Hp) (E : XK) (i : Int) : Prop := ∀ d H', H d = none → Ex H H' → H' d = some (.xd [("symbol", .int i)]) → E (.ref (He.ga K "InvalidSymbol")) (some d) H'
def spWRow (K : PySem.W.Frag) : Sp := fun vs H Q _ => ∃ (p : Addr) (row : List Int) (size : Int), vs = [.ref p] ∧ (∃ F, WaveAt (He.ga K "Wave") H p row size F) ∧ RetL (row.map V.int) H Q
def spWAt (K : PySem.W.Frag) : Sp := fun vs H Q E => ∃ (p : Addr) (i : Int) (row : List Int) (size : Int), vs = [.ref p, .int i] ∧ (∃ F, WaveAt (He.ga K "Wave") H p row size F) ∧ (∀ z, 0 ≤ i → row[i.toNat]? = some z → Q (.int z) H) ∧ (¬ (0 ≤ i ∧ i < row.length) → BadPlace K H E i)
/-- the list of a symbol's places, read only -/
def spOf (K : PySem.W.Frag) : Sp := fun vs H Q E => ∃ (p : Addr) (s : Int) (row : List Int) (size : Int), vs = [.ref p, .int s] ∧ (∃ F, WaveAt (He.ga K "Wave") H p row size F) ∧ (sym size s → ∀ q H', Ex H H' → H' q = some (.lst ((plc row s).map V.int)) → Q (.ref q) H') ∧ (¬ sym size s → BadSym K H E s)
def spWRank (K : PySem.W.Frag) : Sp := fun vs H Q E => ∃ (p : Addr) (s i : Int) (row : List Int) (size : Int), vs = [.ref p, .int s, .int i] ∧ (∃ F, WaveAt (He.ga K "Wave") H p row size F) ∧ row.length ≤ 1000 ∧ (sym size s → 0 ≤ i → i ≤ row.length → RetV (.int (plcTo row s i.toNat).length) H Q) ∧ (¬ sym size s → BadSym K H E s) ∧ (sym size s → ¬ (0 ≤ i ∧ i ≤ row.length) → BadPlace K H E i)
def spWSelect (K : PySem.W.Frag) : Sp := fun vs H Q E => ∃ (p : Addr) (s k : Int) (row : List Int) (size : Int), vs = [.ref p, .int s, .int k] ∧ (∃ F, WaveAt (He.ga K "Wave") H p row size F) ∧ (sym size s → 0 ≤ k → RetV (kth (plc row s) k) H Q) ∧ (¬ sym size s → BadSym K H E s) ∧ (sym size s → k < 0 → BadPlace K H E k)
/-- the first place from i on -/
def nextAt (row : List Int) (s i : Int) : V := kth (plc row s) (plcTo row s i.toNat).length
def spWNext (K : PySem.W.Frag) : Sp := fun vs H Q E => ∃ (p : Addr) (s i : Int) (row : List Int) (size : Int), vs = [.ref p, .int s, .int i] ∧ (∃ F, WaveAt (He.ga K "Wave") H p row size F) ∧ row.length ≤ 1000 ∧ (sym size s → 0 ≤ i → i ≤ row.length → RetV (nextAt row s i) H Q) ∧ (¬ sym size s → BadSym K H E s) ∧ (sym size s → ¬ (0 ≤ i ∧ i ≤ row.length) → BadPlace K H E i)
section
variable {P : Program} {w : World} {K : PySem.W.Frag} {mg : Str → Option Value} {base : Heap}
theorem ok_Wave_row (T : TX K mg) : Can P w K mg base CX0 1 (He.fAd K at_Wave_row) ps_Wave_row [] (spWRow K) := mk_Wave_row T fun fd F => def0 F sc_Wave_row (fun vs H Q E h => by
  obtain ⟨p, row, size, rfl, _⟩ := h
  rfl) fun cdv A outer s H vs Q E hr h => by
  obtain ⟨p, row, size, rfl, ⟨F, dx, sy, pd, kvs, hp, _, _, hsy, _⟩, k⟩ := h
  refine ⟨_, (pss_one (ps_ret (pe_callTy (cList K rfl) (by rfl) T.n_list (by decide +kernel) (pa_cons (eFld K rfl (pv 0) rfl) pa_nil)))), ?_⟩
  exact ⟨_, rfl, p, _, dx, _, _, rfl, hp, T.cl_Wave, T.na_Wave__symbols, fl_Wave__symbols .., sy, _, rfl, .inl (SqL.of hsy), fun l hl => k l _ hl (Ex.new hl) upd_same⟩
theorem ok_Wave_at (T : TX K mg) : Can P w K mg base (L2.CX P w) 4 (He.fAd K at_Wave_at) ps_Wave_at [] (spWAt K) := by
  obtain ⟨fd_InvalidPlace_init, G_InvalidPlace_init, ds_InvalidPlace_init, v_InvalidPlace_init, b_InvalidPlace_init⟩ := ok_InvalidPlace_init (P := P) (w := w) (base := base) T
  exact mk_Wave_at T fun fd F => defX F sc_Wave_at (fun vs H Q E h => by
    obtain ⟨p, i, row, size, rfl, _⟩ := h
    rfl) fun cdv A outer s H vs Q E hr h => by
    obtain ⟨p, i, row, size, rfl, ⟨F, dx, sy, pd, kvs, hp, _, _, hsy, _⟩, k, kE⟩ := h
    refine ⟨_, (pss_cons (ps_if (pt_not (pt_chain op_le op_lt pe_int (pv 1) (eFld K rfl (pv 0) rfl))) (pss_one (ps_raise rfl (takes_of rfl rfl rfl rfl) (pmk_oex T.ox_InvalidPlace T.oi_InvalidPlace T.ot_InvalidPlace G_InvalidPlace_init (hr.mono (by first | decide | omega)) b_InvalidPlace_init v_InvalidPlace_init pass0 rfl T.g_InvalidPlace (pa_cons (pv 1) pa_nil)))) pss_nil)
  (pss_one (ps_ret (pe_ix (ixL K rfl) (eFld K rfl (pv 0) rfl) (pv 1) (fun _ _ => rfl))))), ?_⟩
    refine st_seq (st_if (ans_not (ans_v (val_chain (g := fun i j => decide (i ≤ j)) (g' := fun i j => decide (i < j)) val_c (val_var rfl) (val_fld (val_var rfl) hp T.cl_Wave T.na_Wave_length (fl_Wave_length ..))))) (fun hb => ?_) (fun hb => ?_))
    · refine st_raise1 (W := fun cls d _ H => E cls d H) (y := .int i) T.ox_InvalidPlace T.na_InvalidPlace_place (val_var rfl) fun d hd => kE (fun hc => ?_) d _ hd (Ex.new hd) upd_same
      rw [decide_eq_true hc.1, decide_eq_true hc.2] at hb
      cases hb
    · simp only [Bool.not_eq_false', Bool.and_eq_true, decide_eq_true_eq] at hb
      have hi : i.toNat < row.length := by omega
      exact st_ret (val_ixL (val_fld (val_var rfl) hp T.cl_Wave T.na_Wave__symbols (fl_Wave__symbols ..)) (val_var rfl) (SqL.of hsy) (at_of (j := i.toNat) (by omega) (at_int (List.getElem?_eq_getElem hi)))) (k _ hb.1 (List.getElem?_eq_getElem hi))
theorem ok_Wave__places_of (T : TX K mg) : Can P w K mg base (L2.CX P w) 4 (He.fAd K at_Wave__places_of) ps_Wave__places_of [] (spOf K) := by
  obtain ⟨fd_InvalidSymbol_init, G_InvalidSymbol_init, ds_InvalidSymbol_init, v_InvalidSymbol_init, b_InvalidSymbol_init⟩ := ok_InvalidSymbol_init (P := P) (w := w) (base := base) T
  exact mk_Wave__places_of T fun fd F => defX F sc_Wave__places_of (fun vs H Q E h => by
    obtain ⟨p, i, row, size, rfl, _⟩ := h
    rfl) fun cdv A outer s H vs Q E hr h => by
    obtain ⟨p, i, row, size, rfl, ⟨F, dx, sy, pd, kvs, hp, _, _, hsy, pa⟩, k, kE⟩ := h
    refine ⟨_, (pss_cons (ps_if (pt_not (pt_chain op_le op_lt pe_int (pv 1) (eFld K rfl (pv 0) rfl))) (pss_one (ps_raise rfl (takes_of rfl rfl rfl rfl) (pmk_oex T.ox_InvalidSymbol T.oi_InvalidSymbol T.ot_InvalidSymbol G_InvalidSymbol_init (hr.mono (by first | decide | omega)) b_InvalidSymbol_init v_InvalidSymbol_init pass0 rfl T.g_InvalidSymbol (pa_cons (pv 1) pa_nil)))) pss_nil)
  (pss_one (ps_ret (pe_dget2 (hu_of hr) (eFld K rfl (pv 0) rfl) (pv 1) (pe_lst pa_nil) ⟨rfl, rfl, rfl, rfl⟩)))), ?_⟩
    refine st_seq (st_if (ans_not (ans_v (val_chain (g := fun i j => decide (i ≤ j)) (g' := fun i j => decide (i < j)) val_c (val_var rfl) (val_fld (val_var rfl) hp T.cl_Wave T.na_Wave_size (fl_Wave_size ..))))) (fun hb => ?_) (fun hb => ?_))
    · refine st_raise1 (W := fun cls d _ H => E cls d H) (y := .int i) T.ox_InvalidSymbol T.na_InvalidSymbol_symbol (val_var rfl) fun d hd => kE (fun hc => ?_) d _ hd (Ex.new hd) upd_same
      rw [decide_eq_true hc.1, decide_eq_true hc.2] at hb
      cases hb
    · simp only [Bool.not_eq_false', Bool.and_eq_true, decide_eq_true_eq] at hb
      have hk := k hb
      refine ⟨_, rfl, p, _, dx, _, _, rfl, hp, T.cl_Wave, T.na_Wave__places, fl_Wave__places .., pd, rfl, .inl ⟨_, Rd.of pa.1⟩, _, rfl, by show 0 ≤ sizeLine; decide, fun n hn => ⟨_, DGet.k (k := (Sum.inl i : Key)) (by rw [upd_ne (ne_of_none pa.1 hn)]; exact pa.1), ?_⟩⟩
      have e : Ex H (upd H n (.lst [])) := Ex.new hn
      rcases pa.2.2.1 i with ⟨q, g1, g2, _⟩ | ⟨g1, g2⟩
      · rw [g1]
        exact hk q _ e (e _ _ g2)
      · rw [g1]
        refine hk n _ e ?_
        rw [upd_same]
        show _ = some (HO.lst ((plcTo row i row.length).map V.int))
        rw [g2]
        rfl
theorem ok_Wave_rank (T : TX K mg) : Can P w K mg base (L2.CX P w) 6 (He.fAd K at_Wave_rank) ps_Wave_rank [] (spWRank K) := by
  obtain ⟨fd_InvalidPlace_init, G_InvalidPlace_init, ds_InvalidPlace_init, v_InvalidPlace_init, b_InvalidPlace_init⟩ := ok_InvalidPlace_init (P := P) (w := w) (base := base) T
  obtain ⟨fd_Wave__places_of, G_Wave__places_of, ds_Wave__places_of, v_Wave__places_of, b_Wave__places_of⟩ := ok_Wave__places_of (P := P) (w := w) (base := base) T
  obtain ⟨fd_count_below, G_count_below, ds_count_below, v_count_below, b_count_below⟩ := ok_count_below (P := P) (w := w) (base := base) T
  exact mk_Wave_rank T fun fd F => defX F sc_Wave_rank (fun vs H Q E h => by
    obtain ⟨p, s, i, row, size, rfl, _⟩ := h
    rfl) fun cdv A outer s H vs Q E hr h => by
    obtain ⟨p, sy0, i, row, size, rfl, ⟨F, W⟩, hz, k, kS, kE⟩ := h
    refine ⟨_, (pss_cons (ps_set (i := 3) sc_Wave_rank.nd rfl (Or.inl rfl) (pe_meth (pv 0) T.cl_Wave T.me_Wave__places_of G_Wave__places_of (hr.mono (by first | decide | omega)) b_Wave__places_of v_Wave__places_of (passes_call (takes_of rfl rfl rfl rfl) (fun _ _ _ _ h => h)) (pa_cons (pv 1) pa_nil)))
  (pss_cons (ps_if (pt_not (pt_chain op_le op_le pe_int (pv 2) (eFld K rfl (pv 0) rfl))) (pss_one (ps_raise rfl (takes_of rfl rfl rfl rfl) (pmk_oex T.ox_InvalidPlace T.oi_InvalidPlace T.ot_InvalidPlace G_InvalidPlace_init (hr.mono (by first | decide | omega)) b_InvalidPlace_init v_InvalidPlace_init pass0 rfl T.g_InvalidPlace (pa_cons (pv 2) pa_nil)))) pss_nil)
  (pss_one (ps_ret (pe_call G_count_below (hr.mono (by first | decide | omega)) rfl T.g_count_below T.k_count_below b_count_below v_count_below pass0 (pa_cons (pv 3) (pa_cons (pv 2) pa_nil))))))), ?_⟩
    obtain ⟨dx, sy, pd, kvs, hp, _⟩ := id W
    refine ⟨_, rfl, p, dx, _, rfl, hp, fn_Wave__places_of .., _, rfl, p, sy0, row, size, rfl, ⟨F, W⟩, fun hs q H1 e1 hq => ?_, kS⟩
    dsimp only [gName]
    refine st_seq (st_if (ans_not (ans_v (val_chain (g := fun i j => decide (i ≤ j)) (g' := fun i j => decide (i ≤ j)) val_c (val_var rfl) (val_fld (val_var rfl) (e1 _ _ hp) T.cl_Wave T.na_Wave_length (fl_Wave_length ..))))) (fun hb => ?_) (fun hb => ?_))
    · refine st_raise1 (W := fun cls d _ H => E cls d H) (y := .int i) T.ox_InvalidPlace T.na_InvalidPlace_place (val_var rfl) fun d hd => kE hs (fun hc => ?_) d _ (fresh_back e1 hd) (e1.trans (Ex.new hd)) upd_same
      rw [decide_eq_true hc.1, decide_eq_true hc.2] at hb
      cases hb
    · simp only [Bool.not_eq_false', Bool.and_eq_true, decide_eq_true_eq] at hb
      have hi : i.toNat ≤ row.length := by omega
      have h9 : (plc row sy0).length ≤ row.length := plcTo_len row sy0 row.length
      have hbl := below_plc (row := row) (s := sy0) hi
      refine ⟨_, rfl, _, rfl, q, plc row sy0, i, rfl, SqL.of hq, by omega, plcTo_lt row sy0 row.length, ?_⟩
      have ei : i = ((i.toNat : Nat) : Int) := by omega
      rw [show below (plc row sy0) i = (plcTo row sy0 i.toNat).length from by rw [ei]; exact hbl]
      exact k hs hb.1 hb.2 _ e1
theorem ok_Wave_select (T : TX K mg) : Can P w K mg base (L2.CX P w) 6 (He.fAd K at_Wave_select) ps_Wave_select [] (spWSelect K) := by
  obtain ⟨fd_InvalidPlace_init, G_InvalidPlace_init, ds_InvalidPlace_init, v_InvalidPlace_init, b_InvalidPlace_init⟩ := ok_InvalidPlace_init (P := P) (w := w) (base := base) T
  obtain ⟨fd_Wave__places_of, G_Wave__places_of, ds_Wave__places_of, v_Wave__places_of, b_Wave__places_of⟩ := ok_Wave__places_of (P := P) (w := w) (base := base) T
  exact mk_Wave_select T fun fd F => defX F sc_Wave_select (fun vs H Q E h => by
    obtain ⟨p, s, i, row, size, rfl, _⟩ := h
    rfl) fun cdv A outer s H vs Q E hr h => by
    obtain ⟨p, sy0, i, row, size, rfl, ⟨F, W⟩, k, kS, kE⟩ := h
    refine ⟨_, (pss_cons (ps_set (i := 3) sc_Wave_select.nd rfl (Or.inl rfl) (pe_meth (pv 0) T.cl_Wave T.me_Wave__places_of G_Wave__places_of (hr.mono (by first | decide | omega)) b_Wave__places_of v_Wave__places_of (passes_call (takes_of rfl rfl rfl rfl) (fun _ _ _ _ h => h)) (pa_cons (pv 1) pa_nil)))
  (pss_cons (ps_if (pt_cmpR op_lt (pv 2) pe_int (nomark _)) (pss_one (ps_raise rfl (takes_of rfl rfl rfl rfl) (pmk_oex T.ox_InvalidPlace T.oi_InvalidPlace T.ot_InvalidPlace G_InvalidPlace_init (hr.mono (by first | decide | omega)) b_InvalidPlace_init v_InvalidPlace_init pass0 rfl T.g_InvalidPlace (pa_cons (pv 2) pa_nil)))) pss_nil)
  (pss_one (ps_ret (pe_ifExp (pt_cmpR op_lt (pv 2) (pe_callB (cLen K rfl) (by rfl) T.n_len PySem.boot_len (pa_cons (pv 3) pa_nil)) (nomark _)) (pe_ix (ixL K rfl) (pv 3) (pv 2) (fun _ _ => rfl)) pe_non))))), ?_⟩
    obtain ⟨dx, sy, pd, kvs, hp, _⟩ := id W
    refine ⟨_, rfl, p, dx, _, rfl, hp, fn_Wave__places_of .., _, rfl, p, sy0, row, size, rfl, ⟨F, W⟩, fun hs q H1 e1 hq => ?_, kS⟩
    dsimp only [gName]
    refine st_seq (st_if (ans_v (val_I (g := fun i j => .bl (decide (i < j))) (val_var rfl) val_c)) (fun hb => ?_) (fun hb => ?_))
    · exact st_raise1 (W := fun cls d _ H => E cls d H) (y := .int i) T.ox_InvalidPlace T.na_InvalidPlace_place (val_var rfl) fun d hd => kE hs (of_decide_eq_true hb) d _ (fresh_back e1 hd) (e1.trans (Ex.new hd)) upd_same
    · have h0 : 0 ≤ i := by
        have := of_decide_eq_false hb
        omega
      refine st_ret (v := kth (plc row sy0) i) (val_if (ans_v (val_I (g := fun i j => .bl (decide (i < j))) (val_var rfl) (val_lenL (val_var rfl) (SqL.of hq)))) (fun h1 => ?_) (fun h1 => ?_)) (k hs h0 _ e1)
      · have h2 : i < (plc row sy0).length := by
          have := of_decide_eq_true h1
          rwa [List.length_map] at this
        obtain ⟨y, hy, hky⟩ := kth_lt h0 h2
        rw [hky]
        exact val_ixL (val_var rfl) (val_var rfl) (SqL.of hq) (at_of (j := i.toNat) (by omega) (at_int hy))
      · have h2 : ¬ i < (plc row sy0).length := by
          have := of_decide_eq_false h1
          rwa [List.length_map] at this
        rw [kth_ge h0 h2]
        exact val_c
theorem ok_Wave_following (T : TX K mg) : Can P w K mg base (L2.CX P w) 8 (He.fAd K at_Wave_following) ps_Wave_following [] (spWNext K) := by
  obtain ⟨fd_Wave_rank, G_Wave_rank, ds_Wave_rank, v_Wave_rank, b_Wave_rank⟩ := ok_Wave_rank (P := P) (w := w) (base := base) T
  obtain ⟨fd_Wave_select, G_Wave_select, ds_Wave_select, v_Wave_select, b_Wave_select⟩ := ok_Wave_select (P := P) (w := w) (base := base) T
  exact mk_Wave_following T fun fd F => defX F sc_Wave_following (fun vs H Q E h => by
    obtain ⟨p, s, i, row, size, rfl, _⟩ := h
    rfl) fun cdv A outer s H vs Q E hr h => by
    obtain ⟨p, sy0, i, row, size, rfl, ⟨F, W⟩, hz, k, kS, kE⟩ := h
    refine ⟨_, (pss_one (ps_ret (pe_meth (pv 0) T.cl_Wave T.me_Wave_select G_Wave_select (hr.mono (by first | decide | omega)) b_Wave_select v_Wave_select (passes_call (takes_of rfl rfl rfl rfl) (fun _ _ _ _ h => h)) (pa_cons (pv 1) (pa_cons (pe_meth (pv 0) T.cl_Wave T.me_Wave_rank G_Wave_rank (hr.mono (by first | decide | omega)) b_Wave_rank v_Wave_rank (passes_call (takes_of rfl rfl rfl rfl) (fun _ _ _ _ h => h)) (pa_cons (pv 1) (pa_cons (pv 2) pa_nil))) pa_nil))))), ?_⟩
    obtain ⟨dx, sy, pd, kvs, hp, _⟩ := id W
    refine ⟨_, rfl, p, dx, _, rfl, hp, fn_Wave_select .., _, rfl, _, rfl, p, dx, _, rfl, hp, fn_Wave_rank .., _, rfl, _, rfl, p, sy0, i, row, size, rfl, ⟨F, W⟩, hz, fun hs h0 h1 H1 e1 => ?_, kS, kE⟩
    exact ⟨p, sy0, _, row, size, rfl, ⟨F, W.keep e1⟩, fun _ _ H2 e2 => k hs h0 h1 H2 (e1.trans e2), fun hn => absurd hs hn, fun _ hn => absurd hn (by omega)⟩
end
/-! ### drawn rows of symbols -/
def spSymbols : Sp := fun vs H Q _ => ∃ (d s : Addr) (size m : Int), vs = [.ref d, .int size, .int m] ∧ 0 < size ∧ size ≤ 65536 ∧ 0 ≤ m ∧ m < 1000 ∧ Deck H d s ∧ ∀ (p : Addr) (row : List Int) (H' : Hp), H p = none → (∀ z ∈ row, sym size z) → row.length ≤ m → Deck H' d s → Kp [d] H H' → H' p = some (.lst (row.map V.int)) → Q (.ref p) H'
section
variable {P : Program} {w : World} {K : PySem.W.Frag} {mg : Str → Option Value} {base : Heap}
theorem ok__law_symbols (T : TX K mg) : Can P w K mg base CX0 2 (He.fAd K at__law_symbols) ps__law_symbols [] spSymbols := by
  obtain ⟨fd__law_draw, G__law_draw, ds__law_draw, v__law_draw, b__law_draw⟩ := ok__law_draw (P := P) (w := w) (base := base) T
  exact mk__law_symbols T fun fd F => def0 F sc__law_symbols (fun vs H Q E h => by
    obtain ⟨d, sc, size, m, rfl, _⟩ := h
    rfl) fun cdv A outer s H vs Q E hr h => by
    obtain ⟨d, sc, size, m, rfl, s0, s1, m0, m1, D, k⟩ := h
    refine ⟨_, (pss_cons (ps_set (i := 3) sc__law_symbols.nd rfl (Or.inr rfl) (by exact (pe_lc (own := [("_law_k", 5)]) (g := gName 5) (tt := tYes) rfl sc__law_symbols.nd (pi_range1 rfl T.n_range (pa_cons pe_int pa_nil)) (blkOk_by (own := [("_law_k", 5)]) (N := N__law_symbols) (sc := defScope s__law_symbols) (by decide +kernel)) (fun _ _ _ _ _ => by exact (pg_name (i := 5) sc__law_symbols.nd rfl (Or.inl rfl))) (fun _ _ _ _ _ => by exact pts_nil) (fun _ _ _ _ _ => by exact (pe_call G__law_draw (hr.mono (by first | decide | omega)) rfl T.g__law_draw T.k__law_draw b__law_draw v__law_draw pass0 (pa_cons (pv 0) (pa_cons (pv 1) pa_nil)))))))
  (pss_cons (ps_set (i := 4) sc__law_symbols.nd rfl (Or.inr rfl) (pe_call G__law_draw (hr.mono (by first | decide | omega)) rfl T.g__law_draw T.k__law_draw b__law_draw v__law_draw pass0 (pa_cons (pv 0) (pa_cons pe_int pa_nil))))
  (pss_one (ps_ret (by exact (pe_lc (own := [("_law_k", 5)]) (g := gName 5) (tt := tYes) rfl sc__law_symbols.nd (pi_range1 rfl T.n_range (pa_cons (pe_call G__law_draw (hr.mono (by first | decide | omega)) rfl T.g__law_draw T.k__law_draw b__law_draw v__law_draw pass0 (pa_cons (pv 0) (pa_cons (pe_op op_add (pv 2) pe_int) pa_nil))) pa_nil)) (blkOk_by (own := [("_law_k", 5)]) (N := N__law_symbols) (sc := defScope s__law_symbols) (by decide +kernel)) (fun _ _ _ _ _ => by exact (pg_name (i := 5) sc__law_symbols.nd rfl (Or.inl rfl))) (fun _ _ _ _ _ => by exact pts_nil) (fun _ _ _ _ _ => by exact (pe_ix (ixL K rfl) (pe_lst (pa_cons (pe_call G__law_draw (hr.mono (by first | decide | omega)) rfl T.g__law_draw T.k__law_draw b__law_draw v__law_draw pass0 (pa_cons (pv 0) (pa_cons (pv 1) pa_nil))) (pa_cons (pe_ix (ixL K rfl) (pv 3) (pe_call G__law_draw (hr.mono (by first | decide | omega)) rfl T.g__law_draw T.k__law_draw b__law_draw v__law_draw pass0 (pa_cons (pv 0) (pa_cons pe_int pa_nil))) (fun _ _ => rfl)) pa_nil))) (pv 4) (fun _ _ => rfl))))))))), ?_⟩
    refine st_seq (go_asg (lc_drawn (d := d) (sc := sc) (Pn := fun n => n = 3) (Pz := sym size) (fun n h => by omega) ?_ ?_ ?_ fun fe few H1 hfe hfew hl1 D1 e1 h1 => ?_))
    · intro R q
      exact q 3 H rfl D Kp.refl
    · intro y
      rfl
    · intro y H1 e1 D1 R q
      exact rd_draw rfl (val_var rfl) s0 (by omega) D1 fun v H2 v0 v1 D2 e2 => q v H2 ⟨v0, v1⟩ D2 e2
    refine rd_draw rfl val_c (by decide) (by decide) D1 fun kind H2 k0 k1 D2 e2 => ?_
    have nfe : fe ∉ [d] := by simpa using D.ne_new hfe
    have h2 := e2.at h1 nfe
    dsimp only [gName]
    refine go_ret (lc_drawn (d := d) (sc := sc) (Pn := fun n => (n : Int) ≤ m) (Pz := sym size) (fun n h => by omega) ?_ ?_ ?_ fun p row H3 hp hrow hl3 D3 e3 h3 => ?_)
    · intro R q
      refine rd_draw rfl (val_I (g := fun i j => .int (i + j)) (val_var rfl) val_c) (by omega) (by omega) D2 fun n H3 n0 n1 D3 e3 => ?_
      obtain ⟨n', rfl⟩ : ∃ n' : Nat, n = (n' : Int) := ⟨n.toNat, by omega⟩
      exact q n' H3 (by omega) D3 e3
    · intro y
      rfl
    · intro y H3 e3 D3 R q
      -- [draw(deck, size), few[draw(deck, 3)]][kind]
      refine rd_draw rfl (val_var rfl) s0 (by omega) D3 fun x1 H4 a0 a1 D4 e4 => ?_
      refine ⟨_, rfl, ?_⟩
      refine rd_draw rfl val_c (by decide) (by decide) D4 fun x2 H5 b0 b1 D5 e5 => ?_
      have h5 := (e4.trans e5).at (e3.at h2 nfe) nfe
      have hx2 : x2.toNat < few.length := by omega
      refine ⟨fe, _, x2, _, rfl, rfl, SqL.of h5, at_of (j := x2.toNat) (by omega) (at_int (List.getElem?_eq_getElem hx2)), by show 2 ≤ sizeLine; decide, fun q2 hq2 => ?_⟩
      obtain ⟨z, hz, ez⟩ : ∃ z : Int, sym size z ∧ atI [V.int x1, V.int few[x2.toNat]] kind = some (.int z) := by
        rcases (show kind = 0 ∨ kind = 1 by omega) with rfl | rfl
        · exact ⟨x1, ⟨a0, a1⟩, rfl⟩
        · exact ⟨_, hfew _ (List.getElem_mem hx2), rfl⟩
      exact ⟨_, rfl, q2, _, kind, _, rfl, rfl, SqL.of upd_same, ez, q z _ hz (D5.put hq2) ((e4.trans e5).trans (Kp.new hq2))⟩
    · refine k p row H3 ?_ hrow hl3 D3 ((e1.trans e2).trans e3) h3
      exact (e1.trans e2).back (fun a ha => by rw [List.mem_singleton.mp ha]; exact D2.lst) hp
end
/-! ### words of the laws -/
theorem given_plc (row : List Int) (g : Int) : given row.length (isAt row g) (fun i => V.int (i : Int)) = (plc row g).map V.int := by
  unfold given plc plcTo
  rw [List.map_map] <;> rfl
theorem kth_dp (l : List Int) (k : Int) : ∃ dt : PyData, (∀ (K : PySem.W.Frag) (H : Hp), Dp K H (kth l k) dt) ∧ dt.depth < 1 ∧ lenD dt < 2 ^ 62 := by
  unfold kth
  cases l[k.toNat]? with
  | some z => exact ⟨.int z, fun _ _ => .int z, by show 0 < 1; decide, by show 0 < 2 ^ 62; decide⟩
  | none => exact ⟨.none, fun _ _ => .non, by show 0 < 1; decide, by show 0 < 2 ^ 62; decide⟩
theorem first_or (l : List Int) : atI (l.map V.int ++ [V.non]) 0 = some (kth l 0) := by
  cases l with
  | nil => exact atI_nat (j := 0) rfl
  | cons z r => exact atI_nat (j := 0) rfl
theorem shaped_ints (ns : List Int) : SeqAt.shaped (.list (ns.map PyData.int)) = true := by
  unfold SeqAt.shaped
  rw [Bool.and_eq_true]
  refine ⟨?_, ?_⟩
  · rw [PyData.canLay0]
    induction ns with
    | nil => rfl
    | cons n r ih =>
      rw [List.map_cons, PyData.canLayAll0, ih, PyData.canLay0]
      rfl
  · rw [PyData.depth, depth_ints]
    rfl
theorem Deck.ne_ints {H : Hp} {d s p : Addr} (D : Deck H d s) {ns : List Int} (h : H p = some (.lst (ns.map V.int))) : p ≠ d := by
  obtain ⟨ms, i, c, x, h1, _⟩ := D
  intro e
  rw [e, h1] at h
  cases ns with
  | nil => cases h
  | cons n r => cases h
theorem same_no {K : PySem.W.Frag} {te tf : TE} {σ : L2.St} {H : Hp} {v : V} {dt : PyData} {n : Nat} (h1 : Ev te σ H v) (h2 : Ev tf σ H v) (h3 : ∀ H2, Ex H H2 → Dp K H2 v dt) (h4 : dt.depth < n) (h5 : lenD dt < 2 ^ 62) :
    EvT (tNot (tB (tCall (spSame K n) [] E0 (tCons te (tCons tf tNil))))) σ H false :=
  et_not (a := true) (et_B (ev_call (ea_cons h1 (ea_cons h2 ea_nil)) fun Ha ea Q q E => ⟨_, _, _, rfl, h3 _ ea, h3 _ ea, h4, h5, q _ (Ex.refl _)⟩))
theorem same_int {K : PySem.W.Frag} {te tf : TE} {σ : L2.St} {H : Hp} {z : Int} {n : Nat} (h1 : Ev te σ H (.int z)) (h2 : Ev tf σ H (.int z)) : EvT (tNot (tB (tCall (spSame K (n + 1)) [] E0 (tCons te (tCons tf tNil))))) σ H false :=
  same_no (dt := .int z) h1 h2 (fun _ _ => .int _) (by show 0 < n + 1; omega) (by show 0 < 2 ^ 62; decide)
theorem same_kth {K : PySem.W.Frag} {te tf : TE} {σ : L2.St} {H : Hp} {l : List Int} {k : Int} {n : Nat} (h1 : Ev te σ H (kth l k)) (h2 : Ev tf σ H (kth l k)) : EvT (tNot (tB (tCall (spSame K (n + 1)) [] E0 (tCons te (tCons tf tNil))))) σ H false := by
  obtain ⟨dt, a, b, c⟩ := kth_dp l k
  exact same_no h1 h2 (fun _ _ => a _ _) (by omega) c
/-- [place for place in range(len(row)) if row[place] == g] -/
theorem lc_places {K : PySem.W.Frag} {σ : L2.St} {H : Hp} {rp : Addr} {row : List Int} {g : Int} {r j : Nat} {tg : TE} (hr : H rp = some (.lst (row.map V.int))) (hz : row.length ≤ 40000) (h2 : σ[r]? = some (some (.ref rp))) (h3 : ∀ y, ((wipe σ [j]).set j (some y))[r]? = some (some (.ref rp)))
    (h4 : ∀ y, ((wipe σ [j]).set j (some y))[j]? = some (some y)) (h5 : ∀ y, wipe ((wipe σ [j]).set j (some y)) [j] = wipe σ [j]) (h6 : ∀ y H1, Ev tg ((wipe σ [j]).set j (some y)) H1 (.int g)) :
    EvL (tLc (iRng1 (tCons (tCB (rLn K) (tCons (tVar r) tNil)) tNil)) (gName j) (tTest (tOp rEq (tOp (rIxL K) (tVar r) (tVar j)) tg)) (tVar j) [j]) σ H ((plc row g).map V.int) := by
  rw [← given_plc]
  refine el_lcR1 (n := (row.length : Int)) (isAt row g) (fun i => V.int (i : Int)) (ea_cons (ev_is (ev_lenV (ev_var h2) (SqL.of hr)) (by rw [List.length_map])) ea_nil) (by omega) h5 (fun i H1 e1 hi => ?_) (fun i H1 e1 hi _ => ev_var (h4 _))
  have hi' : i < row.length := by omega
  refine et_is (et_test (ev_op (ev_op (ev_var (h3 _)) (ev_var (h4 _)) (rv_ixL (SqL.of (e1 _ _ hr)) (atI_nat (at_int (List.getElem?_eq_getElem hi'))))) (h6 _ _) (rv_eq rfl))) ?_
  unfold isAt
  rw [List.getElem?_eq_getElem hi']
  by_cases hg : row[i] = g
  · simp [hg]
  · simp [hg]
theorem range_getD (l : List Int) : (List.range l.length).map (fun k => l.getD k 0) = l := by
  apply List.ext_getElem
  · rw [List.length_map, List.length_range]
  · intro i h1 h2
    rw [List.getElem_map, List.getElem_range, List.getD_eq_getElem?_getD, List.getElem?_eq_getElem h2]
    rfl
/-- what a comprehension over a list of ints with a test gives -/
theorem given_filter (l : List Int) (p : Int → Bool) : given l.length (fun k => p (l.getD k 0)) (fun k => V.int (l.getD k 0)) = (l.filter p).map V.int := by
  unfold given
  have e : (l.filter p) = ((List.range l.length).filter (fun k => p (l.getD k 0))).map (fun k => l.getD k 0) := by
    conv => lhs; rw [← range_getD l]
    rw [List.filter_map]
    rfl
  rw [e, List.map_map]
  rfl
/-- [z for z in l if test] -/
theorem lc_filter {K : PySem.W.Frag} {σ : L2.St} {H : Hp} {a : Addr} {l : List Int} {p : Int → Bool} {tl : TE} {tt : TT} {j : Nat} (h : Ev tl σ H (.ref a)) (hl : SqL K H a (l.map V.int)) (hz : l.length ≤ 40000) (hw : ∀ x, wipe ((wipe σ [j]).set j (some x)) [j] = wipe σ [j]) (hj : ∀ x, ((wipe σ [j]).set j (some x))[j]? = some (some x))
    (ht : ∀ (z : Int) H1, Ex H H1 → z ∈ l → EvT tt ((wipe σ [j]).set j (some (.int z))) H1 (p z)) : EvL (tLc (iList K tl) (gName j) tt (tVar j) [j]) σ H ((l.filter p).map V.int) := by
  rw [← given_filter]
  have e : (l.map V.int).length = l.length := List.length_map ..
  rw [← e]
  have key : ∀ {i : Nat} {x : V}, (l.map V.int)[i]? = some x → ∃ z, x = .int z ∧ l.getD i 0 = z ∧ z ∈ l := fun {i x} hx => by
    obtain ⟨z, hz, rfl⟩ := int_at hx
    exact ⟨z, rfl, by rw [List.getD_eq_getElem?_getD, hz]; rfl, List.mem_of_getElem? hz⟩
  refine el_lcL (xs := l.map V.int) _ _ h hl (by rw [e]; exact hz) hw (fun i x H1 e1 hx => ?_) (fun i x H1 e1 hx _ => ?_)
  · obtain ⟨z, rfl, hz, hm⟩ := key hx
    rw [hz]
    exact ht z H1 e1 hm
  · obtain ⟨z, rfl, hz, _⟩ := key hx
    rw [hz]
    exact ev_var (hj _)
theorem eqv_self {d : PyData} (h : SeqAt.shaped d = true) : PyData.eqv d d = true := SeqAt.eqv_refl d (SeqAt.canLay_of_shaped h)
/-- two new lists of the same ints: != is False -/
theorem ne_lists {K : PySem.W.Frag} {ta tb : TE} {σ : L2.St} {H : Hp} {ns : List Int} (h : EvL ta σ H (ns.map V.int)) (h' : EvL tb σ H (ns.map V.int)) : EvT (tTest (tOp (rNeD K) ta tb)) σ H false :=
  et_test (ev_opLL h h' fun p q H1 h1 h2 _ => fun H2 e Q k => ⟨_, _, .lst (SqL.of (e _ _ h1)) (dpAll_ints ns), .lst (SqL.of (e _ _ h2)) (dpAll_ints ns), shaped_ints ns, shaped_ints ns, by rw [eqv_self (shaped_ints ns)]; exact k _ (Ex.refl _)⟩)
/-! ### values that are data -/
theorem dp_ex {K : PySem.W.Frag} {H H' : Hp} (e : Ex H H') : ∀ {d : PyData} {v : V}, Dp K H v d → Dp K H' v d := by
  intro d v h
  refine Dp.rec (motive_1 := fun v d _ => Dp K H' v d) (motive_2 := fun vs ds _ => DpAll K H' vs ds) .non .bl .int .str (fun h _ ih => .lst (ex_l e h) ih) (fun h _ ih => .tup (ex_t e h) ih) .nil (fun _ _ a b => .cons a b) h
theorem dpAll_ex {K : PySem.W.Frag} {H H' : Hp} (e : Ex H H') : ∀ {ds : List PyData} {vs : List V}, DpAll K H vs ds → DpAll K H' vs ds
  | [], _, h => by
    cases h
    exact .nil
  | d :: ds, _, h => by
    cases h with
    | cons a b => exact .cons (dp_ex e a) (dpAll_ex e b)
theorem dpAll_snoc {K : PySem.W.Frag} {H : Hp} {v : V} {d : PyData} : ∀ {ds : List PyData} {vs : List V}, DpAll K H vs ds → Dp K H v d → DpAll K H (vs ++ [v]) (ds ++ [d])
  | [], _, h, h2 => by
    cases h
    exact .cons h2 .nil
  | c :: ds, _, h, h2 => by
    cases h with
    | cons a b => exact .cons a (dpAll_snoc b h2)
theorem dpa_at {K : PySem.W.Frag} {H : Hp} : ∀ {ds : List PyData} {xs : List V} {i : Nat} {x : V}, DpAll K H xs ds → xs[i]? = some x → ∃ d, ds[i]? = some d ∧ Dp K H x d
  | [], _, _, _, h, e => by
    cases h
    cases e
  | c :: ds, _, 0, _, h, e => by
    cases h with
    | cons a b =>
      cases e
      exact ⟨c, rfl, a⟩
  | c :: ds, _, i + 1, _, h, e => by
    cases h with
    | cons a b => exact dpa_at (i := i) b e
theorem dpa_len {K : PySem.W.Frag} {H : Hp} : ∀ {ds : List PyData} {xs : List V}, DpAll K H xs ds → xs.length = ds.length
  | [], _, h => by
    cases h
    rfl
  | c :: ds, _, h => by
    cases h with
    | cons a b => rw [List.length_cons, List.length_cons, dpa_len b]
/-! ### readings that give data -/
/-- H3 still has what H2 has in H or beyond H1 -/
def Fp (H H1 H2 H3 : Hp) : Prop := ∀ a o, H2 a = some o → (H a ≠ none ∨ H1 a = none) → H3 a = some o
theorem Fp.base {H H1 H2 H3 : Hp} (f : Fp H H1 H2 H3) (e : Ex H H2) : Ex H H3 := fun a o h => f a o (e a o h) (.inl (by rw [h]; intro z; cases z))
theorem Fp.self {H H1 H2 : Hp} : Fp H H1 H2 H2 := fun _ _ h _ => h
theorem Fp.ex {H H1 H2 H3 : Hp} (e : Ex H2 H3) : Fp H H1 H2 H3 := fun a o h _ => e a o h
/-- from a later start: less is asked -/
theorem Fp.late {H H1 G1 H2 H3 : Hp} (f : Fp H H1 H2 H3) (e : Ex H1 G1) : Fp H G1 H2 H3 := fun a o h q => f a o h (q.imp id fun z => fresh_back e z)
/-- what was there earlier -/
theorem Fp.early {H H1 G2 H2 H3 : Hp} (f : Fp H H1 H2 H3) (e : Ex G2 H2) : Fp H H1 G2 H3 := fun a o h q => f a o (e a o h) q
def EvD (K : PySem.W.Frag) (te : TE) (σ : L2.St) (H : Hp) (d : PyData) : Prop := ∀ H1, Ex H H1 → ∀ Q : VK, (∀ v H2, Ex H1 H2 → (∀ H3, Fp H H1 H2 H3 → Dp K H3 v d) → Q v H2) → te σ H1 Q
def EvDs (K : PySem.W.Frag) (ta : TA) (σ : L2.St) (H : Hp) (ds : List PyData) : Prop := ∀ H1, Ex H H1 → ∀ Q : List V → Hp → Prop, (∀ vs H2, Ex H1 H2 → (∀ H3, Fp H H1 H2 H3 → DpAll K H3 vs ds) → Q vs H2) → ta σ H1 Q
def SpD (K : PySem.W.Frag) (sp : Sp) (vs : List V) (H : Hp) (d : PyData) : Prop := ∀ H1, Ex H H1 → ∀ Q : VK, (∀ v H2, Ex H1 H2 → (∀ H3, Fp H H1 H2 H3 → Dp K H3 v d) → Q v H2) → ∀ E : XK, sp vs H1 Q E
section
variable {K : PySem.W.Frag} {σ : L2.St} {H : Hp} {ta tb te tf : TE} {v : V} {d : PyData} {ds : List PyData}
theorem ed_val (h : Ev te σ H v) (hd : Dp K H v d) : EvD K te σ H d := fun H1 e _ q => h H1 e _ fun H2 e2 => q v H2 e2 fun _ f => dp_ex (f.base (e.trans e2)) hd
theorem ed_var {i : Nat} (h : σ[i]? = some (some v)) (hd : Dp K H v d) : EvD K (tVar i) σ H d := ed_val (ev_var h) hd
theorem ed_int {i : Int} (h : Ev te σ H (.int i)) : EvD K te σ H (.int i) := ed_val h (.int i)
theorem ed_cint {i : Int} : EvD K (tC (.int i)) σ H (.int i) := ed_val ev_c (.int i)
theorem ed_cstr {w : Str} : EvD K (tC (.str w)) σ H (.str w) := ed_val ev_c (.str w)
theorem ed_cbl {b : Bool} : EvD K (tC (.bl b)) σ H (.bool b) := ed_val ev_c (.bl b)
theorem ed_cnon : EvD K (tC .non) σ H .none := ed_val ev_c .non
theorem ed_ints {ns : List Int} (h : EvL te σ H (ns.map V.int)) : EvD K te σ H (.list (ns.map PyData.int)) := fun H1 e _ q => h H1 e _ fun p H2 hp e2 h2 => q _ H2 e2 fun H3 f => .lst (SqL.of (f _ _ h2 (.inr hp))) (dpAll_ints ns)
theorem eds_nil : EvDs K tNil σ H [] := fun H1 _ _ q => q [] H1 (Ex.refl _) fun _ _ => .nil
theorem eds_cons {tr : TA} (h : EvD K te σ H d) (hr : EvDs K tr σ H ds) : EvDs K (tCons te tr) σ H (d :: ds) := fun H1 e _ q =>
  h H1 e _ fun v H2 e2 dv => hr H2 (e.trans e2) _ fun vs H3 e3 dvs => q (v :: vs) H3 (e2.trans e3) fun H4 f => .cons (dv H4 (f.early e3)) (dvs H4 (f.late e2))
theorem ed_tup {ta : TA} (h : EvDs K ta σ H ds) (hl : ds.length ≤ 100000) : EvD K (tTup ta) σ H (.tuple ds) := fun H1 e _ q => h H1 e _ fun vs H2 e2 dvs =>
  ⟨sz_of (by rw [dpa_len (dvs H2 Fp.self)]; exact hl), fun p hp => q (.ref p) _ (e2.trans (Ex.new hp)) fun H3 f => .tup (SqT.of (f _ _ upd_same (.inr (fresh_back e2 hp)))) (dvs H3 (f.early (Ex.new hp)))⟩
theorem ed_lst {ta : TA} (h : EvDs K ta σ H ds) (hl : ds.length ≤ 100000) : EvD K (tLst ta) σ H (.list ds) := fun H1 e _ q => h H1 e _ fun vs H2 e2 dvs =>
  ⟨sz_of (by rw [dpa_len (dvs H2 Fp.self)]; exact hl), fun p hp => q (.ref p) _ (e2.trans (Ex.new hp)) fun H3 f => .lst (SqL.of (f _ _ upd_same (.inr (fresh_back e2 hp)))) (dvs H3 (f.early (Ex.new hp)))⟩
theorem ed_call {sp : Sp} {dvs vs : List V} {E : XK} {ta : TA} (h : EvA ta σ H vs) (hs : SpD K sp (vs ++ dvs) H d) : EvD K (tCall sp dvs E ta) σ H d := fun H1 e Q q =>
  h H1 e _ fun H2 e2 => hs H2 (e.trans e2) Q (fun v H3 e3 dv => q v H3 (e2.trans e3) fun H4 f => dv H4 (f.late e2)) E
/-- what a promise of a new tuple of data gives -/
theorem spd_tup {xs : List V} {H1 : Hp} {Q : VK} (hd : ∀ H3, DpAll K H3 xs ds) (q : ∀ v H2, Ex H1 H2 → (∀ H3, Fp H H1 H2 H3 → Dp K H3 v (.tuple ds)) → Q v H2) : ∀ t H2, H1 t = none → Ex H1 H2 → H2 t = some (.tup xs) → Q (.ref t) H2 :=
  fun t H2 ht e2 h2 => q _ H2 e2 fun H3 f => .tup (SqT.of (f _ _ h2 (.inr ht))) (hd H3)
theorem spd_val {H1 : Hp} {Q : VK} (hd : ∀ H3, Dp K H3 v d) (q : ∀ v H2, Ex H1 H2 → (∀ H3, Fp H H1 H2 H3 → Dp K H3 v d) → Q v H2) : ∀ H2, Ex H1 H2 → Q v H2 := fun H2 e2 => q _ H2 e2 fun H3 _ => hd H3
theorem eqD {d e : PyData} (h1 : EvD K ta σ H d) (h2 : EvD K tb σ H e) (s1 : SeqAt.shaped d = true) (s2 : SeqAt.shaped e = true) : Ev (tOp (rEqD K) ta tb) σ H (.bl (PyData.eqv d e)) :=
  fun H1 e1 _ q => h1 H1 e1 _ fun v H2 e2 dv => h2 H2 (e1.trans e2) _ fun u H3 e3 du => ⟨d, e, dv H3 (Fp.ex e3), du H3 Fp.self, s1, s2, q _ (e2.trans e3)⟩
theorem neD {d e : PyData} (h1 : EvD K ta σ H d) (h2 : EvD K tb σ H e) (s1 : SeqAt.shaped d = true) (s2 : SeqAt.shaped e = true) : Ev (tOp (rNeD K) ta tb) σ H (.bl (!PyData.eqv d e)) :=
  fun H1 e1 _ q => h1 H1 e1 _ fun v H2 e2 dv => h2 H2 (e1.trans e2) _ fun u H3 e3 du => ⟨d, e, dv H3 (Fp.ex e3), du H3 Fp.self, s1, s2, q _ (e2.trans e3)⟩
/-- [.. for j in range(n)] -/
theorem ed_lcR {ta : TA} {j : Nat} {vs : List Nat} {n : Int} (f : Nat → PyData) (h : EvA ta σ H [.int n]) (hn : 0 ≤ n ∧ n ≤ 40000) (hw : ∀ x, wipe ((wipe σ vs).set j (some x)) vs = wipe σ vs)
    (he : ∀ (i : Nat) H1, Ex H H1 → (i : Int) < n → EvD K te ((wipe σ vs).set j (some (.int (i : Int)))) H (f i)) : EvD K (tLc (iRng1 ta) (gName j) tYes te vs) σ H (.list ((List.range n.toNat).map f)) := fun H0 e Q q =>
  h H0 e _ fun H1 e1 => ⟨n, rfl, by omega, by omega, fun L hL => lc_range (lo := 0) (n := n.toNat)
    (fun i G => Ex H1 G ∧ ∃ acc, G L = some (.lst acc) ∧ acc.length = i ∧ ∀ H5, (∀ a o, G a = some o → (H a ≠ none ∨ (H1 a = none ∧ a ≠ L)) → H5 a = some o) → DpAll K H5 acc ((List.range i).map f))
    ⟨Ex.new hL, [], upd_same, rfl, fun _ _ => .nil⟩ (by
      rintro i G hi ⟨eG, acc, ha, hl, hdp⟩
      have nLH : ∀ a, H a ≠ none → a ≠ L := fun a h z => h (by rw [z]; exact fresh_back (e.trans e1) hL)
      have e0 : (0 : Int) + (i : Int) = (i : Int) := Int.zero_add _
      show wipe ((wipe σ vs).set j (some (.int ((0 : Int) + (i : Int))))) vs = wipe σ vs ∧ te ((wipe σ vs).set j (some (.int ((0 : Int) + (i : Int))))) G _
      rw [e0]
      refine ⟨hw _, he i H1 (e.trans e1) (by omega) G ((e.trans e1).trans eG) _ fun v G2 eG2 dv => ⟨acc, eG2 _ _ ha, sz_lt (by omega), ?_, acc ++ [v], upd_same, by rw [List.length_append, hl]; rfl, fun H5 hH5 => ?_⟩⟩
      · exact (eG.trans eG2).mut hL
      · have hup : ∀ a o, G2 a = some o → a ≠ L → upd G2 L (.lst (acc ++ [v])) a = some o := fun a o h hne => by rw [upd_ne hne]; exact h
        rw [List.range_succ, List.map_append]
        refine dpAll_snoc (hdp H5 fun a o ho hq => hH5 a o (hup a o (eG2 a o ho) (hq.elim (nLH a) fun z => z.2)) hq) (dv H5 fun a o ho hq => ?_)
        have hne : a ≠ L := hq.elim (nLH a) fun z y => by rw [y, ha] at z; cases z
        exact hH5 a o (hup a o ho hne) (hq.imp id fun z => ⟨fresh_back eG z, hne⟩)) (by
      rintro G ⟨eG, acc, ha, hl, hdp⟩
      refine q (.ref L) G (e1.trans eG) fun H3 f3 => .lst (SqL.of (f3 _ _ ha (.inr (fresh_back e1 hL)))) (hdp H3 fun a o ho hq => f3 a o ho (hq.imp id fun z => fresh_back e1 z.1)))⟩
variable {D : Ends} {tz : TS}
theorem q_asgD {i : Nat} (h : EvD K te σ H d) (k : ∀ v H1, Ex H H1 → Dp K H1 v d → tz D (σ.set i (some v)) H1) : tSeq (tAsg te (gName i)) tz D σ H := h H (Ex.refl H) _ fun v H1 e dv => k v H1 e (dv H1 Fp.self)
end
/-! ### the same data, asked by the law -/
section
variable {K : PySem.W.Frag} {σ : L2.St} {H : Hp} {ta tb te tf : TE} {d : PyData}
theorem sameD {n : Nat} (h1 : EvD K te σ H d) (h2 : EvD K tf σ H d) (hd : d.depth < n) (hz : lenD d < 2 ^ 62) : EvT (tNot (tB (tCall (spSame K n) [] E0 (tCons te (tCons tf tNil))))) σ H false :=
  et_not (a := true) (et_B fun H1 e _ q => h1 H1 e _ fun v H2 e2 dv => h2 H2 (e.trans e2) _ fun u H3 e3 du => ⟨v, u, d, rfl, dv H3 (Fp.ex e3), du H3 Fp.self, hd, hz, q _ (e2.trans e3)⟩)
theorem sameNe (h1 : EvD K ta σ H d) (h2 : EvD K tb σ H d) (s1 : SeqAt.shaped d = true) : EvT (tTest (tOp (rNeD K) ta tb)) σ H false := et_is (et_test (neD h1 h2 s1 s1)) (by rw [eqv_self s1]; rfl)
theorem sameEq (h1 : EvD K ta σ H d) (h2 : EvD K tb σ H d) (s1 : SeqAt.shaped d = true) : Ev (tOp (rEqD K) ta tb) σ H (.bl true) := ev_is (eqD h1 h2 s1 s1) (by rw [eqv_self s1])
end
/-! ### what is refused -/
/-- return (word, e.f) in an except suite -/
theorem told2 {D : Ends} {σ : L2.St} {H : Hp} {a d C : Addr} {i n : Nat} {f wd : Str} {y : V} (hl : (named σ a (some i)).length = n) (hi : i < n) (hx : H d = some (.xd [(f, y)])) (k : ∀ t, H t = none → D.rt (.ref t) (upd H t (.tup [.str wd, y]))) :
    tRet (tTup (tCons (tC (.str wd)) (tCons (tXf a (.ref C) (some d) C f (tVar i)) tNil))) D (named σ a (some i)) H := by
  have h3 : (named σ a (some i))[i]? = some (some (V.ref a)) := by
    show (σ.set i (some (V.ref a)))[i]? = _
    exact List.getElem?_set_self (by rw [show (named σ a (some i)).length = σ.length from List.length_set ..] at hl; omega)
  exact go_ret ⟨_, h3, rfl, rfl, d, _, y, rfl, hx, by rw [List.lookup_cons_self], by show 2 ≤ sizeLine; decide, fun t ht => k t ht⟩
def spMade (K : PySem.W.Frag) : Sp := fun vs H Q _ => ∃ (l : Addr) (row : List Int) (size : Int), vs = [.ref l, .int size] ∧ SqL K H l (row.map V.int) ∧ row.length ≤ 1000 ∧
  (okSize size → (∀ z ∈ row, sym size z) → ∀ H', Ex H H' → Q .non H') ∧
  (¬ okSize size → ∀ t H', H t = none → Ex H H' → H' t = some (.tup [.str "size", .int size]) → Q (.ref t) H') ∧
  (okSize size → ∀ (i : Nat) (z : Int), row[i]? = some z → ¬ sym size z → (∀ (j : Nat) (u : Int), j < i → row[j]? = some u → sym size u) → ∀ t H', H t = none → Ex H H' → H' t = some (.tup [.str "row", .int (i : Int)]) → Q (.ref t) H')
def badN (n : Nat) (what i : Int) : Prop := (what = 0 ∧ ¬ (0 ≤ i ∧ i ≤ n)) ∨ (what = 1 ∧ i < 0) ∨ (what = 2 ∧ ¬ (0 ≤ i ∧ i ≤ n)) ∨ (what = 3 ∧ ¬ (0 ≤ i ∧ i < n))
def spAsked (K : PySem.W.Frag) : Sp := fun vs H Q _ => ∃ (p : Addr) (what s i : Int) (row : List Int) (size : Int), vs = [.ref p, .int what, .int s, .int i] ∧ (∃ F, WaveAt (He.ga K "Wave") H p row size F) ∧ row.length ≤ 1000 ∧ 0 ≤ what ∧ what ≤ 3 ∧
  (what ≤ 2 → ¬ sym size s → ∀ t H', H t = none → Ex H H' → H' t = some (.tup [.str "symbol", .int s]) → Q (.ref t) H') ∧
  ((what ≤ 2 → sym size s) → badN row.length what i → ∀ t H', H t = none → Ex H H' → H' t = some (.tup [.str "place", .int i]) → Q (.ref t) H') ∧
  ((what ≤ 2 → sym size s) → ¬ badN row.length what i → ∀ H', Ex H H' → Q .non H')
section
variable {P : Program} {w : World} {K : PySem.W.Frag} {mg : Str → Option Value} {base : Heap}
theorem ok__law_made (T : TX K mg) : Can P w K mg base CX0 6 (He.fAd K at__law_made) ps__law_made [] (spMade K) := by
  obtain ⟨fd_Wave_init, G_Wave_init, ds_Wave_init, v_Wave_init, b_Wave_init⟩ := ok_Wave_init (P := P) (w := w) (base := base) T
  exact mk__law_made T fun fd F => def0 F sc__law_made (fun vs H Q E h => by
    obtain ⟨l, row, size, rfl, _⟩ := h
    rfl) fun cdv A outer s H vs Q E hr h => by
    obtain ⟨l, row, size, rfl, hS, hz, k, kS, kR⟩ := h
    refine ⟨_, (pss_cons (ps_try_mix rfl rfl sc__law_made.nd takes0 (fun W pn xe tk _ => (pss_one (ps_expr (pe_make T.m_Wave G_Wave_init (hr.mono (by first | decide | omega)) rfl T.g_Wave b_Wave_init v_Wave_init (passes_call (E := fun cls d H => ∀ σ, W cls d σ H) tk (fun _ _ σ _ h => h σ)) (pa_cons (pv 0) (pa_cons (pv 1) pa_nil)))))) (.as (i := 2) rfl rfl ⟨rfl, by decide, .inl T.g_InvalidSize⟩ (fun a oe cls d pn hz hf => ps_len (n := 3) rfl (pss_one (ps_ret (pe_tup (pa_cons pe_str (pa_cons (pe_xf T.xf_InvalidSize T.na_InvalidSize_size hz hf (pv 2)) pa_nil)))))) (.as (i := 2) rfl rfl ⟨rfl, by decide, .inl T.g_InvalidRow⟩ (fun a oe cls d pn hz hf => ps_len (n := 3) rfl (pss_one (ps_ret (pe_tup (pa_cons pe_str (pa_cons (pe_xf T.xf_InvalidRow T.na_InvalidRow_place hz hf (pv 2)) pa_nil)))))) .nil)))
  (pss_one (ps_ret pe_non))), ?_⟩
    refine st_seq (go_drop ?_)
    refine ⟨_, rfl, _, rfl, fun x dx hx hdx hne => ?_⟩
    have em : Ex H (upd (upd H dx (.own x)) x (.ins (He.ga K "Wave") dx [])) := (Ex.new hdx).trans (Ex.new (by rw [upd_ne (Ne.symm hne)]; exact hx))
    refine ⟨x, dx, l, row, size, rfl, upd_same, ex_l em hS, by omega, fun h1 h2 H4 e4 W4 => ⟨rfl, ?_⟩, fun hn d H' hd e hxd σ => ⟨true, T.ex_InvalidSize_InvalidSize, fun _ a ha hl => ?_, fun z => by cases z⟩, fun h1 i z hi hb hlt d H' hd e hxd σ => ⟨false, T.ex_InvalidRow_InvalidSize, (fun z => by cases z), fun _ => ⟨true, T.ex_InvalidRow_InvalidRow, fun _ a ha hl => ?_, fun z => by cases z⟩⟩⟩
    · refine k h1 h2 H4 fun a o h => e4.at (em _ _ h) fun q => ?_
      rw [List.mem_singleton.mp q, hx] at h
      cases h
    · exact told2 (n := 3) (i := 2) hl (by decide) hxd fun t ht => kS hn t _ (fresh_back (em.trans e) ht) ((em.trans e).trans (Ex.new ht)) upd_same
    · exact told2 (n := 3) (i := 2) hl (by decide) hxd fun t ht => kR h1 i z hi hb hlt t _ (fresh_back (em.trans e) ht) ((em.trans e).trans (Ex.new ht)) upd_same
theorem ok__law_asked (T : TX K mg) : Can P w K mg base CX0 10 (He.fAd K at__law_asked) ps__law_asked [] (spAsked K) := by
  obtain ⟨fd_Wave_at, G_Wave_at, ds_Wave_at, v_Wave_at, b_Wave_at⟩ := ok_Wave_at (P := P) (w := w) (base := base) T
  obtain ⟨fd_Wave_rank, G_Wave_rank, ds_Wave_rank, v_Wave_rank, b_Wave_rank⟩ := ok_Wave_rank (P := P) (w := w) (base := base) T
  obtain ⟨fd_Wave_select, G_Wave_select, ds_Wave_select, v_Wave_select, b_Wave_select⟩ := ok_Wave_select (P := P) (w := w) (base := base) T
  obtain ⟨fd_Wave_following, G_Wave_following, ds_Wave_following, v_Wave_following, b_Wave_following⟩ := ok_Wave_following (P := P) (w := w) (base := base) T
  exact mk__law_asked T fun fd F => def0 F sc__law_asked (fun vs H Q E h => by
    obtain ⟨p, what, s, i, row, size, rfl, _⟩ := h
    rfl) fun cdv A outer st H vs Q E hr h => by
    obtain ⟨p, what, s, i, row, size, rfl, ⟨F, B⟩, hz, w0, w3, kS, kP, kN⟩ := h
    refine ⟨_, (pss_cons (ps_try_mix rfl rfl sc__law_asked.nd takes0 (fun W pn xe tk _ => (pss_one (ps_if (pt_cmpR op_eq (pv 1) pe_int (nomark _)) (pss_one (ps_expr (pe_meth (pv 0) T.cl_Wave T.me_Wave_rank G_Wave_rank (hr.mono (by first | decide | omega)) b_Wave_rank v_Wave_rank (passes_call (E := fun cls d H => ∀ σ, W cls d σ H) tk (fun _ _ σ _ h => h σ)) (pa_cons (pv 2) (pa_cons (pv 3) pa_nil))))) (pss_one (ps_if (pt_cmpR op_eq (pv 1) pe_int (nomark _)) (pss_one (ps_expr (pe_meth (pv 0) T.cl_Wave T.me_Wave_select G_Wave_select (hr.mono (by first | decide | omega)) b_Wave_select v_Wave_select (passes_call (E := fun cls d H => ∀ σ, W cls d σ H) tk (fun _ _ σ _ h => h σ)) (pa_cons (pv 2) (pa_cons (pv 3) pa_nil))))) (pss_one (ps_if (pt_cmpR op_eq (pv 1) pe_int (nomark _)) (pss_one (ps_expr (pe_meth (pv 0) T.cl_Wave T.me_Wave_following G_Wave_following (hr.mono (by first | decide | omega)) b_Wave_following v_Wave_following (passes_call (E := fun cls d H => ∀ σ, W cls d σ H) tk (fun _ _ σ _ h => h σ)) (pa_cons (pv 2) (pa_cons (pv 3) pa_nil))))) (pss_one (ps_expr (pe_meth (pv 0) T.cl_Wave T.me_Wave_at G_Wave_at (hr.mono (by first | decide | omega)) b_Wave_at v_Wave_at (passes_call (E := fun cls d H => ∀ σ, W cls d σ H) tk (fun _ _ σ _ h => h σ)) (pa_cons (pv 3) pa_nil))))))))))) (.as (i := 4) rfl rfl ⟨rfl, by decide, .inl T.g_InvalidSymbol⟩ (fun a oe cls d pn hz hf => ps_len (n := 5) rfl (pss_one (ps_ret (pe_tup (pa_cons pe_str (pa_cons (pe_xf T.xf_InvalidSymbol T.na_InvalidSymbol_symbol hz hf (pv 4)) pa_nil)))))) (.as (i := 4) rfl rfl ⟨rfl, by decide, .inl T.g_InvalidPlace⟩ (fun a oe cls d pn hz hf => ps_len (n := 5) rfl (pss_one (ps_ret (pe_tup (pa_cons pe_str (pa_cons (pe_xf T.xf_InvalidPlace T.na_InvalidPlace_place hz hf (pv 4)) pa_nil)))))) .nil)))
  (pss_one (ps_ret pe_non))), ?_⟩
    obtain ⟨bx, sy, pd, kvs, hbx, _⟩ := id B
    refine st_seq (st_if (ans_v (val_eq (val_var rfl) val_c rfl)) (fun h0 => ?_) (fun h0 => ?_))
    · have e0 : what = 0 := by simpa using h0
      refine go_drop ⟨_, rfl, p, bx, _, rfl, hbx, fn_Wave_rank .., _, rfl, _, rfl, p, s, i, row, size, rfl, ⟨F, B⟩, hz, fun g0 g1 g2 H1 e1 => kN (fun _ => g0) (fun hb => by unfold badN at hb; omega) H1 e1, fun hn d H' hd e hx σ => ⟨true, T.ex_InvalidSymbol_InvalidSymbol, fun _ a ha hl => ?_, fun z => by cases z⟩, fun hs hn d H' hd e hx σ => ⟨false, T.ex_InvalidPlace_InvalidSymbol, (fun z => by cases z), fun _ => ⟨true, T.ex_InvalidPlace_InvalidPlace, fun _ a ha hl => ?_, fun z => by cases z⟩⟩⟩
      · exact told2 (n := 5) (i := 4) hl (by decide) hx fun t ht => kS (by omega) hn t _ (fresh_back e ht) (e.trans (Ex.new ht)) upd_same
      · exact told2 (n := 5) (i := 4) hl (by decide) hx fun t ht => kP (fun _ => hs) (.inl ⟨e0, hn⟩) t _ (fresh_back e ht) (e.trans (Ex.new ht)) upd_same
    · have n0 : ¬ what = 0 := by simpa using h0
      refine st_if (ans_v (val_eq (val_var rfl) val_c rfl)) (fun h1 => ?_) (fun h1 => ?_)
      · have e1 : what = 1 := by simpa using h1
        refine go_drop ⟨_, rfl, p, bx, _, rfl, hbx, fn_Wave_select .., _, rfl, _, rfl, p, s, i, row, size, rfl, ⟨F, B⟩, fun g0 g1 H1 e1 => kN (fun _ => g0) (fun hb => by unfold badN at hb; omega) H1 e1, fun hn d H' hd e hx σ => ⟨true, T.ex_InvalidSymbol_InvalidSymbol, fun _ a ha hl => ?_, fun z => by cases z⟩, fun hs hn d H' hd e hx σ => ⟨false, T.ex_InvalidPlace_InvalidSymbol, (fun z => by cases z), fun _ => ⟨true, T.ex_InvalidPlace_InvalidPlace, fun _ a ha hl => ?_, fun z => by cases z⟩⟩⟩
        · exact told2 (n := 5) (i := 4) hl (by decide) hx fun t ht => kS (by omega) hn t _ (fresh_back e ht) (e.trans (Ex.new ht)) upd_same
        · exact told2 (n := 5) (i := 4) hl (by decide) hx fun t ht => kP (fun _ => hs) (.inr (.inl ⟨e1, hn⟩)) t _ (fresh_back e ht) (e.trans (Ex.new ht)) upd_same
      · have n1 : ¬ what = 1 := by simpa using h1
        refine st_if (ans_v (val_eq (val_var rfl) val_c rfl)) (fun h2 => ?_) (fun h2 => ?_)
        · have e2 : what = 2 := by simpa using h2
          refine go_drop ⟨_, rfl, p, bx, _, rfl, hbx, fn_Wave_following .., _, rfl, _, rfl, p, s, i, row, size, rfl, ⟨F, B⟩, hz, fun g0 g1 g2 H1 e1 => kN (fun _ => g0) (fun hb => by unfold badN at hb; omega) H1 e1, fun hn d H' hd e hx σ => ⟨true, T.ex_InvalidSymbol_InvalidSymbol, fun _ a ha hl => ?_, fun z => by cases z⟩, fun hs hn d H' hd e hx σ => ⟨false, T.ex_InvalidPlace_InvalidSymbol, (fun z => by cases z), fun _ => ⟨true, T.ex_InvalidPlace_InvalidPlace, fun _ a ha hl => ?_, fun z => by cases z⟩⟩⟩
          · exact told2 (n := 5) (i := 4) hl (by decide) hx fun t ht => kS (by omega) hn t _ (fresh_back e ht) (e.trans (Ex.new ht)) upd_same
          · exact told2 (n := 5) (i := 4) hl (by decide) hx fun t ht => kP (fun _ => hs) (.inr (.inr (.inl ⟨e2, hn⟩))) t _ (fresh_back e ht) (e.trans (Ex.new ht)) upd_same
        · have n2 : ¬ what = 2 := by simpa using h2
          refine go_drop ⟨_, rfl, p, bx, _, rfl, hbx, fn_Wave_at .., _, rfl, p, i, row, size, rfl, ⟨F, B⟩, fun z g0 hz' => kN (fun hw => by omega) (fun hb => ?_) H (Ex.refl _), fun hn d H' hd e hx σ => ⟨false, T.ex_InvalidPlace_InvalidSymbol, (fun z => by cases z), fun _ => ⟨true, T.ex_InvalidPlace_InvalidPlace, fun _ a ha hl => ?_, fun z => by cases z⟩⟩⟩
          · have := lt_of_at hz'
            unfold badN at hb
            omega
          · exact told2 (n := 5) (i := 4) hl (by decide) hx fun t ht => kP (fun hw => by omega) (.inr (.inr (.inr ⟨by omega, hn⟩))) t _ (fresh_back e ht) (e.trans (Ex.new ht)) upd_same
end
/-! ### the law -/
def spLaw (K : PySem.W.Frag) : Sp := fun vs H Q _ => ∃ (a : Addr) (ns : List Int), vs = [.ref a] ∧ SqL K H a (ns.map V.int) ∧ ∀ H', Q (.bl true) H'
theorem law_start {K : PySem.W.Frag} {H : Hp} {a : Addr} {ns : List Int} (_ : ns.length ≤ 63) (_ : ∀ z ∈ ns, Builtin.Int.intBits z ≤ 1048576) (_ : Only H) (hS : SqL K H a (ns.map V.int)) : spLaw K [.ref a] H (fun v _ => v = .bl true) fun _ _ _ => False := ⟨a, ns, rfl, hS, fun _ => rfl⟩
/-- the first item without p -/
theorem first_not {p : Int → Prop} [DecidablePred p] {l : List Int} (h : ∃ z ∈ l, ¬ p z) : ∃ (i : Nat) (z : Int), l[i]? = some z ∧ ¬ p z ∧ ∀ (j : Nat) (u : Int), j < i → l[j]? = some u → p u := by
  induction l with
  | nil =>
    obtain ⟨z, hz, _⟩ := h
    cases hz
  | cons y r ih =>
    by_cases hy : p y
    · obtain ⟨z, hz, hb⟩ := h
      have hz' : z ∈ r := (List.mem_cons.mp hz).elim (fun q => absurd (q ▸ hy) hb) id
      obtain ⟨i, u, h1, h2, h3⟩ := ih ⟨z, hz', hb⟩
      refine ⟨i + 1, u, h1, h2, fun j v hj hv => ?_⟩
      cases j with
      | zero =>
        obtain rfl := Option.some.inj hv
        exact hy
      | succ j => exact h3 j v (by omega) hv
    · exact ⟨0, y, rfl, hy, fun j _ hj => absurd hj (by omega)⟩
def offAt (p : Int → Prop) [DecidablePred p] (l : List Int) (j : Nat) : Bool := match l[j]? with
  | some z => !decide (p z)
  | none => false
theorem given_first {n i : Nat} {f : Nat → Bool} {v : Nat → V} (hi : i < n) (hf : f i = true) (hl : ∀ j, j < i → f j = false) : ∃ r, given n f v = v i :: r := by
  obtain ⟨k, rfl⟩ : ∃ k, n = i + (k + 1) := ⟨n - i - 1, by omega⟩
  unfold given
  rw [List.range_add, List.filter_append, List.filter_eq_nil_iff.mpr (fun j hj => by rw [hl j (List.mem_range.mp hj)]; decide), List.nil_append, List.range_succ_eq_map, List.map_cons, List.filter_cons, if_pos (by simpa using hf)]
  exact ⟨_, rfl⟩
/-- (word, number) -/
abbrev wn (w : Str) (i : Int) : PyData := .tuple [.str w, .int i]
theorem wn_small (w : Str) (i : Int) : (wn w i).depth < 2 ∧ lenD (wn w i) < 2 ^ 62 := by
  show (PyData.tuple [.str w, .int i]).depth < 2 ∧ lenD (.tuple [.str w, .int i]) < 2 ^ 62
  rw [PyData.depth, lenD, PyData.depthAll, PyData.depthAll, PyData.depthAll, PyData.depth, PyData.depth, lenAll, lenAll, lenAll, lenD, lenD]
  decide
theorem wn_lay {w : Str} (i : Int) (h : PyData.strOk w = true) : PyData.canLay0 (wn w i) = true := by
  show PyData.canLay0 (.tuple [.str w, .int i]) = true
  rw [PyData.canLay0, PyData.canLayAll0, PyData.canLayAll0, PyData.canLayAll0, PyData.canLay0, PyData.canLay0, h]
  rfl
theorem wn_depth (w : Str) (i : Int) : PyData.depth (wn w i) = 1 := by
  show (PyData.tuple [.str w, .int i]).depth = 1
  rw [PyData.depth, PyData.depthAll, PyData.depthAll, PyData.depthAll, PyData.depth, PyData.depth] <;> rfl
theorem four_shaped {w : Str} (i : Int) (h : PyData.strOk w = true) : SeqAt.shaped (.list [wn w i, wn w i, wn w i, wn w i]) = true := by
  unfold SeqAt.shaped
  rw [Bool.and_eq_true]
  refine ⟨?_, ?_⟩
  · rw [PyData.canLay0, PyData.canLayAll0, PyData.canLayAll0, PyData.canLayAll0, PyData.canLayAll0, PyData.canLayAll0, wn_lay i h]
    rfl
  · rw [PyData.depth, PyData.depthAll, PyData.depthAll, PyData.depthAll, PyData.depthAll, PyData.depthAll, wn_depth]
    rfl
theorem three_shaped {w : Str} (i j : Int) (h : PyData.strOk w = true) : SeqAt.shaped (.list [wn w i, .none, wn w j]) = true := by
  unfold SeqAt.shaped
  rw [Bool.and_eq_true]
  refine ⟨?_, ?_⟩
  · rw [PyData.canLay0, PyData.canLayAll0, PyData.canLayAll0, PyData.canLayAll0, PyData.canLayAll0, wn_lay i h, wn_lay j h, PyData.canLay0]
    rfl
  · rw [PyData.depth, PyData.depthAll, PyData.depthAll, PyData.depthAll, PyData.depthAll, wn_depth, wn_depth, PyData.depth]
    rfl
theorem WaveAt.apart {C : Addr} {H : Hp} {p : Addr} {row : List Int} {size : Int} {F : Addr → Prop} {d s : Addr} (B : WaveAt C H p row size F) (D : Deck H d s) : p ≠ d := by
  obtain ⟨dx, sy, pd, kvs, h1, _⟩ := B
  obtain ⟨ms, i, c, x, g1, _⟩ := D
  intro e
  rw [e, g1] at h1
  cases h1
section
variable {P : Program} {w : World} {K : PySem.W.Frag} {mg : Str → Option Value} {base : Heap}
theorem ok_law (T : TX K mg) (fd : FuncData) (F : FunD K "law" "law" (defArgs s_law) (defBody s_law) (defScope s_law) [] [] (He.fAd K at_law) fd) : FnOk P w K mg base CX0 12 (He.fAd K at_law) fd ps_law (spLaw K) := by
  obtain ⟨fd__law_deck, G__law_deck, ds__law_deck, v__law_deck, b__law_deck⟩ := ok__law_deck (P := P) (w := w) (base := base) T
  obtain ⟨fd__law_symbols, G__law_symbols, ds__law_symbols, v__law_symbols, b__law_symbols⟩ := ok__law_symbols (P := P) (w := w) (base := base) T
  obtain ⟨fd__law_draw, G__law_draw, ds__law_draw, v__law_draw, b__law_draw⟩ := ok__law_draw (P := P) (w := w) (base := base) T
  obtain ⟨fd__law_made, G__law_made, ds__law_made, v__law_made, b__law_made⟩ := ok__law_made (P := P) (w := w) (base := base) T
  obtain ⟨fd__law_asked, G__law_asked, ds__law_asked, v__law_asked, b__law_asked⟩ := ok__law_asked (P := P) (w := w) (base := base) T
  obtain ⟨fd_Wave_init, G_Wave_init, ds_Wave_init, v_Wave_init, b_Wave_init⟩ := ok_Wave_init (P := P) (w := w) (base := base) T
  obtain ⟨fd__law_same, G__law_same, ds__law_same, v__law_same, b__law_same⟩ := ok_same (P := P) (w := w) (base := base) T 2
  refine def0 F sc_law (fun vs H Q E h => by
    obtain ⟨a, ns, rfl, _⟩ := h
    rfl) fun cdv A outer s H vs Q E hr h => ?_
  obtain ⟨a, ns, rfl, hS, k⟩ := h
  refine ⟨_, (pss_cons (ps_set (i := 1) sc_law.nd rfl (Or.inl rfl) (pe_call G__law_deck (hr.mono (by first | decide | omega)) rfl T.g__law_deck T.k__law_deck b__law_deck v__law_deck pass0 (pa_cons (pv 0) pa_nil)))
  (pss_cons (ps_set (i := 2) sc_law.nd rfl (Or.inr rfl) (pe_op op_add pe_int (pe_call G__law_draw (hr.mono (by first | decide | omega)) rfl T.g__law_draw T.k__law_draw b__law_draw v__law_draw pass0 (pa_cons (pv 1) (pa_cons pe_int pa_nil)))))
  (pss_cons (ps_set (i := 3) sc_law.nd rfl (Or.inl rfl) (pe_call G__law_symbols (hr.mono (by first | decide | omega)) rfl T.g__law_symbols T.k__law_symbols b__law_symbols v__law_symbols pass0 (pa_cons (pv 1) (pa_cons (pv 2) (pa_cons pe_int pa_nil)))))
  (pss_cons (ps_set (i := 4) sc_law.nd rfl (Or.inr rfl) (pe_callTy (cList K rfl) (by rfl) T.n_list (by decide +kernel) (pa_cons (pv 3) pa_nil)))
  (pss_cons (ps_for PassesOwn.never rfl (pi_range1 rfl T.n_range (pa_cons (pe_op op_add pe_int (pe_call G__law_draw (hr.mono (by first | decide | omega)) rfl T.g__law_draw T.k__law_draw b__law_draw v__law_draw pass0 (pa_cons (pv 1) (pa_cons pe_int pa_nil)))) pa_nil)) (pg_name (i := 5) sc_law.nd rfl (Or.inl rfl))
  (pss_cons (ps_set (i := 12) sc_law.nd rfl (Or.inl rfl) (pe_call G__law_draw (hr.mono (by first | decide | omega)) rfl T.g__law_draw T.k__law_draw b__law_draw v__law_draw pass0 (pa_cons (pv 1) (pa_cons (pe_op op_add (pe_callB (cLen K rfl) (by rfl) T.n_len PySem.boot_len (pa_cons (pv 4) pa_nil)) pe_int) pa_nil))))
  (pss_one (ps_set (i := 4) sc_law.nd rfl (Or.inr rfl) (pe_op op_cat (pe_op op_cat (pe_slice (slL K rfl) (pv 4) po_none (po_some (pv 12))) (pe_lst (pa_cons (pe_ix (ixL K rfl) (pe_lst (pa_cons (pv 2) (pa_cons (pe_un un_neg pe_int) (pa_cons (pe_op op_add (pv 2) pe_int) pa_nil)))) (pe_call G__law_draw (hr.mono (by first | decide | omega)) rfl T.g__law_draw T.k__law_draw b__law_draw v__law_draw pass0 (pa_cons (pv 1) (pa_cons pe_int pa_nil))) (fun _ _ => rfl)) pa_nil))) (pe_slice (slL K rfl) (pv 4) (po_some (pv 12)) po_none))))))
  (pss_cons (ps_set (i := 6) sc_law.nd rfl (Or.inl rfl) (pe_ix (ixL K rfl) (by exact (pe_lc (own := [("_law_place", 14)]) (g := gName 14) rfl sc_law.nd (pi_range1 rfl T.n_range (pa_cons (pe_callB (cLen K rfl) (by rfl) T.n_len PySem.boot_len (pa_cons (pv 4) pa_nil)) pa_nil)) (blkOk_by (own := [("_law_place", 14)]) (N := N_law) (sc := defScope s_law) (by decide +kernel)) (fun _ _ _ _ _ => by exact (pg_name (i := 14) sc_law.nd rfl (Or.inl rfl))) (fun _ _ _ _ _ => by exact pts_one (pt_not (pt_chain op_le op_lt pe_int (pe_ix (ixL K rfl) (pv 4) (pv 14) (fun _ _ => rfl)) (pv 2)))) (fun _ _ _ _ _ => by exact (pv 14)))) pe_int (fun _ _ => rfl)))
  (pss_cons (ps_if (PW.pt (pw_or (pt_not (pt_val (pe_call G__law_same (hr.mono (by first | decide | omega)) rfl T.g__law_same T.k__law_same b__law_same v__law_same pass0 (pa_cons (pe_call G__law_made (hr.mono (by first | decide | omega)) rfl T.g__law_made T.k__law_made b__law_made v__law_made pass0 (pa_cons (pv 4) (pa_cons (pv 2) pa_nil))) (pa_cons (pe_tup (pa_cons pe_str (pa_cons (pv 6) pa_nil))) pa_nil))))) (pw_or1 (pt_cmpR op_notN (pe_call G__law_made (hr.mono (by first | decide | omega)) rfl T.g__law_made T.k__law_made b__law_made v__law_made pass0 (pa_cons (pv 3) (pa_cons (pv 2) pa_nil))) pe_non (nomark _))))) (pss_one (ps_ret pe_bl)) pss_nil)
  (pss_cons (ps_for PassesOwn.never rfl (iLst K rfl (pe_lst (pa_cons pe_int (pa_cons (pe_un un_neg pe_int) (pa_cons pe_int pa_nil))))) (pg_name (i := 7) sc_law.nd rfl (Or.inl rfl))
  (pss_one (ps_if (pt_not (pt_val (pe_call G__law_same (hr.mono (by first | decide | omega)) rfl T.g__law_same T.k__law_same b__law_same v__law_same pass0 (pa_cons (pe_call G__law_made (hr.mono (by first | decide | omega)) rfl T.g__law_made T.k__law_made b__law_made v__law_made pass0 (pa_cons (pv 4) (pa_cons (pv 7) pa_nil))) (pa_cons (pe_tup (pa_cons pe_str (pa_cons (pv 7) pa_nil))) pa_nil))))) (pss_one (ps_ret pe_bl)) pss_nil)))
  (pss_cons (ps_set (i := 8) sc_law.nd rfl (Or.inr rfl) (pe_make T.m_Wave G_Wave_init (hr.mono (by first | decide | omega)) rfl T.g_Wave b_Wave_init v_Wave_init passL (pa_cons (pv 3) (pa_cons (pv 2) pa_nil))))
  (pss_cons (ps_set (i := 9) sc_law.nd rfl (Or.inl rfl) (pe_op op_add (pe_op op_add (pe_callB (cLen K rfl) (by rfl) T.n_len PySem.boot_len (pa_cons (pv 3) pa_nil)) pe_int) (pe_call G__law_draw (hr.mono (by first | decide | omega)) rfl T.g__law_draw T.k__law_draw b__law_draw v__law_draw pass0 (pa_cons (pv 1) (pa_cons pe_int pa_nil)))))
  (pss_cons (ps_for PassesOwn.never rfl (iLst K rfl (pe_lst (pa_cons (pe_un un_neg pe_int) (pa_cons (pv 2) pa_nil)))) (pg_name (i := 10) sc_law.nd rfl (Or.inl rfl))
  (pss_one (ps_for PassesOwn.never rfl (pi_range1 rfl T.n_range (pa_cons pe_int pa_nil)) (pg_name (i := 13) sc_law.nd rfl (Or.inl rfl))
  (pss_one (ps_if (pt_not (pt_val (pe_call G__law_same (hr.mono (by first | decide | omega)) rfl T.g__law_same T.k__law_same b__law_same v__law_same pass0 (pa_cons (pe_call G__law_asked (hr.mono (by first | decide | omega)) rfl T.g__law_asked T.k__law_asked b__law_asked v__law_asked pass0 (pa_cons (pv 8) (pa_cons (pv 13) (pa_cons (pv 10) (pa_cons (pv 9) pa_nil))))) (pa_cons (pe_tup (pa_cons pe_str (pa_cons (pv 10) pa_nil))) pa_nil))))) (pss_one (ps_ret pe_bl)) pss_nil)))))
  (pss_cons (ps_setLc (i := 11) (own := [("_law_what", 13)]) (g := gName 13) (tt := tYes) rfl sc_law.nd rfl rfl (sw_true rfl rfl rfl (by decide +kernel)) (pi_range1 rfl T.n_range (pa_cons pe_int pa_nil)) (blkOk_by (own := [("_law_what", 13)]) (N := N_law) (sc := defScope s_law) (by decide +kernel)) (fun _ _ _ _ _ => by exact (pg_name (i := 13) sc_law.nd rfl (Or.inl rfl))) (fun _ _ _ _ _ => by exact pts_nil) (fun _ _ _ _ _ => by exact (pe_call G__law_asked (hr.mono (by first | decide | omega)) rfl T.g__law_asked T.k__law_asked b__law_asked v__law_asked pass0 (pa_cons (pv 8) (pa_cons (pv 13) (pa_cons pe_int (pa_cons (pe_un un_neg pe_int) pa_nil)))))))
  (pss_cons (ps_if (pt_cmpR (oNeD K rfl hr.units) (pv 11) (pe_lst (pa_cons (pe_tup (pa_cons pe_str (pa_cons (pe_un un_neg pe_int) pa_nil))) (pa_cons (pe_tup (pa_cons pe_str (pa_cons (pe_un un_neg pe_int) pa_nil))) (pa_cons (pe_tup (pa_cons pe_str (pa_cons (pe_un un_neg pe_int) pa_nil))) (pa_cons (pe_tup (pa_cons pe_str (pa_cons (pe_un un_neg pe_int) pa_nil))) pa_nil))))) (nomark _)) (pss_one (ps_ret pe_bl)) pss_nil)
  (pss_cons (ps_set (i := 11) sc_law.nd rfl (Or.inl rfl) (pe_lst (pa_cons (pe_call G__law_asked (hr.mono (by first | decide | omega)) rfl T.g__law_asked T.k__law_asked b__law_asked v__law_asked pass0 (pa_cons (pv 8) (pa_cons pe_int (pa_cons pe_int (pa_cons (pv 9) pa_nil))))) (pa_cons (pe_call G__law_asked (hr.mono (by first | decide | omega)) rfl T.g__law_asked T.k__law_asked b__law_asked v__law_asked pass0 (pa_cons (pv 8) (pa_cons pe_int (pa_cons pe_int (pa_cons (pv 9) pa_nil))))) (pa_cons (pe_call G__law_asked (hr.mono (by first | decide | omega)) rfl T.g__law_asked T.k__law_asked b__law_asked v__law_asked pass0 (pa_cons (pv 8) (pa_cons pe_int (pa_cons pe_int (pa_cons (pe_callB (cLen K rfl) (by rfl) T.n_len PySem.boot_len (pa_cons (pv 3) pa_nil)) pa_nil))))) pa_nil)))))
  (pss_one (ps_ret (pe_cmpR (oEqD K rfl hr.units) (pv 11) (pe_lst (pa_cons (pe_tup (pa_cons pe_str (pa_cons (pv 9) pa_nil))) (pa_cons pe_non (pa_cons (pe_tup (pa_cons pe_str (pa_cons (pe_callB (cLen K rfl) (by rfl) T.n_len PySem.boot_len (pa_cons (pv 3) pa_nil)) pa_nil))) pa_nil)))) (nomark _)))))))))))))))))), ?_⟩
  refine ⟨_, rfl, a, ns, rfl, hS, fun d sc H1 hd hsc D1 e1 => ?_⟩
  dsimp only [gName]
  refine st_seq (go_asg ?_)
  refine rd_draw rfl val_c (by decide) (by decide) D1 fun z H2 z0 z1 D2 e2 => ?_
  refine ⟨1, z, rfl, rfl, ?_⟩
  dsimp only [gName]
  obtain ⟨size, hsize⟩ : ∃ size : Int, 1 + z = size := ⟨_, rfl⟩
  rw [hsize]
  have s0 : 1 ≤ size := by omega
  have s1 : size ≤ 12 := by omega
  have hos : okSize size := ⟨s0, by omega⟩
  refine ⟨_, rfl, _, rfl, d, sc, size, 30, rfl, by omega, by omega, by decide, by decide, D2, fun rp row H3 hrp hsy hlen D3 e3 hrow => ?_⟩
  have hlen' : row.length ≤ 30 := by omega
  dsimp only [gName]
  -- bad = list(row)
  refine ⟨_, rfl, rp, _, rfl, .inl (SqL.of hrow), fun q hq => ?_⟩
  have e4 : Ex H3 (upd H3 q (.lst (row.map V.int))) := Ex.new hq
  have q4 : (upd H3 q (.lst (row.map V.int))) q = some (.lst (row.map V.int)) := upd_same
  have r4 := e4 _ _ hrow
  have D4 := D3.keep e4
  dsimp only [gName]
  generalize upd H3 q (.lst (row.map V.int)) = H4 at e4 q4 r4 D4 ⊢
  clear hq e4
  refine st_seq ?_
  refine rd_draw rfl val_c (by decide) (by decide) D4 fun m H5 m0 m1 D5 e5 => ?_
  have q5 := e5.at q4 (by simpa using D4.ne_ints q4)
  have r5 := e5.at r4 (by simpa using D4.ne_ints r4)
  refine ⟨1, m, rfl, rfl, 1 + m, rfl, by omega, by omega, for_range (lo := 0) (n := (1 + m).toNat) (fun i σ H' => ∃ v5 v12 qi, ∃ bad : List Int, σ = [some (.ref a), some (.ref d), some (.int size), some (.ref rp), some (.ref qi), v5, none, none, none, none, none, none, v12, none, none] ∧ Kp [d] H5 H' ∧ Deck H' d sc ∧ H' qi = some (.lst (bad.map V.int)) ∧ bad.length = row.length + i ∧ (0 < i → ∃ z ∈ bad, ¬ sym size z))
    ⟨none, none, q, row, rfl, Kp.refl, D5, q5, rfl, fun h => absurd h (by omega)⟩ ?_ ?_⟩
  · rintro i σ H6 hi ⟨v5, v12, qi, bad, rfl, e6, D6, q6, hl6, hx6⟩
    refine st_seq (go_asg ?_)
    refine rd_draw rfl (val_I (g := fun i j => .int (i + j)) (val_lenL (val_var rfl) (SqL.of q6)) val_c) (by rw [List.length_map]; omega) (by rw [List.length_map]; omega) D6 fun t H7 t0 t1 D7 e7 => ?_
    rw [List.length_map] at t1
    have q7 := e7.at q6 (by simpa using D6.ne_ints q6)
    obtain ⟨j, rfl⟩ : ∃ j : Nat, t = (j : Int) := ⟨t.toNat, by omega⟩
    have hj : j ≤ bad.length := by omega
    have hjm : j ≤ (bad.map V.int).length := by rw [List.length_map]; exact hj
    dsimp only [gName]
    refine go_asg ?_
    refine (el_sl (K := K) (lo := none) (hi := some (j : Int)) (ev_var rfl) eo_none (eo_some (ev_var rfl)) (SqL.of q7)) _ (Ex.refl _) _ fun s1 H8 hs1 e8 f8 => ?_
    rw [cut_to hjm] at f8
    have D8 := D7.keep e8
    refine ⟨_, rfl, 1, rfl, _, rfl, _, _, rfl, rfl, by show 3 ≤ sizeLine; decide, fun l3 hl3 => ?_⟩
    have e9 : Ex H8 (upd H8 l3 (.lst [.int size, .int (-1), .int (size + 5)])) := Ex.new hl3
    have f9 : (upd H8 l3 (.lst [.int size, .int (-1), .int (size + 5)])) l3 = some (.lst [.int size, .int (-1), .int (size + 5)]) := upd_same
    have D9 := D8.keep e9
    generalize upd H8 l3 (.lst [.int size, .int (-1), .int (size + 5)]) = H9 at e9 f9 D9 ⊢
    refine rd_draw rfl val_c (by decide) (by decide) D9 fun x H10 x0 x1 D10 e10 => ?_
    obtain ⟨z, hz, ez⟩ : ∃ z : Int, ¬ sym size z ∧ atI [V.int size, V.int (-1), V.int (size + 5)] x = some (.int z) := by
      rcases (show x = 0 ∨ x = 1 ∨ x = 2 by omega) with rfl | rfl | rfl
      · exact ⟨size, by unfold sym; omega, rfl⟩
      · exact ⟨-1, by unfold sym; omega, rfl⟩
      · exact ⟨size + 5, by unfold sym; omega, rfl⟩
    have nl3 : l3 ∉ [d] := by simpa using D8.ne_new hl3
    refine ⟨l3, _, x, _, rfl, rfl, SqL.of (e10.at f9 nl3), ez, by show 1 ≤ sizeLine; decide, fun l1 hl1 => ?_⟩
    have e11 : Ex H10 (upd H10 l1 (.lst [.int z])) := Ex.new hl1
    have f11 : (upd H10 l1 (.lst [.int z])) l1 = some (.lst [.int z]) := upd_same
    have s11 := e11 _ _ (e10.at (e9 _ _ f8) (by rw [← List.map_take] at f8; simpa using D8.ne_ints f8))
    have q11 := e11 _ _ (e10.at (e9 _ _ (e8 _ _ q7)) (by simpa using D7.ne_ints q7))
    have D11 := D10.keep e11
    generalize upd H10 l1 (.lst [.int z]) = H11 at e11 f11 s11 q11 D11 ⊢
    refine ⟨s1, l1, _, _, rfl, rfl, s11, f11, sz_of (by rw [List.length_take, List.length_map]; show _ + 1 ≤ _; omega), fun u1 hu1 => ?_⟩
    have e12 : Ex H11 (upd H11 u1 (.lst ((bad.map V.int).take j ++ [.int z]))) := Ex.new hu1
    have f12 : (upd H11 u1 (.lst ((bad.map V.int).take j ++ [.int z]))) u1 = some (.lst ((bad.map V.int).take j ++ [.int z])) := upd_same
    generalize upd H11 u1 (.lst ((bad.map V.int).take j ++ [.int z])) = H12 at e12 f12 ⊢
    refine (el_sl (K := K) (lo := some (j : Int)) (hi := none) (ev_var rfl) (eo_some (ev_var rfl)) eo_none (SqL.of (e12 _ _ q11))) _ (Ex.refl _) _ fun s2 H13 hs2 e13 f13 => ?_
    rw [cut_from hjm] at f13
    refine ⟨u1, s2, _, _, rfl, rfl, e13 _ _ f12, f13, sz_of (by rw [List.length_append, List.length_take, List.length_drop, List.length_map]; show _ + 1 + _ ≤ _; omega), fun u2 hu2 => ?_⟩
    have el : (bad.map V.int).take j ++ [V.int z] ++ (bad.map V.int).drop j = (bad.take j ++ [z] ++ bad.drop j).map V.int := by rw [List.map_append, List.map_append, List.map_take, List.map_drop] <;> rfl
    rw [el]
    have e14 : Ex H11 (upd H13 u2 (.lst ((bad.take j ++ [z] ++ bad.drop j).map V.int))) := (e12.trans e13).trans (Ex.new hu2)
    exact ⟨_, _, u2, _, rfl, ((((e6.trans e7).trans (Kp.of (e8.trans e9))).trans e10).trans (Kp.of e11)).trans (Kp.of e14), D11.keep e14, upd_same, by rw [List.length_append, List.length_append, List.length_take, List.length_drop]; show _ + 1 + _ = _; omega, fun _ => ⟨z, by simp, hz⟩⟩
  · rintro σ H6 ⟨v5, v12, qi, bad, rfl, e6, D6, q6, hl6, hx6⟩
    have r6 := e6.at r5 (by simpa using D5.ne_ints r5)
    obtain ⟨i, z, hi, hz, hlt⟩ := first_not (p := sym size) (hx6 (by omega))
    have hib : i < bad.length := lt_of_at hi
    have hbl : bad.length ≤ 1000 := by omega
    dsimp only [gName]
    refine q_asg (v := .int (i : Int)) (ev_ixN (i := 0) (xs := given bad.length (offAt (sym size) bad) fun j => V.int (j : Int)) (el_lcR1 (n := (bad.length : Int)) (offAt (sym size) bad) (fun j => V.int (j : Int)) (ea_cons (ev_is (ev_lenV (ev_var rfl) (SqL.of q6)) (by rw [List.length_map])) ea_nil) (by omega) (fun _ => rfl) (fun j H1 e1 hj => ?_) (fun j H1 e1 hj _ => ev_var rfl)) (fun _ _ => ev_c) ?_) fun H7 e7 => ?_
    · have hj' : j < bad.length := by omega
      refine et_ans fun H2 e2 => ans_is (ans_not (ans_v (val_chain (g := fun i j => decide (i ≤ j)) (g' := fun i j => decide (i < j)) val_c (val_ixL (val_var rfl) (val_var rfl) (SqL.of (e2 _ _ (e1 _ _ q6))) (atI_nat (at_int (List.getElem?_eq_getElem hj')))) (val_var rfl)))) ?_
      unfold offAt
      rw [List.getElem?_eq_getElem hj']
      exact congrArg not (Bool.decide_and _ _).symm
    · have h1 : offAt (sym size) bad i = true := by
        unfold offAt
        rw [hi]
        exact (Bool.not_eq_true' _).mpr (decide_eq_false hz)
      obtain ⟨r, hr'⟩ := given_first (v := fun j => V.int (j : Int)) hib h1 fun j hj => by
        unfold offAt
        have hj' : j < bad.length := by omega
        rw [List.getElem?_eq_getElem hj']
        exact (Bool.not_eq_false' _).mpr (decide_eq_true (hlt j _ hj (List.getElem?_eq_getElem hj')))
      rw [hr']
      exact atI_nat (j := 0) rfl
    have q7 := e7 _ _ q6
    have r7 := e7 _ _ r6
    have D7 := D6.keep e7
    obtain ⟨w1, w2⟩ := wn_small "row" (i : Int)
    refine q_when (b := false) (et_or (a := false) (sameD (n := 2) (d := wn "row" (i : Int)) (ed_call (ea_cons (ev_var rfl) (ea_cons (ev_var rfl) ea_nil)) fun H1 e Q q E => ⟨qi, bad, size, rfl, SqL.of (e _ _ q7), by omega, fun _ hall => absurd (hall z (List.mem_of_getElem? hi)) hz, fun hn => absurd hos hn, fun _ i' z' hi' hz' hlt' => ?_⟩) (ed_tup (eds_cons ed_cstr (eds_cons (ed_int (ev_var rfl)) eds_nil)) (by show 2 ≤ 100000; decide)) w1 w2) fun _ =>
      et_test (ev_op (ev_call (ea_cons (ev_var rfl) (ea_cons (ev_var rfl) ea_nil)) fun H1 e Q q E => ⟨rp, row, size, rfl, SqL.of (e _ _ r7), by omega, fun _ _ H' e' => q H' e', fun hn => absurd hos hn, fun _ i' z' hi' hz' => absurd (hsy z' (List.mem_of_getElem? hi')) hz'⟩) ev_c fun H1 e Q q => ⟨rfl, q _ (Ex.refl _)⟩)) (fun z => by cases z) fun _ H8 e8 => ?_
    · have : i' = i := by
        rcases Nat.lt_trichotomy i' i with h | h | h
        · exact absurd (hlt i' z' h hi') hz'
        · exact h
        · exact absurd (hlt' i z h hi) hz
      rw [this]
      exact spd_tup (fun H3 => .cons (.str _) (.cons (.int _) .nil)) q
    have q8 := e8 _ _ q7
    have r8 := e8 _ _ r7
    have D8 := D7.keep e8
    -- wrong sizes
    refine st_seq ?_
    refine ⟨1, rfl, by show 3 ≤ sizeLine; decide, fun L hL => ?_⟩
    have e9 : Ex H8 (upd H8 L (.lst [.int 0, .int (-1), .int 65537])) := Ex.new hL
    have f9 : (upd H8 L (.lst [.int 0, .int (-1), .int 65537])) L = some (.lst [.int 0, .int (-1), .int 65537]) := upd_same
    have q9 := e9 _ _ q8
    have r9 := e9 _ _ r8
    have D9 := D8.keep e9
    generalize upd H8 L (.lst [.int 0, .int (-1), .int 65537]) = H9 at e9 f9 q9 r9 D9 ⊢
    refine ⟨L, rfl, ⟨_, SqL.of f9⟩, for_list (K := K) (a := L) (xs := [.int 0, .int (-1), .int 65537]) (fun n σ H' => ∃ v7, σ = [some (.ref a), some (.ref d), some (.int size), some (.ref rp), some (.ref qi), v5, some (.int (i : Int)), v7, none, none, none, none, v12, none, none] ∧ Ex H9 H') ⟨_, rfl, Ex.refl _⟩ (fun n σ H' _ ⟨_, _, e⟩ => SqL.of (e _ _ f9)) ?_ ?_⟩
    · rintro n y σ H' hn ⟨v7, rfl, e⟩
      obtain ⟨g, rfl, hg⟩ : ∃ g : Int, y = .int g ∧ ¬ okSize g := by
        have hy := List.mem_of_getElem? hn
        simp only [List.mem_cons, List.not_mem_nil, or_false] at hy
        rcases hy with rfl | rfl | rfl
        · exact ⟨_, rfl, by unfold okSize; omega⟩
        · exact ⟨_, rfl, by unfold okSize; omega⟩
        · exact ⟨_, rfl, by unfold okSize; omega⟩
      obtain ⟨w1, w2⟩ := wn_small "size" g
      refine s_when (b := false) (sameD (n := 2) (d := wn "size" g) (ed_call (ea_cons (ev_var rfl) (ea_cons (ev_var rfl) ea_nil)) fun H1 e' Q q E => ⟨qi, bad, g, rfl, SqL.of (e' _ _ (e _ _ q9)), by omega, fun ho => absurd ho hg, fun _ => spd_tup (fun H3 => .cons (.str _) (.cons (.int _) .nil)) q, fun ho => absurd ho hg⟩) (ed_tup (eds_cons ed_cstr (eds_cons (ed_int (ev_var rfl)) eds_nil)) (by show 2 ≤ 100000; decide)) w1 w2) (fun z => by cases z) fun _ H2 e2 => ⟨_, rfl, e.trans e2⟩
    · rintro σ H10 ⟨v7, rfl, e10⟩
      have r10 := e10 _ _ r9
      have D10 := D9.keep e10
      dsimp only [gName]
      -- wave
      refine ⟨_, rfl, _, rfl, fun x dx hx hdx hne => ?_⟩
      have em : Ex H10 (upd (upd H10 dx (.own x)) x (.ins (He.ga K "Wave") dx [])) := (Ex.new hdx).trans (Ex.new (by rw [upd_ne (Ne.symm hne)]; exact hx))
      refine ⟨x, dx, rp, row, size, rfl, upd_same, SqL.of (em _ _ r10), by omega, fun _ hall H11 e11 W11 => ⟨rfl, ?_⟩, fun hn => absurd hos hn, fun _ i z hi hz => absurd (hsy z (List.mem_of_getElem? hi)) hz⟩
      have e1011 : Ex H10 H11 := fun a o ha => e11.at (em _ _ ha) (fun z => by rw [List.mem_singleton.mp z, hx] at ha; cases ha)
      have r11 := e1011 _ _ r10
      have D11 := D10.keep e1011
      have hFd : ∀ a, (upd (upd H10 dx (.own x)) x (.ins (He.ga K "Wave") dx [])) a = none → a ∉ [d] := fun a h1 hz => by
        obtain ⟨_, _, _, _, g, _⟩ := D10
        rw [List.mem_singleton.mp hz, em _ _ g] at h1
        cases h1
      have nxd : x ∉ [d] := by simpa using W11.apart D11
      dsimp only [gName]
      -- far
      refine st_seq (go_asg ?_)
      refine ⟨_, rfl, rp, _, rfl, .inl (SqL.of r11), _, 1, rfl, rfl, ?_⟩
      refine rd_draw rfl val_c (by decide) (by decide) D11 fun f H12 f0 f1 D12 e12 => ?_
      refine ⟨_, f, rfl, rfl, ?_⟩
      dsimp only [gName]
      rw [List.length_map]
      have r12 := e12.at r11 (by simpa using D11.ne_ints r11)
      have W12 := W11.kp e12 nxd hFd
      obtain ⟨far, hfar⟩ : ∃ far : Int, (row.length : Int) + 1 + f = far := ⟨_, rfl⟩
      rw [hfar]
      have hfar' : (row.length : Int) < far := by omega
      -- wrong symbols
      refine st_seq ?_
      refine ⟨1, rfl, _, rfl, by show 2 ≤ sizeLine; decide, fun Ls hL2 => ?_⟩
      have e13 : Ex H12 (upd H12 Ls (.lst [.int (-1), .int size])) := Ex.new hL2
      have f13 : (upd H12 Ls (.lst [.int (-1), .int size])) Ls = some (.lst [.int (-1), .int size]) := upd_same
      have r13 := e13 _ _ r12
      have W13 := W12.keep e13
      generalize upd H12 Ls (.lst [.int (-1), .int size]) = H13 at e13 f13 r13 W13 ⊢
      have put : ∀ {H0 : Hp} {ta : TA} {σ : L2.St} {what s g : Int} {wd : Str} {u : Int} {tb : TE}, Ex H13 H0 → EvA ta σ H0 [.ref x, .int what, .int s, .int g] → 0 ≤ what → what ≤ 3 →
          ((what ≤ 2 ∧ ¬ sym size s ∧ wd = "symbol" ∧ u = s) ∨ ((what ≤ 2 → sym size s) ∧ badN row.length what g ∧ wd = "place" ∧ u = g)) → EvD K (tCall (spAsked K) [] E0 ta) σ H0 (wn wd u) := fun {H0 ta σ what s g wd u tb} eH h w0 w3 hc =>
        ed_call h fun H1 e Q q E => ⟨x, what, s, g, row, size, rfl, ⟨_, W13.keep (eH.trans e)⟩, by omega, w0, w3, fun h2 hns => by
            rcases hc with ⟨_, _, rfl, rfl⟩ | ⟨hs, _⟩
            · exact spd_tup (fun H3 => .cons (.str _) (.cons (.int _) .nil)) q
            · exact absurd (hs h2) hns, fun hs hb => by
            rcases hc with ⟨h2, hns, _⟩ | ⟨_, _, rfl, rfl⟩
            · exact absurd (hs h2) hns
            · exact spd_tup (fun H3 => .cons (.str _) (.cons (.int _) .nil)) q, fun hs hb => by
            rcases hc with ⟨h2, hns, _⟩ | ⟨_, hb', _⟩
            · exact absurd (hs h2) hns
            · exact absurd hb' hb⟩
      refine ⟨Ls, rfl, ⟨_, SqL.of f13⟩, for_list (K := K) (a := Ls) (xs := [.int (-1), .int size]) (fun n σ H' => ∃ v10 v13, σ = [some (.ref a), some (.ref d), some (.int size), some (.ref rp), some (.ref qi), v5, some (.int (i : Int)), v7, some (.ref x), some (.int far), v10, none, v12, v13, none] ∧ Ex H13 H') ⟨_, _, rfl, Ex.refl _⟩ (fun n σ H' _ ⟨_, _, _, e⟩ => SqL.of (e _ _ f13)) ?_ ?_⟩
      · rintro n y σ H' hn ⟨v10, v13, rfl, e⟩
        obtain ⟨g, rfl, hg⟩ : ∃ g : Int, y = .int g ∧ ¬ sym size g := by
          have hy := List.mem_of_getElem? hn
          simp only [List.mem_cons, List.not_mem_nil, or_false] at hy
          rcases hy with rfl | rfl
          · exact ⟨_, rfl, by unfold sym; omega⟩
          · exact ⟨_, rfl, by unfold sym; omega⟩
        refine ⟨3, rfl, by decide, by decide, for_range (lo := 0) (n := 3) (fun k σ H2 => ∃ v13, σ = [some (.ref a), some (.ref d), some (.int size), some (.ref rp), some (.ref qi), v5, some (.int (i : Int)), v7, some (.ref x), some (.int far), some (.int g), none, v12, v13, none] ∧ Ex H13 H2) ⟨_, rfl, e⟩ ?_ ?_⟩
        · rintro k σ H2 hk ⟨v13, rfl, e2⟩
          obtain ⟨what, hw, hw0, hw2⟩ : ∃ what : Int, (0 : Int) + (k : Int) = what ∧ 0 ≤ what ∧ what ≤ 2 := ⟨_, rfl, by omega, by omega⟩
          rw [hw]
          obtain ⟨w1, w2⟩ := wn_small "symbol" g
          exact s_when (b := false) (sameD (n := 2) (d := wn "symbol" g) (put (tb := tC .non) e2 (ea_cons (ev_var rfl) (ea_cons (ev_var rfl) (ea_cons (ev_var rfl) (ea_cons (ev_var rfl) ea_nil)))) hw0 (by omega) (.inl ⟨hw2, hg, rfl, rfl⟩)) (ed_tup (eds_cons ed_cstr (eds_cons (ed_int (ev_var rfl)) eds_nil)) (by show 2 ≤ 100000; decide)) w1 w2) (fun z => by cases z) fun _ H3 e3 => ⟨_, rfl, e2.trans e3⟩
        · rintro σ H2 ⟨v13, rfl, e2⟩
          exact ⟨_, _, rfl, e2⟩
      · rintro σ H14 ⟨v10, v13, rfl, e14⟩
        have hs0 : sym size 0 := ⟨by omega, by omega⟩
        -- told
        refine q_asgD (K := K) (d := .list [wn "place" (-1), wn "place" (-1), wn "place" (-1), wn "place" (-1)]) (ed_lcR (n := 4) (fun _ => wn "place" (-1)) (ea_cons ev_c ea_nil) (by decide) (fun _ => rfl) fun j H1 e1 hj => put (tb := tC .non) e14 (ea_cons (ev_var rfl) (ea_cons (ev_var rfl) (ea_cons ev_c (ea_cons (ev_un ev_c ru_neg) ea_nil)))) (by omega) (by omega) (.inr ⟨fun _ => hs0, by unfold badN; omega, rfl, rfl⟩)) fun v H15 e15 dv => ?_
        have e15' := e14.trans e15
        have one : ∀ {σ : L2.St} {H0 : Hp}, EvD K (tTup (tCons (tC (.str "place")) (tCons (tUn (rU fun i => .int (-i)) (tC (.int 1))) tNil))) σ H0 (wn "place" (-1)) := ed_tup (eds_cons ed_cstr (eds_cons (ed_int (ev_un ev_c ru_neg)) eds_nil)) (by show 2 ≤ 100000; decide)
        refine q_when (b := false) (sameNe (ed_var rfl dv) (ed_lst (eds_cons one (eds_cons one (eds_cons one (eds_cons one eds_nil)))) (by show 4 ≤ 100000; decide)) (four_shaped _ (by decide +kernel))) (fun z => by cases z) fun _ H16 e16 => ?_
        have e16' := e15'.trans e16
        have r16 := e16' _ _ r13
        have el : ∀ {σ : L2.St}, σ[3]? = some (some (.ref rp)) → Ev (tCB (rLn K) (tCons (tVar 3) tNil)) σ H16 (.int (row.length : Int)) := fun h => ev_is (ev_lenV (ev_var h) (SqL.of r16)) (by rw [List.length_map])
        refine q_asgD (K := K) (d := .list [wn "place" far, .none, wn "place" (row.length : Int)]) (ed_lst (eds_cons (put (tb := tC .non) (what := 0) e16' (ea_cons (ev_var rfl) (ea_cons ev_c (ea_cons ev_c (ea_cons (ev_var rfl) ea_nil)))) (by decide) (by decide) (.inr ⟨fun _ => hs0, by unfold badN; omega, rfl, rfl⟩))
          (eds_cons (ed_call (ea_cons (ev_var rfl) (ea_cons ev_c (ea_cons ev_c (ea_cons (ev_var rfl) ea_nil)))) fun H1 e Q q E => ⟨x, 1, 0, far, row, size, rfl, ⟨_, W13.keep (e16'.trans e)⟩, by omega, by decide, by decide, fun _ hn => absurd hs0 hn, fun _ hb => absurd hb (by unfold badN; omega), fun _ _ => spd_val (fun _ => .non) q⟩)
            (eds_cons (put (tb := tC .non) (what := 3) e16' (ea_cons (ev_var rfl) (ea_cons ev_c (ea_cons ev_c (ea_cons (el rfl) ea_nil)))) (by decide) (by decide) (.inr ⟨fun h => absurd h (by decide), by unfold badN; omega, rfl, rfl⟩)) eds_nil))) (by show 3 ≤ 100000; decide)) fun v2 H17 e17 dv2 => ?_
        exact s_ret (v := .bl true) (sameEq (ed_var rfl dv2) (ed_lst (eds_cons (ed_tup (eds_cons ed_cstr (eds_cons (ed_int (ev_var rfl)) eds_nil)) (by show 2 ≤ 100000; decide)) (eds_cons ed_cnon (eds_cons (ed_tup (eds_cons ed_cstr (eds_cons (ed_int ((el rfl).mono e17)) eds_nil)) (by show 2 ≤ 100000; decide)) eds_nil))) (by show 3 ≤ 100000; decide)) (three_shaped _ _ (by decide +kernel))) fun H18 _ => k H18
end

/-! ### the head and the end -/
abbrev R : PySem.W.OpenRow := PySem.W.OpenLaw.row PySem.Challenge.rw_topiary_k04_symbols_refused
abbrev hk : PySem.W.Hook := hook 5 fa fn fx
def obs (s : PySem.W.SharedT) : Seen := lookAt 5 fa fn fx (HandSHeadRun.getT s)
theorem obs_eq (s : PySem.W.SharedT) : obs s = hk.obs s.abs := look_eq (HandSHeadRun.getT_eq s)
def names : List Str := ["_wall", "TopiaryError", "InvalidRow", "InvalidPlace", "InvalidSize", "InvalidSymbol", "_places_by_symbol", "count_below", "Wave", "_law_deck", "_law_draw", "_law_same", "_law_symbols", "_law_made", "_law_asked", "LARGEST_SIZE"]
theorem run (w : World) : HandSHeadRun.RunEq R (PySem.W.view R.prog [19]) hk obs 3000 names w := by
  intro os
  kernel_rfl
theorem facts {w : World} {K : PySem.W.Frag} {h : Heap} {mg : Str → Option Value} {f : Addr} (X : K.In h) (G : h.Ns mainGlobals mg) (hfa : mg ("law" : Str) = some (.ref f)) (c : seen fa fn fx K = told fn) :
    ∃ fd : FuncData, (∀ (s : Shared) (v : Value), BindsTo s fd ⟨[v], []⟩ [("_law_script", v)]) ∧ ∀ base : Heap, K.In base → base.Ns mainGlobals mg → FnOk (PySem.Challenge.rw_topiary_k04_symbols_refused).prog w K mg base (L2.CX0) 12 f fd ["_law_script"] (spLaw K) := by
  have T : TX K mg := txt_of X G c
  obtain ⟨fd, F⟩ := T.d 21 _ rfl
  have e := hfa.symm.trans T.g_law
  cases e
  exact ⟨fd, fun s v => FunD.bindsA (ps := ["_law_script"]) F (fun _ _ _ _ _ _ us hl => match us, hl with | [_], _ => rfl) s [v] rfl, fun base _ _ => ok_law T fd F⟩
end Tp
open PySem PySem.W PySem.Calls PyProof.Rows
set_option maxRecDepth 100000 in
set_option maxHeartbeats 0 in
theorem PySem.Challenge.cw_topiary_k04_symbols_refused_holds : PySem.Challenge.rw_topiary_k04_symbols_refused.Holds := by
  w_on; o_law
  refine HandSHeadRun.head_any (r := OpenLaw.row PySem.Challenge.rw_topiary_k04_symbols_refused) (q := view (OpenLaw.row PySem.Challenge.rw_topiary_k04_symbols_refused).prog [19]) (H := Tp.hk) (ob := Tp.obs) (M := 3000) (loose := Tp.names) (d := HandSHeadRun.topDef (OpenLaw.row PySem.Challenge.rw_topiary_k04_symbols_refused).prog 19) (kwd := []) Tp.obs_eq
    (by kernel_rfl) (fun s => by kernel_rfl) Tp.run (by kernel_rfl) (by kernel_rfl) (by kernel_rfl) (by rfl) (by first | assumption | decide +kernel) (by decide +kernel) ⟨rfl, rfl, rfl, rfl, rfl, by decide +kernel⟩ ?hw ?hc
  case hw => w_witness2
  case hc =>
    refine Tp.ends (l := PySem.Challenge.rw_topiary_k04_symbols_refused) (n := 63) (k := 12) (x := "_law_script") (CX := fun _ => L2.CX0) rfl (by decide) (by kernel_rfl) ⟨rfl, by decide, by decide⟩ ?F (fun _ _ _ _ _ z => z)
    intro w mg fa h Y G hmg0
    obtain ⟨K, KX, c⟩ := Y
    have hmg : mg ("law" : PySem.Str) = some (.ref fa) := by
      have e : (HandSHeadRun.topDef (OpenLaw.row PySem.Challenge.rw_topiary_k04_symbols_refused).prog 19).name = ("law" : PySem.Str) := by kernel_rfl
      rw [← e]
      exact hmg0
    obtain ⟨fd, hb, hF⟩ := Tp.facts (w := w) KX G hmg c
    exact ⟨K, fd, Tp.spLaw K, KX, hb, fun H a ns hl hz hO hS => Tp.law_start hl hz hO hS, hF⟩
