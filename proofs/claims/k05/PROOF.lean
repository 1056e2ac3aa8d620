import PyProof.Rows.All
import Wide.All
import OpenK.AllK
import Wide.FinOn
import KE.KStateDown
import HandS.ForMost
import HandS.Exc
import HandS.WordsExc
import HandS.ExcInit
import HandS.ExcField
import KE.KExcIs
import HandS.ExcIs
import HandS.Star
import HandS.DictComp
import HandS.Wide
import HandS.IsInst
import HandS.EndBits
import HandS.Evl
import HandS.Defaults
import HandS.Zip
import HandS.Steps
import HandS.Walk
import HandS.SortInts
import HandS.More
import HandS.SetKeys
import HandS.Head0
import HandS.Head1
import HandS.Head2
import HandS.HeadEnd
import HandS.HeadHook1
import HandS.HeadHook2
import PySem.Challenge.RW_topiary_k05_whole_ranks_and_places_agree
set_option Elab.async false
set_option linter.all false
set_option maxRecDepth 100000
set_option maxHeartbeats 4000000
/-! Words of my own over the hand layer: what the head tells (facts, defs, own exceptions), ends, heaps that change at few places. -/
namespace Tp
open PySem PySem.Spec PyProof.Rows L2

/-! ### own exceptions as the head tells them -/
def excShape (C : Addr) : Obj → Bool
  | ⟨.type t, _, .cls cd, sl⟩ => decide (t = "type") && (cd.hasDict && (!cd.hasDel && (match cd.mro, sl.toList with
    | .ref C' :: bm, [_, _, _, _, some (.builtin n), _] => decide (C' = C) && (decide (n = "ValueError.__new__") && PySem.HandSPX.refsVE bm)
    | _, _ => false)))
  | _ => false
theorem two {a b : Bool} (h : (a && b) = true) : a = true ∧ b = true := Bool.and_eq_true_iff.mp h
theorem excShape_ok {C : Addr} {o : Obj} (h : excShape C o = true) : ∃ nm q N bs bm sn sub ab col dd k0 k1 k2 k3 k5, o = excClassObj nm q C N bs bm true sn sub ab col dd k0 k1 k2 k3 k5 "ValueError.__new__" ∧ PySem.HandSPX.refsVE bm = true := by
  obtain ⟨oc, od, dt, sl⟩ := o
  cases oc with
  | type t =>
    cases dt with
    | cls cd =>
      obtain ⟨h1, h⟩ := two h
      obtain ⟨h2, h⟩ := two h
      obtain ⟨h3, h⟩ := two h
      obtain ⟨nm, bs, mro, ns, qn, hd, sn, sb, ab, col, del⟩ := cd
      obtain ⟨sl⟩ := sl
      have e1 : t = "type" := of_decide_eq_true h1
      subst e1
      cases del with
      | true => cases h3
      | false =>
        have e2 : hd = true := h2
        subst e2
        match mro, sl, h with
        | .ref C' :: bm, [k0, k1, k2, k3, some (.builtin n), k5], h =>
          obtain ⟨h4, h⟩ := two h
          obtain ⟨h5, h6⟩ := two h
          have e3 : C' = C := of_decide_eq_true h4
          have e4 : n = "ValueError.__new__" := of_decide_eq_true h5
          subst e3 e4
          exact ⟨nm, qn, ns, bs, bm, sn, sb, ab, col, od, k0, k1, k2, k3, k5, rfl, h6⟩
    | _ => cases h
  | _ => cases dt <;> cases h
/-- the class x of the module: an own exception -/
def excB (K : PySem.W.Frag) (x : Str) : Bool := (match K.lookup (He.ga K x) with
  | some o => excShape (He.ga K x) o
  | none => false) && (decide (PySem.W.findIn K (.ref (He.ga K x)) "__setattr__" = some (some (.builtin "object.__setattr__"))) && (decide (PySem.W.subIn K (.ref (He.ga K x)) (.type "BaseException") = some true) &&
  (decide (PySem.W.typeIn K (.ref (He.ga K x)) = some (.type "type")) && PySem.W.keepIn K (.ref (He.ga K x)))))
theorem excB_ok {K : PySem.W.Frag} {x : Str} (h : excB K x = true) : OexC K (He.ga K x) := by
  obtain ⟨h1, h⟩ := two h
  obtain ⟨h2, h⟩ := two h
  obtain ⟨h3, h⟩ := two h
  obtain ⟨h4, h5⟩ := two h
  refine ⟨?_, of_decide_eq_true h2, of_decide_eq_true h3, of_decide_eq_true h4, h5⟩
  cases q : K.lookup (He.ga K x) with
  | none =>
    rw [q] at h1
    cases h1
  | some o =>
    rw [q] at h1
    obtain ⟨nm, qn, N, bs, bm, sn, sub, ab, col, dd, k0, k1, k2, k3, k5, e, r⟩ := excShape_ok h1
    exact ⟨nm, qn, N, bs, bm, sn, sub, ab, col, dd, k0, k1, k2, k3, k5, by rw [e], r⟩
/-- its own __init__ -/
def iniB (K : PySem.W.Frag) (x : Str) : Bool := decide (PySem.W.findIn K (.ref (He.ga K x)) "__init__" = some (some (.ref (He.ma K (He.ga K x) "__init__")))) && decide (PySem.W.typeIn K (.ref (He.ma K (He.ga K x) "__init__")) = some (.type "function"))
theorem iniB_ok {K : PySem.W.Frag} {x : Str} (h : iniB K x = true) : PySem.W.findIn K (.ref (He.ga K x)) "__init__" = some (some (.ref (He.ma K (He.ga K x) "__init__"))) ∧ PySem.W.typeIn K (.ref (He.ma K (He.ga K x) "__init__")) = some (.type "function") := by
  obtain ⟨h1, h2⟩ := two h
  exact ⟨of_decide_eq_true h1, of_decide_eq_true h2⟩
/-- what isinstance of a caught own error asks of its class -/
def excCB (K : PySem.W.Frag) (D : Addr) : Bool := decide (PySem.W.findIn K (.ref D) "__getattribute__" = some (some (.builtin "BaseException.__getattribute__"))) && (decide (PySem.W.findIn K (.ref D) "__getattr__" = some none) && (decide (PySem.W.subIn K (.ref D) (.type "BaseException") = some true) && (PySem.W.hasDictIn K D &&
  (decide (PySem.W.findIn K (.ref D) "__class__" = some (some (.builtin "object.__class__"))) && (decide (PySem.W.specialIn K (.builtin "object.__class__") "__get__" = some (some (.builtin "getset_descriptor.__get__"))) && (decide (PySem.W.takesIn K (.builtin "object.__class__") = some true) && decide (PySem.W.mroIn K D (.type "object") = some true)))))))
theorem excCB_ok {K : PySem.W.Frag} {D : Addr} (h : excCB K D = true) : ExcC K D := by
  obtain ⟨h1, h⟩ := two h
  obtain ⟨h2, h⟩ := two h
  obtain ⟨h3, h⟩ := two h
  obtain ⟨h4, h⟩ := two h
  obtain ⟨h5, h⟩ := two h
  obtain ⟨h6, h⟩ := two h
  obtain ⟨h7, h8⟩ := two h
  exact ⟨of_decide_eq_true h1, of_decide_eq_true h2, of_decide_eq_true h3, h4, of_decide_eq_true h5, of_decide_eq_true h6, of_decide_eq_true h7, of_decide_eq_true h8⟩
/-- isinstance(e, t), e the caught error of the own class C with its dict -/
def rIsX (a : Addr) (cls : Value) (d : Option Addr) (C : Addr) (t : String) (b : Bool) : List V → Hp → VK → Prop := fun xs H Q => xs = [.ref a, .ty t] ∧ cls = .ref C ∧ (∃ (dd : Addr) (fs : List (Str × V)), d = some dd ∧ H dd = some (.xd fs)) ∧ Q (.bl b) H
theorem call_isX {X : Cx} {a C : Addr} {oe : Obj} {cls : Value} {d : Option Addr} {pn : List (Addr × Obj)} {t : String} {b : Bool} (T : ExcC X.K C) (e : PySem.W.kitOne X.K (.ref C) (.type t) = some b) (hz : Zc cls d oe) (hf : ∃ vs, oe.data = .fields vs) : CallR (X.suite a ((a, oe) :: pn)) (.builtin "isinstance") (rIsX a cls d C t b) := by
  intro pins s σ H xs us Q I r h
  obtain ⟨rfl, ec, ⟨dd, fs, ed, ea⟩, q⟩ := h
  subst ec
  subst ed
  cases r with
  | cons rx rr =>
    cases rr with
    | cons rt rr =>
      cases rr
      cases rx
      cases rt
      obtain ⟨ha, _⟩ := I.pin (a, oe) (List.mem_append_left _ List.mem_cons_self)
      obtain ⟨vs, hd⟩ := hf
      have hx : ObjOk X.prog X.w H s.heap dd (.xd fs) := I.hok dd _ ea
      obtain ⟨mA, hns, hr⟩ := hx
      obtain ⟨od, ho, hl⟩ := lookIn_ns hns
      have J : PySem.W.InstAt s.heap a oe C (some od) := ⟨ha, hz.1, by unfold PySem.W.notCls; rw [hd] <;> rfl, by rw [hz.2]; exact ho⟩
      have hcl : (PySem.W.clsIn X.K C).isSome = true := by
        obtain ⟨cd, hc, _⟩ := PySem.W.any_some T.hd
        rw [hc] <;> rfl
      exact PySem.W.kia_one (PySem.W.kitx_exc hcl T.hg T.hk T.hs T.ha T.hn T.ht T.hm) I.kIn J e (fun z => nomatch z) fun tk => ⟨.bl b, H, I.kept (t' := tk) fun _ _ z => z, rfl, q⟩
/-- a tuple of texts in the written part -/
def strV : Value → Option Str
  | .str z _ => some z
  | _ => none
def strsB (K : PySem.W.Frag) (a : Addr) (zs : List Str) : Bool := match K.lookup a with
  | some ⟨.type "tuple", _, .seq its _, _⟩ => decide (its.size ≤ 1000) && decide (its.toList.map strV = zs.map some)
  | _ => false
def refV : Value → Option Addr
  | .ref a => some a
  | _ => none
def tupsB (K : PySem.W.Frag) (a : Addr) (zs : List (List Str)) : Bool := match K.lookup a with
  | some ⟨.type "tuple", _, .seq its _, _⟩ => decide (its.size ≤ 1000) && decide (its.size = zs.length) && (its.toList.zip zs).all fun p => match refV p.1 with
    | some b => strsB K b p.2
    | none => false
  | _ => false
theorem vals_strs : ∀ {us : List Value} {zs : List Str}, us.map strV = zs.map some → Vals (zs.map V.str) us
  | [], [], _ => .nil
  | [], _ :: _, h => by cases h
  | _ :: _, [], h => by cases h
  | u :: us, z :: zs, h => by
    rw [List.map_cons, List.map_cons] at h
    obtain ⟨h1, h2⟩ := List.cons.inj h
    refine .cons ?_ (vals_strs h2)
    cases u with
    | str y t =>
      cases h1
      exact ⟨t, rfl⟩
    | _ => cases h1
theorem strsB_ok {K : PySem.W.Frag} {a : Addr} {zs : List Str} (h : strsB K a zs = true) (H : Hp) : SqT K H a (zs.map V.str) := by
  unfold strsB at h
  split at h
  · rename_i its n sl e
    have h' := Bool.and_eq_true_iff.mp h
    exact .inr ⟨_, its, n, e, rfl, rfl, Nat.le_trans (of_decide_eq_true h'.1) (by decide), vals_strs (of_decide_eq_true h'.2)⟩
  · cases h
theorem tups_refs {K : PySem.W.Frag} : ∀ {us : List Value} {zs : List (List Str)}, us.length = zs.length → ((us.zip zs).all fun p => match refV p.1 with
    | some b => strsB K b p.2
    | none => false) = true → ∃ as : List Addr, Vals (as.map V.ref) us ∧ as.length = zs.length ∧ ∀ (i : Nat) (a : Addr) (z : List Str), as[i]? = some a → zs[i]? = some z → strsB K a z = true
  | [], [], _, _ => ⟨[], .nil, rfl, fun i a z h => by cases h⟩
  | [], _ :: _, h, _ => by cases h
  | _ :: _, [], h, _ => by cases h
  | u :: us, z :: zs, hl, h => by
    rw [List.zip_cons_cons, List.all_cons] at h
    obtain ⟨h1, h2⟩ := Bool.and_eq_true_iff.mp h
    obtain ⟨as, g1, g2, g3⟩ := tups_refs (Nat.succ.inj hl) h2
    cases u with
    | ref a =>
      refine ⟨a :: as, .cons rfl g1, by rw [List.length_cons, List.length_cons, g2], fun i b y e1 e2 => ?_⟩
      cases i with
      | zero =>
        cases e1
        cases e2
        exact h1
      | succ i => exact g3 i b y e1 e2
    | _ => cases h1
/-- a tuple of tuples of texts -/
def TupsC (K : PySem.W.Frag) (a : Addr) (zs : List (List Str)) : Prop := ∃ as : List Addr, as.length = zs.length ∧ (∀ H, SqT K H a (as.map V.ref)) ∧ ∀ (i : Nat) (b : Addr) (z : List Str), as[i]? = some b → zs[i]? = some z → ∀ H, SqT K H b (z.map V.str)
theorem tupsB_ok {K : PySem.W.Frag} {a : Addr} {zs : List (List Str)} (h : tupsB K a zs = true) : TupsC K a zs := by
  unfold tupsB at h
  split at h
  · rename_i its n sl e
    obtain ⟨h', h3⟩ := Bool.and_eq_true_iff.mp h
    obtain ⟨h1, h2⟩ := Bool.and_eq_true_iff.mp h'
    obtain ⟨as, g1, g2, g3⟩ := tups_refs (us := its.toList) (by rw [Array.length_toList]; exact of_decide_eq_true h2) h3
    exact ⟨as, g2, fun H => .inr ⟨_, its, n, e, rfl, rfl, Nat.le_trans (of_decide_eq_true h1) (by decide), g1⟩, fun i b z e1 e2 H => strsB_ok (g3 i b z e1 e2) H⟩
  · cases h
/-- one more fact of the head: an exception's class; one whose fields are read; a sub-question of two classes -/
inductive Fx where
  | tups (x : Str) (zs : List (List Str))
  | exc (x : Str)
  | ini (x : Str)
  | xf (x : Str)
  | sub (x y : Str) (b : Bool)
  | isC (x : Str)
  | isx (x : Str) (t : String) (b : Bool)
def Fx.ok (K : PySem.W.Frag) : Fx → Bool
  | .tups x zs => tupsB K (He.ga K x) zs
  | .exc x => excB K x
  | .ini x => iniB K x
  | .xf x => xfB K (He.ga K x)
  | .sub x y b => decide (PySem.W.exmOne K (.ref (He.ga K x)) (.ref (He.ga K y)) = some b)
  | .isC x => PySem.W.isClsIn K (He.ga K x)
  | .isx x t b => excCB K (He.ga K x) && decide (PySem.W.kitOne K (.ref (He.ga K x)) (.type t) = some b)

/-! ### the head's Hook -/
abbrev Seen : Type := He.AlD × Bool
def seen (fa : List He.Fa) (fn : List He.DefD) (fx : List Fx) (K : PySem.W.Frag) : Seen := (He.obsD fa fn K, fx.all fun f => f.ok K)
def told (fn : List He.DefD) : Seen := (He.valD fn, true)
def lookAt (n : Nat) (fa : List He.Fa) (fn : List He.DefD) (fx : List Fx) (g : Addr → Option Obj) : Seen := seen fa fn fx (He.frG g (He.asD g n))
def hook (n : Nat) (fa : List He.Fa) (fn : List He.DefD) (fx : List Fx) : PySem.W.Hook where
  α := Seen
  obs := fun s => lookAt n fa fn fx s.heap.get?
  val := fun _ => told fn
  says := fun _ h => ∃ K : PySem.W.Frag, K.In h ∧ seen fa fn fx K = told fn
  of := fun _ _ e => ⟨_, He.frG_in, e⟩
  keeps := fun _ _ _ ⟨K, hK, c⟩ k => ⟨K, PySem.W.Frag.In.keeps hK k, c⟩
theorem look_eq {n : Nat} {fa : List He.Fa} {fn : List He.DefD} {fx : List Fx} {g : Addr → Option Obj} {s : Shared} (h : ∀ a, g a = s.heap.get? a) : lookAt n fa fn fx g = (hook n fa fn fx).obs s := by
  have e : g = s.heap.get? := funext h
  subst e
  rfl
/-- what the walk leans on, by places in the lists -/
structure Txt (fa : List He.Fa) (fn : List He.DefD) (fx : List Fx) (K : PySem.W.Frag) (mg : Str → Option Value) : Prop where
  f : ∀ (i : Nat) (f : He.Fa), fa[i]? = some f → f.ok K = true
  d : ∀ (i : Nat) (d : He.DefD), fn[i]? = some d → ∃ fd, FunD K d.name d.qual d.params d.body d.scope (d.dvs K) (d.kws K) (He.fAd K d.at_) fd
  x : ∀ (i : Nat) (f : Fx), fx[i]? = some f → f.ok K = true
  gl : ∀ (i : Nat) (x : Str), fa[i]? = some (.glo x) → mg x = some (.ref (He.ga K x))
  no : ∀ (i : Nat) (x : Str), fa[i]? = some (.free x) → mg x = none
  int : ∀ (i : Nat) (x : Str) (n : Int), fa[i]? = some (.int x n) → ∃ t, mg x = some (.int n t)
  str : ∀ (i : Nat) (x z : Str), fa[i]? = some (.str x z) → ∃ t, mg x = some (.str z t)
theorem txt_of {fa : List He.Fa} {fn : List He.DefD} {fx : List Fx} {K : PySem.W.Frag} {mg : Str → Option Value} {h : Heap} (X : K.In h) (G : h.Ns mainGlobals mg) (c : seen fa fn fx K = told fn) : Txt fa fn fx K mg := by
  have c1 : He.SaysD fa fn K := congrArg (fun z : Seen => z.1) c
  have c2 : (fx.all fun f => f.ok K) = true := congrArg (fun z : Seen => z.2) c
  exact ⟨fun i f e => c1.fact i e, fun i d e => c1.def_ i e, fun i f e => List.all_eq_true.mp c2 f (List.mem_of_getElem? e), fun i x e => He.glo_ok X G (c1.fact i e), fun i x e => He.free_ok X G (c1.fact i e),
    fun i x n e => He.int_ok X G (c1.fact i e), fun i x z e => He.str_ok X G (c1.fact i e)⟩

/-! ### defs -/
/-- a def that lets nothing out -/
theorem def0 {P : Program} {w : World} {K : PySem.W.Frag} {mg : Str → Option Value} {base : Heap} {x qual : Str} {params : Arguments} {body : List Stmt} {scope : Scope} {dvs : List V} {kws : List (Str × V)} {f : Addr} {fd : FuncData} {N ps : List Str} {k : Nat} {sp : Sp}
    (F : FunD K x qual params body scope dvs kws f fd) (S : FnScope N ps scope) (len : ∀ vs H Q E, sp vs H Q E → vs.length = ps.length)
    (hb : ∀ (cdv : Value) (A : Around) (outer : List Env) (s : Shared) (H : Hp) (vs : List V) (Q : VK) (E : XK), Room k (A.deeper (envOfC qual scope s.heap.objs.size f cdv)) → sp vs H Q E →
      ∃ t, PSs (cxOf CX0 P w K mg base N qual scope f cdv A outer s H E).nox body t ∧ t { nx := fun _ H' => Q .non H', rt := Q } (start N vs) H) : FnOk P w K mg base CX0 (k + 1) f fd ps sp :=
  F.ok S len fun cdv A outer s H vs Q E hr h => by
    obtain ⟨t, ht, q⟩ := hb cdv A outer s H vs Q E hr h
    exact ⟨t, PSs.nox ht, q⟩
/-- a def that may let out errors -/
theorem defX {P : Program} {w : World} {K : PySem.W.Frag} {mg : Str → Option Value} {base : Heap} {x qual : Str} {params : Arguments} {body : List Stmt} {scope : Scope} {dvs : List V} {kws : List (Str × V)} {f : Addr} {fd : FuncData} {N ps : List Str} {k : Nat} {sp : Sp}
    (F : FunD K x qual params body scope dvs kws f fd) (S : FnScope N ps scope) (len : ∀ vs H Q E, sp vs H Q E → vs.length = ps.length)
    (hb : ∀ (cdv : Value) (A : Around) (outer : List Env) (s : Shared) (H : Hp) (vs : List V) (Q : VK) (E : XK), Room k (A.deeper (envOfC qual scope s.heap.objs.size f cdv)) → sp vs H Q E →
      ∃ t, PSs (cxOf (L2.CX P w) P w K mg base N qual scope f cdv A outer s H E) body t ∧ t { nx := fun _ H' => Q .non H', rt := Q } (start N vs) H) : FnOk P w K mg base (L2.CX P w) (k + 1) f fd ps sp :=
  F.ok S len hb
/-- a def as callers want it: dvs the defaults that fill up -/
def Can (P : Program) (w : World) (K : PySem.W.Frag) (mg : Str → Option Value) (base : Heap) (CX : CXT) (k : Nat) (f : Addr) (ps : List Str) (dvs : List V) (sp : Sp) : Prop := ∃ fd, FnOk P w K mg base CX k f fd ps sp ∧ ∃ ds, Vals dvs ds ∧ Binds K fd ps ds

/-! ### the law's end -/
theorem ends {l : PySem.W.OpenLaw} {n k : Nat} {q : Program} {loose : List Str} {XP : (Str → Option Value) → Heap → Prop} {YP : World → Heap → Prop} {d : DefRec} {CX : World → CXT} {x : Str}
    (hn : l.most = some n) (hn2 : n ≤ sizeLine) (hdf : d.params.defaults = []) (hr : Room k callerA)
    (F : ∀ (w : World) (mg : Str → Option Value) (fa : Addr) (h : Heap), YP w h → h.Ns mainGlobals mg → mg d.name = some (.ref fa) →
      ∃ (K : PySem.W.Frag) (fd : FuncData) (sp : Sp), K.In h ∧ (∀ (s : Shared) (u : Value), BindsTo s fd ⟨[u], []⟩ [(x, u)]) ∧
        (∀ (H : Hp) (a : Addr) (ns : List Int), ns.length ≤ n → (∀ z ∈ ns, Builtin.Int.intBits z ≤ 1048576) → Only H → SqL K H a (ns.map V.int) → sp [.ref a] H (fun v _ => v = .bl true) fun _ _ _ => False) ∧
        ∀ base : Heap, K.In base → base.Ns mainGlobals mg → FnOk l.prog w K mg base (CX w) k fa fd [x] sp)
    (hCX : ∀ (w : World) (H : Hp) (s : Shared) (e : Value) (s' : Shared), CX w [] H s (fun _ _ _ => False) e s' → False) :
    PySem.W.WalkO q loose XP YP l.row.toRowW d [] (fun f vs => PySem.call f vs) := by
  refine Att.attach_callB hn hdf fun w s₀ s₁ mg mb fa o pm cd doc a vs ns G Y ho hd hcd hmg hobj hints hlen hbits hg => ?_
  obtain ⟨K, fd, sp, KX, hb, hsp, hF⟩ := F w mg fa _ Y G.T.g hmg
  exact law_call KX G.T.g G.T.b G.T.builtins G.T.nolimit hg hobj hints (Nat.le_trans hlen hn2) hr hF hb (fun H hO hS => hsp H a ns hlen hbits hO hS) fun H e s' => hCX w H s₁ e s'
theorem no_leak {P : Program} {w : World} {H : Hp} {s : Shared} {e : Value} {s' : Shared} (h : L2.CX P w [] H s (fun _ _ _ => False) e s') : False := by
  obtain ⟨_, _, _, _, _, _, _, _, _, _, _, _, z⟩ := h
  exact z.elim

/-! ### heaps: all but some places stay -/
/-- what H tracks but at the places of S stays -/
def Kp (S : List Addr) (H H' : Hp) : Prop := ∀ a o, a ∉ S → H a = some o → H' a = some o
theorem Kp.refl {S : List Addr} {H : Hp} : Kp S H H := fun _ _ _ e => e
theorem Kp.trans {S : List Addr} {H H1 H2 : Hp} (a : Kp S H H1) (b : Kp S H1 H2) : Kp S H H2 := fun x o n e => b x o n (a x o n e)
theorem Kp.new {S : List Addr} {H : Hp} {p : Addr} {o : HO} (h : H p = none) : Kp S H (upd H p o) := fun a u _ e => by
  rw [upd_ne (ne_of_none e h)]
  exact e
theorem Kp.put {S : List Addr} {H : Hp} {p : Addr} {o : HO} (h : p ∈ S) : Kp S H (upd H p o) := fun a u n e => by
  rw [upd_ne (fun z => n (by rw [z]; exact h))]
  exact e
/-- an object that H does not know may change -/
theorem Kp.mut {S : List Addr} {H H' : Hp} {p : Addr} {o : HO} (e : Kp S H H') (h : H p = none) : Kp S H (upd H' p o) := fun a u n ha => by
  rw [upd_ne (ne_of_none ha h)]
  exact e a u n ha
theorem Kp.mono {S S' : List Addr} {H H' : Hp} (e : Kp S H H') (h : ∀ a ∈ S, a ∈ S') : Kp S' H H' := fun a o n ha => e a o (fun z => n (h a z)) ha
theorem Kp.ex {H H' : Hp} (e : Kp [] H H') : Evl.Ex H H' := fun a o h => e a o (by simp) h
theorem Kp.of {S : List Addr} {H H' : Hp} (e : Evl.Ex H H') : Kp S H H' := fun a o _ h => e a o h
theorem Kp.of' {S : List Addr} {H H' : Hp} (e : Same H H') : Kp S H H' := fun a o _ h => e a o h
theorem Kp.fresh {H H' : Hp} {p : Addr} (e : Kp [] H H') (h : H' p = none) : H p = none := Evl.fresh_back e.ex h
/-- fresh behind, fresh ahead, where the places of S are known -/
theorem Kp.back {S : List Addr} {H H' : Hp} {p : Addr} (e : Kp S H H') (hs : ∀ a ∈ S, H' a ≠ none) (h : H' p = none) : H p = none := by
  cases q : H p with
  | none => rfl
  | some o =>
    by_cases hp : p ∈ S
    · exact absurd h (hs p hp)
    · rw [e p o hp q] at h
      cases h
theorem Kp.up {H : Hp} {p : Addr} {o : HO} : Kp [p] H (upd H p o) := fun a u n e => by
  rw [upd_ne (fun z => n (by rw [z]; exact List.mem_singleton.mpr rfl))]
  exact e
theorem Kp.at {S : List Addr} {H H' : Hp} {a : Addr} {o : HO} (e : Kp S H H') (ha : H a = some o) (n : a ∉ S := by simp) : H' a = some o := e a o n ha

theorem Kp.sqL {K : PySem.W.Frag} {H H' : Hp} {p l C dx : Addr} {fs : List (Str × V)} {xs : List V} (e : Kp [p] H H') (hp : H p = some (.ins C dx fs)) (h : SqL K H l xs) : SqL K H' l xs := by
  rcases h with (h | ⟨o, h⟩) | h
  · exact .inl (.inl (e.at h fun z => by rw [List.mem_singleton.mp z, hp] at h; cases h))
  · exact .inl (.inr ⟨o, e.at h fun z => by rw [List.mem_singleton.mp z, hp] at h; cases h⟩)
  · exact .inr h

/-! ### own exceptions made -/
theorem exo_end {H : Hp} {a d : Addr} {o1 o2 o3 u : HO} (hn : H a = none) (hd : d ≠ a) : upd (L2.del (upd (upd (upd H a o1) d o2) a o3) a) d u = upd H d u := by
  funext b
  by_cases h1 : b = d
  · subst h1
    rw [upd_same, upd_same]
  · rw [upd_ne h1, upd_ne h1]
    by_cases h2 : b = a
    · subst h2
      rw [del_same, hn]
    · rw [del_ne h2, upd_ne h2, upd_ne h1, upd_ne h2]
theorem exo_end2 {H : Hp} {a d : Addr} {o1 o2 o3 o4 u : HO} (hn : H a = none) (hd : d ≠ a) : upd (L2.del (upd (upd (upd (upd H a o1) d o2) a o3) d o4) a) d u = upd H d u := by
  funext b
  by_cases h1 : b = d
  · subst h1
    rw [upd_same, upd_same]
  · rw [upd_ne h1, upd_ne h1]
    by_cases h2 : b = a
    · subst h2
      rw [del_same, hn]
    · rw [del_ne h2, upd_ne h1, upd_ne h2, upd_ne h1, upd_ne h2]
/-- the __init__ of an own exception with one field -/
def spX1 (K : PySem.W.Frag) (C : Addr) (f : Str) : Sp := fun vs H Q _ => ∃ (a : Addr) (y : V), vs = [.ref a, y] ∧ OexC K C ∧ PySem.W.findIn K (.ref C) f = some none ∧ H a = some (exo a C none) ∧
  ∀ dx, H dx = none → dx ≠ a → Q .non (upd (upd H dx (exd dx [(f, y)])) a (exo a C (some dx)))
/-- .. with two fields -/
def spX2 (K : PySem.W.Frag) (C : Addr) (f g : Str) : Sp := fun vs H Q _ => ∃ (a : Addr) (y z : V), vs = [.ref a, y, z] ∧ OexC K C ∧ PySem.W.findIn K (.ref C) f = some none ∧ PySem.W.findIn K (.ref C) g = some none ∧ H a = some (exo a C none) ∧
  ∀ dx, H dx = none → dx ≠ a → Q .non (upd (upd (upd H dx (exd dx [(f, y)])) a (exo a C (some dx))) dx (exd dx [(g, z), (f, y)]))
/-- C(e) is made, to be raised -/
theorem made1 {K : PySem.W.Frag} {C : Addr} {f : Str} {y : V} {H : Hp} {Q : XK} (T : OexC K C) (hno : PySem.W.findIn K (.ref C) f = some none) (h : ∀ d, H d = none → Q (.ref C) (some d) (upd H d (.xd [(f, y)]))) :
    [y].length ≤ 1000 ∧ ∀ a, H a = none → spX1 K C f (.ref a :: ([y] ++ [])) (upd H a (exo a C none)) (fun v H2 => v = .non ∧ ∃ (d : Addr) (fs : List (Str × V)), H2 a = some (exo a C (some d)) ∧ H2 d = some (exd d fs) ∧ H d = none ∧ Q (.ref C) (some d) (upd (L2.del H2 a) d (.xd fs))) (fun _ _ _ => False) := by
  refine ⟨by show 1 ≤ 1000; decide, fun a hn => ⟨a, y, rfl, T, hno, upd_same, fun dx hd ne => ⟨rfl, dx, _, upd_same, by rw [upd_ne ne, upd_same], ?_, ?_⟩⟩⟩
  · rw [upd_ne ne] at hd
    exact hd
  · rw [exo_end hn ne]
    rw [upd_ne ne] at hd
    exact h dx hd
theorem made2 {K : PySem.W.Frag} {C : Addr} {f g : Str} {y z : V} {H : Hp} {Q : XK} (T : OexC K C) (hf : PySem.W.findIn K (.ref C) f = some none) (hg : PySem.W.findIn K (.ref C) g = some none) (h : ∀ d, H d = none → Q (.ref C) (some d) (upd H d (.xd [(g, z), (f, y)]))) :
    [y, z].length ≤ 1000 ∧ ∀ a, H a = none → spX2 K C f g (.ref a :: ([y, z] ++ [])) (upd H a (exo a C none)) (fun v H2 => v = .non ∧ ∃ (d : Addr) (fs : List (Str × V)), H2 a = some (exo a C (some d)) ∧ H2 d = some (exd d fs) ∧ H d = none ∧ Q (.ref C) (some d) (upd (L2.del H2 a) d (.xd fs))) (fun _ _ _ => False) := by
  refine ⟨by show 2 ≤ 1000; decide, fun a hn => ⟨a, y, z, rfl, T, hf, hg, upd_same, fun dx hd ne => ⟨rfl, dx, _, by rw [upd_ne (Ne.symm ne), upd_same], upd_same, ?_, ?_⟩⟩⟩
  · rw [upd_ne ne] at hd
    exact hd
  · rw [exo_end2 hn ne]
    rw [upd_ne ne] at hd
    exact h dx hd

/-! ### fields -/
theorem putF_app : ∀ {fs : List (Str × V)} {f : Str} {v : V} {ks : List Str}, fs.map (·.1) = ks → ks.all (fun k => !decide (k = f)) = true → putF f v fs = fs ++ [(f, v)]
  | [], f, v, ks, _, _ => rfl
  | (g, x) :: r, f, v, ks, e, h => by
    subst e
    rw [List.map_cons, List.all_cons] at h
    obtain ⟨h1, h2⟩ := Bool.and_eq_true_iff.mp h
    have ne : ¬ g = f := fun z => by
      have h3 : (!decide (g = f)) = true := h1
      rw [decide_eq_true z] at h3
      cases h3
    show (if g = f then (g, v) :: r else (g, x) :: putF f v r) = (g, x) :: (r ++ [(f, v)])
    rw [if_neg ne, putF_app rfl h2]
theorem fld_at : ∀ {fs : List (Str × V)} {f : Str} {v : V} {ks : List Str} (i : Nat), fs.map (·.1) = ks → fs[i]? = some (f, v) → (ks.take i).all (fun k => !decide (k = f)) = true → fs.lookup f = some v
  | [], f, v, ks, i, _, e, _ => by cases i <;> cases e
  | (g, x) :: r, f, v, ks, 0, _, e, _ => by
    have e1 : (g, x) = (f, v) := Option.some.inj e
    cases e1
    show (match g == g with | true => some x | false => r.lookup g) = some x
    rw [beq_self_eq_true]
  | (g, x) :: r, f, v, ks, i + 1, hk, e, h => by
    subst hk
    rw [List.map_cons, List.take_succ_cons, List.all_cons] at h
    obtain ⟨h1, h2⟩ := Bool.and_eq_true_iff.mp h
    have ne : ¬ f = g := fun z => by
      have h3 : (!decide (g = f)) = true := h1
      rw [decide_eq_true z.symm] at h3
      cases h3
    show (match f == g with | true => some x | false => r.lookup f) = some v
    rw [beq_eq_false_iff_ne.mpr ne]
    exact fld_at i rfl e h2
theorem fld_no : ∀ {fs : List (Str × V)} {f : Str} {ks : List Str}, fs.map (·.1) = ks → ks.all (fun k => !decide (k = f)) = true → fs.lookup f = none
  | [], f, ks, _, _ => rfl
  | (g, x) :: r, f, ks, e, h => by
    subst e
    rw [List.map_cons, List.all_cons] at h
    obtain ⟨h1, h2⟩ := Bool.and_eq_true_iff.mp h
    have ne : ¬ f = g := fun z => by
      have h3 : (!decide (g = f)) = true := h1
      rw [decide_eq_true z.symm] at h3
      cases h3
    show (match f == g with | true => some x | false => r.lookup f) = none
    rw [beq_eq_false_iff_ne.mpr ne]
    exact fld_no rfl h2

/-! ### the rules by the written part's own name -/
def rLn (K : PySem.W.Frag) : List V → Hp → VK → Prop := fun xs H Q => ∃ p ys, xs = [.ref p] ∧ (SqL K H p ys ∨ SqT K H p ys) ∧ Q (.int ys.length) H
def rLs (K : PySem.W.Frag) : List V → Hp → VK → Prop := fun xs H Q => ∃ p ys, xs = [.ref p] ∧ (SqL K H p ys ∨ SqT K H p ys) ∧ ∀ l, H l = none → Q (.ref l) (upd H l (.lst ys))
def tTr (K : PySem.W.Frag) (ta : TE) : TT := fun σ H Q => ta σ H fun x H' => ∃ k, TruV K x H' k ∧ Q k H'
section
variable {X : Cx} (K : PySem.W.Frag)
theorem ixL (h : X.K = K) : IxR X (rIxL K) := h ▸ ix_list
theorem ixT (h : X.K = K) : IxR X (rIxT K) := h ▸ ix_tup
theorem ixS (h : X.K = K) : IxR X (rIx K) := h ▸ ix_seq
theorem slL (h : X.K = K) : SlR X (rSlL K) := h ▸ sl_list
theorem slT (h : X.K = K) : SlR X (rSlT K) := h ▸ sl_tup
theorem cLen (h : X.K = K) : CallR X (.builtin "len") (rLn K) := h ▸ call_len_seq
theorem cList (h : X.K = K) : CallR X (.type "list") (rLs K) := h ▸ call_list_of
theorem cSum (h : X.K = K) (hc : X.calm = true) : CallR X (.builtin "sum") (rSum K) := h ▸ cr_sum hc
theorem cMax (h : X.K = K) (hc : X.calm = true) : CallR X (.builtin "max") (rMax K) := h ▸ cr_max hc
theorem cMin (h : X.K = K) (hc : X.calm = true) : CallR X (.builtin "min") (rMin K) := h ▸ cr_min hc
theorem cAny (h : X.K = K) (hc : X.calm = true) : CallR X (.builtin "any") (rAny K) := h ▸ cr_any hc
theorem cAll (h : X.K = K) (hc : X.calm = true) : CallR X (.builtin "all") (rAll K) := h ▸ cr_all hc
theorem cIsi (h : X.K = K) : CallR X (.builtin "isinstance") (rIsi K) := h ▸ call_isi
theorem cSorted (h : X.K = K) : CallR X (.builtin "sorted") (rSortedI K) := h ▸ cr_sortedI
theorem oIn (h : X.K = K) : OpR X (compareOp .In) (rIn K false) := h ▸ op_in_seq
theorem oNotIn (h : X.K = K) : OpR X (compareOp .NotIn) (rIn K true) := h ▸ op_notIn_seq
theorem oEqD (h : X.K = K) (hu : X.A.units + 64 < cLine) : OpR X (compareOp .Eq) (rEqD K) := h ▸ op_eqD hu
theorem oNeD (h : X.K = K) (hu : X.A.units + 64 < cLine) : OpR X (compareOp .NotEq) (rNeD K) := h ▸ op_neD hu
theorem eFld (h : X.K = K) {e : Expr} {f : Str} {pos : Pos} {ta : TE} (he : PE X e ta) (hb : attributeBase e f X.env (eval e X.env) = eval e X.env := by rfl) : PE X (.Attribute e f pos) (tFld K ta f) := h ▸ pe_fld he hb
theorem tTruth (h : X.K = K) {a : Expr} {ta : TE} (ha : PE X a ta) (he : ∀ whole, isTrue a X.env whole = (do let v ← whole; standAt a.pos; holding [v] (truthy v)) := by intro _; rfl) : PT X a (tTr K ta) := h ▸ pt_truth ha he
theorem iLst (h : X.K = K) {tg l : Expr} {tl : TE} (hl : PE X l tl) : PI X tg l (iList K tl) := h ▸ pi_list hl
theorem iTpl (h : X.K = K) {tg l : Expr} {tl : TE} (hl : PE X l tl) : PI X tg l (iTup K tl) := h ▸ pi_tup hl
theorem iEnu (h : X.K = K) {e : Expr} {ta : TA} {p pos tpos : Pos} {elts : List Expr} {kk : Nat} (hg : Gl X "enumerate") (hm : X.mg "enumerate" = none) (ha : PA X [e] ta) (hs : starEach [e] X.env = [(false, eval e X.env)] := by rfl) :
    PI X (.Tuple elts kk tpos) (.Call (.Name "enumerate" p) [e] [] pos) (iEnum K ta) := h ▸ pi_enum hg hm ha hs
theorem iRvs (h : X.K = K) {tg e : Expr} {ta : TA} {p pos : Pos} (hg : Gl X "reversed") (hm : X.mg "reversed" = none) (ha : PA X [e] ta) (hs : starEach [e] X.env = [(false, eval e X.env)] := by rfl) :
    PI X tg (.Call (.Name "reversed" p) [e] [] pos) (iRev K ta) := h ▸ pi_reversed hg hm ha hs
theorem iZp (h : X.K = K) {e e2 : Expr} {ta : TA} {p pos tpos : Pos} {elts : List Expr} {kk : Nat} (hg : Gl X "zip") (hm : X.mg "zip" = none) (ha : PA X [e, e2] ta)
    (hs : starEach [e, e2] X.env = (false, eval e X.env) :: starEach [e2] X.env := by rfl) (hpl : (backTo pos (starEach [e2] X.env)).any (·.1) = false := by rfl) : PI X (.Tuple elts kk tpos) (.Call (.Name "zip" p) [e, e2] [] pos) (iZip K ta) := h ▸ pi_zip hg hm ha hs hpl
theorem sFd (h : X.K = K) {o value : Expr} {f : Str} {pos pos' : Pos} {ta tv : TE} (ha : PE X o ta) (hv : PE X value tv) (hs : swapsWith value (some (.Attribute o f pos')) pos.line X.env = pure false) : PS X (.Assign [.Attribute o f pos'] value pos) (sFld K ta tv f) := h ▸ ps_fld ha hv hs
theorem sFdAug (h : X.K = K) {o value : Expr} {f : Str} {pos tpos : Pos} {ta tv : TE} {op : Operator} {rd : V → V → Hp → VK → Prop} (hop : InOp X op rd) (ha : PE X o ta) (hv : PE X value tv) : PS X (.AugAssign (.Attribute o f tpos) op value pos) (sFldAug K ta tv rd f) := h ▸ ps_fldaug ha hv hop
theorem eBm (h : X.K = K) {T id : String} {name : Str} {o e : Expr} {es : List Expr} {to : TE} {t : TA} {r : V → List V → Hp → VK → Prop} {apos cpos : Pos} (pa : PlainAttrs T) (slot : Slot T name id) (hty : typeOf (.builtin id) = pure (.type "method_descriptor")) (hm : MtR X id r) (ho : PE X o to) (ha : PA X (e :: es) t)
    (hbase : attributeBase o name X.env (eval o X.env) = eval o X.env := by rfl)
    (hfew : ((backTo cpos (starEach (e :: es) X.env)).all (fun x => !x.1) && (backToKw cpos (keywordEach [] X.env)).all (fun x => x.1.isSome) && decide ((e :: es).length + ([] : List Keyword).length + (if ([] : List Keyword).isEmpty then 0 else 1) < 30)) = true := by rfl)
    (hline : (apos.endLine == cpos.line) = true := by rfl) (hs : starEach (e :: es) X.env = (false, eval e X.env) :: starEach es X.env := by rfl) (hplain : (backTo cpos (starEach es X.env)).any (·.1) = false := by rfl) :
    PE X (.Call (.Attribute o name apos) (e :: es) [] cpos) (tBM K T r to t) := h ▸ pe_bm pa slot hty hm ho ha hbase hfew hline hs hplain
theorem eBm0 (h : X.K = K) {T id : String} {name : Str} {o : Expr} {to : TE} {r : V → List V → Hp → VK → Prop} {apos cpos : Pos} (pa : PlainAttrs T) (slot : Slot T name id) (hty : typeOf (.builtin id) = pure (.type "method_descriptor")) (hm : MtR X id r) (ho : PE X o to)
    (hbase : attributeBase o name X.env (eval o X.env) = eval o X.env := by rfl) (hline : (apos.endLine == cpos.line) = true := by rfl) : PE X (.Call (.Attribute o name apos) [] [] cpos) (tBM0 K T r to) := h ▸ pe_bm0 pa slot hty hm ho hbase hline
end

/-! ### readings that leave the heap as it is -/
def ValA (ta : TA) (σ : L2.St) (H : Hp) (vs : List V) : Prop := ∀ Q : List V → Hp → Prop, Q vs H → ta σ H Q
section
variable {K : PySem.W.Frag} {σ : L2.St} {H : Hp} {ta tb te : TE} {x y v : V} {p : Addr} {xs : List V}
theorem va_nil : ValA tNil σ H [] := fun _ q => q
theorem va_cons {tr : TA} {vs : List V} (h : Val ta σ H x) (hr : ValA tr σ H vs) : ValA (tCons ta tr) σ H (x :: vs) := fun _ q => h _ (hr _ q)
theorem va_one (h : Val ta σ H x) : ValA (tCons ta tNil) σ H [x] := va_cons h va_nil
theorem va_two (h : Val ta σ H x) (h' : Val tb σ H y) : ValA (tCons ta (tCons tb tNil)) σ H [x, y] := va_cons h (va_one h')
theorem val_cb {r : List V → Hp → VK → Prop} {tl : TA} {vs : List V} (h : ValA tl σ H vs) (hr : ∀ Q : VK, Q v H → r vs H Q) : Val (tCB r tl) σ H v := fun Q q => h _ (hr Q q)
theorem val_isi {t n : String} {b : Bool} (h : Val ta σ H x) (ty : TyX K H x (.type t)) (e : kitB t n = some b) : Val (tCB (rIsi K) (tCons ta (tCons (tC (.ty n)) tNil))) σ H (.bl b) :=
  val_cb (va_two h val_c) fun _ q => ⟨x, .ty n, .type t, .type n, b, rfl, .ty n, ty, kit_ty e, q⟩
theorem val_lenL (h : Val ta σ H (.ref p)) (hs : SqL K H p xs) : Val (tCB (rLn K) (tCons ta tNil)) σ H (.int (xs.length : Int)) :=
  val_cb (va_one h) fun _ q => ⟨p, xs, rfl, .inl hs, q⟩
theorem val_lenT (h : Val ta σ H (.ref p)) (hs : SqT K H p xs) : Val (tCB (rLn K) (tCons ta tNil)) σ H (.int (xs.length : Int)) :=
  val_cb (va_one h) fun _ q => ⟨p, xs, rfl, .inr hs, q⟩
theorem val_ixL {i : Int} (h : Val ta σ H (.ref p)) (hi : Val tb σ H (.int i)) (hs : SqL K H p xs) (e : atI xs i = some v) : Val (tOp (rIxL K) ta tb) σ H v := val_op h hi fun _ q => ⟨p, xs, i, v, rfl, rfl, hs, e, q⟩
theorem val_ixT {i : Int} (h : Val ta σ H (.ref p)) (hi : Val tb σ H (.int i)) (hs : SqT K H p xs) (e : atI xs i = some v) : Val (tOp (rIxT K) ta tb) σ H v := val_op h hi fun _ q => ⟨p, xs, i, v, rfl, rfl, hs, e, q⟩
theorem val_ixSL {i : Int} (h : Val ta σ H (.ref p)) (hi : Val tb σ H (.int i)) (hs : SqL K H p xs) (e : atI xs i = some v) : Val (tOp (rIx K) ta tb) σ H v := val_op h hi fun _ q => .inl ⟨p, xs, i, v, rfl, rfl, hs, e, q⟩
theorem val_ixST {i : Int} (h : Val ta σ H (.ref p)) (hi : Val tb σ H (.int i)) (hs : SqT K H p xs) (e : atI xs i = some v) : Val (tOp (rIx K) ta tb) σ H v := val_op h hi fun _ q => .inr (.inl ⟨p, xs, i, v, rfl, rfl, hs, e, q⟩)
theorem val_I {g : Int → Int → V} {i j : Int} (h : Val ta σ H (.int i)) (h' : Val tb σ H (.int j)) : Val (tOp (rI0 g) ta tb) σ H (g i j) := val_op h h' fun _ q => ⟨i, j, rfl, rfl, q⟩
theorem val_IC {C : Int → Int → Prop} {g : Int → Int → V} {i j : Int} (h : Val ta σ H (.int i)) (h' : Val tb σ H (.int j)) (c : C i j) : Val (tOp (rI C g) ta tb) σ H (g i j) := val_op h h' fun _ q => ⟨i, j, rfl, rfl, c, q⟩
theorem val_eq (h : Val ta σ H x) (h' : Val tb σ H y) (s : scal x y = true) : Val (tOp rEq ta tb) σ H (.bl (decide (x = y))) := val_op h h' fun _ q => ⟨s, q⟩
theorem val_ne (h : Val ta σ H x) (h' : Val tb σ H y) (s : scal x y = true) : Val (tOp rNe ta tb) σ H (.bl (!decide (x = y))) := val_op h h' fun _ q => ⟨s, q⟩
theorem val_is {w : V} (h : Val ta σ H v) (e : v = w) : Val ta σ H w := e ▸ h
theorem val_and {a b : Bool} (h : Val ta σ H (.bl a)) (h' : a = true → Val tb σ H (.bl b)) : Val (tAndV ta tb) σ H (.bl (a && b)) := fun Q q => h _ ⟨a, rfl, by
  cases a with
  | true => exact iteT (h' rfl Q q)
  | false => exact iteF q⟩
theorem val_or {a b : Bool} (h : Val ta σ H (.bl a)) (h' : a = false → Val tb σ H (.bl b)) : Val (tOrV ta tb) σ H (.bl (a || b)) := fun Q q => h _ ⟨a, rfl, by
  cases a with
  | true => exact iteT q
  | false => exact iteF (h' rfl Q q)⟩
theorem val_not {a : Bool} (h : Val ta σ H (.bl a)) : Val (tNotV ta) σ H (.bl (!a)) := fun Q q => h _ ⟨a, rfl, q⟩
theorem val_if {t : TT} {b : Bool} (h : Ans t σ H b) (h1 : b = true → Val ta σ H v) (h2 : b = false → Val tb σ H v) : Val (tIf t ta tb) σ H v := fun Q q => h _ (by
  cases b with
  | true => exact iteT (h1 rfl Q q)
  | false => exact iteF (h2 rfl Q q))
theorem val_isN (h : Val ta σ H x) : Val (tOp rIsN ta (tC .non)) σ H (.bl (decide (x = .non))) := val_op h val_c fun _ q => ⟨rfl, q⟩
theorem ans_is {t : TT} {a b : Bool} (h : Ans t σ H a) (e : a = b) : Ans t σ H b := e ▸ h
theorem ans_v {b : Bool} (h : Val te σ H (.bl b)) : Ans (tTest te) σ H b := fun _ q => h _ ⟨b, rfl, q⟩
theorem ans_or2 {t u : TT} {a b : Bool} (h : Ans t σ H a) (h' : a = false → Ans u σ H b) : Ans (tOr t u) σ H (a || b) := by
  cases a with
  | true => exact ans_or1 h
  | false => exact ans_or h (h' rfl)
theorem ans_and3 {t u : TT} {a b : Bool} (h : Ans t σ H a) (h' : a = true → Ans u σ H b) : Ans (tAnd t u) σ H (a && b) := by
  cases a with
  | true => exact ans_and h (h' rfl)
  | false => exact ans_and0 h
/-- a call whose promise leaves the heap -/
theorem val_call {sp : Sp} {dvs vs : List V} {E : XK} {tl : TA} (h : ValA tl σ H vs) (hs : ∀ Q : VK, Q v H → sp (vs ++ dvs) H Q E) : Val (tCall sp dvs E tl) σ H v := fun Q q => h _ (hs Q q)
theorem val_ev (h : Val te σ H v) : ∀ Q : VK, Q v H → te σ H Q := h
/-- x in a written pair of ints -/
theorem val_chain {tc : TE} {g g' : Int → Int → Bool} {a b c : Int} (h1 : Val ta σ H (.int a)) (h2 : Val tb σ H (.int b)) (h3 : Val tc σ H (.int c)) : Val (tChain (rI0 fun i j => .bl (g i j)) (rI0 fun i j => .bl (g' i j)) ta tb tc) σ H (.bl (g a b && g' b c)) := fun Q q => by
  refine h1 _ (h2 _ ⟨a, b, rfl, rfl, g a b, rfl, ?_⟩)
  cases e : g a b with
  | true => exact iteT (h3 _ ⟨b, c, rfl, rfl, by rw [e] at q; exact q⟩)
  | false => exact iteF (by rw [e] at q; exact q)
theorem go_asg {D : Ends} {g : TG} (h : te σ H fun x H1 => g x σ H1 D.nx) : tAsg te g D σ H := h
theorem go_ret {D : Ends} (h : te σ H D.rt) : tRet te D σ H := h
theorem go_drop {D : Ends} (h : te σ H fun _ H1 => D.nx σ H1) : tDrop te D σ H := h
/-- raise C(e), C of one field -/
theorem st_raise1 {W : WX} {C : Addr} {f : Str} {y : V} (T : OexC K C) (hno : PySem.W.findIn K (.ref C) f = some none) (h : Val te σ H y) (q : ∀ d, H d = none → W (.ref C) (some d) σ (upd H d (.xd [(f, y)]))) :
    tMkO C (spX1 K C f) [] (tCons te tNil) σ H (fun cls d H' => W cls d σ H') := h _ (made1 (Q := fun cls d H' => W cls d σ H') T hno q)
theorem st_raise2 {W : WX} {C : Addr} {f g : Str} {y z : V} (T : OexC K C) (hf : PySem.W.findIn K (.ref C) f = some none) (hg : PySem.W.findIn K (.ref C) g = some none) (h : Val ta σ H y) (h' : Val tb σ H z) (q : ∀ d, H d = none → W (.ref C) (some d) σ (upd H d (.xd [(g, z), (f, y)]))) :
    tMkO C (spX2 K C f g) [] (tCons ta (tCons tb tNil)) σ H (fun cls d H' => W cls d σ H') := h _ (h' _ (made2 (Q := fun cls d H' => W cls d σ H') T hf hg q))
theorem val_un {r : V → Hp → VK → Prop} {z : V} (h : Val ta σ H x) (hr : ∀ Q : VK, Q z H → r x H Q) : Val (tUn r ta) σ H z := fun Q q => h _ (hr Q q)
theorem val_neg {i : Int} (h : Val ta σ H (.int i)) : Val (tUn (rU fun i => .int (-i)) ta) σ H (.int (-i)) := val_un h fun _ q => ⟨i, rfl, q⟩
theorem st_app {D : Ends} {l : Addr} (hl : H l = some (.lst xs)) (ha : Val ta σ H (.ref l)) (h : Val te σ H v) (hz : xs.length < sizeLine) (k : D.nx σ (upd H l (.lst (xs ++ [v])))) : tDrop (tBM K "list" rAppend ta (tCons te tNil)) D σ H :=
  ha _ ⟨Or.inl ⟨rfl, xs, Evl.sq_of hl⟩, h _ ⟨l, xs, v, rfl, rfl, hl, hz, k⟩⟩
theorem st_if {c : TT} {t u : TS} {D : Ends} {b : Bool} (h : Ans c σ H b) (h1 : b = true → t D σ H) (h2 : b = false → u D σ H) : tIfS c t u D σ H := by
  cases b with
  | true => exact st_yes h (h1 rfl)
  | false => exact st_no h (h2 rfl)
theorem st_forR {D : Ends} {tl : TA} {t : TS} {j n : Nat} (h : ValA tl σ H [.int (n : Int)]) (hn : n < 2 ^ 62) (Pv : Nat → L2.St → Hp → Prop) (h0 : Pv 0 σ H)
    (hs : ∀ i σ' H', i < n → Pv i σ' H' → t { D with nx := Pv (i + 1), ct := Pv (i + 1), bk := D.nx } (σ'.set j (some (.int (i : Int)))) H') (hd : ∀ σ' H', Pv n σ' H' → D.nx σ' H') : tFor (iRng1 tl) (gName j) t D σ H :=
  h _ ⟨(n : Int), rfl, by omega, by omega, for_range (lo := 0) (n := n) Pv h0 (fun i σ' H' hi p => by
    show t _ (σ'.set j (some (.int (0 + (i : Int))))) H'
    rw [Int.zero_add]
    exact hs i σ' H' hi p) hd⟩
theorem st_forL {D : Ends} {tl : TE} {t : TS} {j : Nat} (h : Val tl σ H (.ref p)) (hx : SqL K H p xs) (Pv : Nat → L2.St → Hp → Prop) (h0 : Pv 0 σ H) (hl : ∀ i σ' H', i ≤ xs.length → Pv i σ' H' → SqL K H' p xs)
    (hs : ∀ i x σ' H', xs[i]? = some x → Pv i σ' H' → t { D with nx := Pv (i + 1), ct := Pv (i + 1), bk := D.nx } (σ'.set j (some x)) H') (hd : ∀ σ' H', Pv xs.length σ' H' → D.nx σ' H') : tFor (iList K tl) (gName j) t D σ H :=
  h _ ⟨p, rfl, ⟨xs, hx⟩, for_list Pv h0 hl hs hd⟩
end

/-! ### readings that may make new things -/
section
open Evl
variable {K : PySem.W.Frag} {σ : L2.St} {H : Hp} {ta tb te : TE} {x y v : V} {p : Addr} {xs ys : List V}
theorem ev_val (h : ∀ H1, Ex H H1 → Val te σ H1 v) : Ev te σ H v := fun H1 e Q q => h H1 e Q (q H1 (Ex.refl _))
theorem et_ans {t : TT} {b : Bool} (h : ∀ H1, Ex H H1 → Ans t σ H1 b) : EvT t σ H b := fun H1 e Q q => h H1 e Q (q H1 (Ex.refl _))
theorem ev_meth {C a : Addr} {m : Str} {sp : Sp} {dvs vs : List V} {E : XK} {tl : TA} {dx : Addr} {fs : List (Str × V)} (h : Ev ta σ H (.ref a)) (ho : H a = some (.ins C dx fs)) (hn : fs.lookup m = none) (hv : EvA tl σ H vs)
    (hs : SpV sp (.ref a :: (vs ++ dvs)) H v) : Ev (tMeth C m sp dvs E ta tl) σ H v := fun H1 e Q q => h H1 e _ fun H2 e2 => ⟨a, dx, fs, rfl, e2 _ _ (e _ _ ho), hn, hv H2 (e.trans e2) _ fun H3 e3 => hs H3 ((e.trans e2).trans e3) Q (fun H4 e4 => q H4 ((e2.trans e3).trans e4)) E⟩
theorem el_meth {C a : Addr} {m : Str} {sp : Sp} {dvs vs : List V} {E : XK} {tl : TA} {dx : Addr} {fs : List (Str × V)} (h : Ev ta σ H (.ref a)) (ho : H a = some (.ins C dx fs)) (hn : fs.lookup m = none) (hv : EvA tl σ H vs)
    (hs : SpL sp (.ref a :: (vs ++ dvs)) H xs) : EvL (tMeth C m sp dvs E ta tl) σ H xs := fun H1 e Q q => h H1 e _ fun H2 e2 => ⟨a, dx, fs, rfl, e2 _ _ (e _ _ ho), hn, hv H2 (e.trans e2) _ fun H3 e3 => hs H3 ((e.trans e2).trans e3) Q (fun p H4 hp e4 h4 => q p H4 (fresh_back (e2.trans e3) hp) ((e2.trans e3).trans e4) h4) E⟩
/-- a call one of whose arguments is a new list: the value by what the list holds -/
theorem ev_callL {sp : Sp} {dvs : List V} {E : XK} {tr : TA} {vs : List V} (h : EvL te σ H xs) (hr : EvA tr σ H vs) (hs : ∀ p H1, H1 p = some (.lst xs) → Ex H H1 → SpV sp (.ref p :: (vs ++ dvs)) H1 v) : Ev (tCall sp dvs E (tCons te tr)) σ H v := fun H1 e Q q =>
  h H1 e _ fun p H2 _ e2 h2 => hr H2 (e.trans e2) _ fun H3 e3 => hs p H3 (e3 _ _ h2) ((e.trans e2).trans e3) H3 (Ex.refl _) Q (fun H4 e4 => q H4 ((e2.trans e3).trans e4)) E
/-- a built-in of a new list -/
theorem ev_cbL {r : List V → Hp → VK → Prop} (h : EvL te σ H xs) (hs : ∀ p H1, H1 p = some (.lst xs) → Ex H H1 → RC r [.ref p] H1 v) : Ev (tCB r (tCons te tNil)) σ H v := fun H1 e Q q =>
  h H1 e _ fun p H2 _ e2 h2 => hs p H2 h2 (e.trans e2) H2 (Ex.refl _) Q (fun H3 e3 => q H3 (e2.trans e3))
theorem rc_of {r : List V → Hp → VK → Prop} {vs : List V} (h : ∀ H1, Ex H H1 → ∀ Q : VK, Q v H1 → r vs H1 Q) : RC r vs H v := fun H1 e Q q => h H1 e Q (q H1 (Ex.refl _))
theorem ev_sum {ns : List Int} (h : EvL te σ H (ns.map V.int)) : Ev (tCB (rSum K) (tCons te tNil)) σ H (.int ns.sum) := ev_cbL h fun p H1 h1 _ => rc_of fun H2 e _ q => ⟨p, ns, rfl, ex_l e (sq_of h1), q⟩
theorem ev_sumV {ns : List Int} (h : Ev te σ H (.ref p)) (hs : SqL K H p (ns.map V.int)) : Ev (tCB (rSum K) (tCons te tNil)) σ H (.int ns.sum) := fun H1 e Q q =>
  h H1 e _ fun H2 e2 => ⟨p, ns, rfl, ex_l (e.trans e2) hs, q H2 e2⟩
theorem ev_lenV (h : Ev te σ H (.ref p)) (hs : SqL K H p xs) : Ev (tCB (rLn K) (tCons te tNil)) σ H (.int (xs.length : Int)) := fun H1 e Q q =>
  h H1 e _ fun H2 e2 => ⟨p, xs, rfl, .inl (ex_l (e.trans e2) hs), q H2 e2⟩
theorem ev_fld {C dx a : Addr} {fs : List (Str × V)} {f : Str} (h : Ev ta σ H (.ref a)) (ho : H a = some (.ins C dx fs)) (hc : Cls K C) (hn : NoAttr K C f) (hl : fs.lookup f = some v) : Ev (tFld K ta f) σ H v := fun H1 e Q q =>
  h H1 e _ fun H2 e2 => ⟨a, C, dx, fs, v, rfl, e2 _ _ (e _ _ ho), hc, hn, hl, q H2 e2⟩
/-- xs + ys, both new -/
theorem el_cat (h : EvL ta σ H xs) (h' : EvL tb σ H ys) (hz : xs.length + ys.length ≤ 100000) : EvL (tOp rCat ta tb) σ H (xs ++ ys) := fun H1 e Q q =>
  h H1 e _ fun p H2 _ e2 h2 => h' H2 (e.trans e2) _ fun r H3 _ e3 h3 => ⟨p, r, xs, ys, rfl, rfl, e3 _ _ h2, h3, sz_of hz, fun u hu => q u _ (fresh_back (e2.trans e3) hu) ((e2.trans e3).trans (Ex.new hu)) upd_same⟩
theorem el_lst0 : EvL (tLst tNil) σ H [] := el_lst ea_nil (by decide)
/-- an item of a new list -/
theorem ev_ixN {i : Int} (h : EvL ta σ H xs) (hi : ∀ H1, Ex H H1 → Ev tb σ H1 (.int i)) (e : atI xs i = some v) : Ev (tOp (rIxL K) ta tb) σ H v := ev_opL1 h hi fun p H1 h1 _ => rv_ixL (sq_of h1) e
end

/-! ### slices -/
theorem cut_to {xs : List V} {j : Nat} (h : j ≤ xs.length) : cutV xs none (some (j : Int)) = xs.take j := by
  show (xs.drop (HT.sIx xs.length 0 none)).take (HT.sIx xs.length xs.length (some (j : Int)) - HT.sIx xs.length 0 none) = _
  rw [HT.sIx_none, HT.sIx_nat, Nat.min_eq_left h]
  rfl
theorem cut_from {xs : List V} {j : Nat} (h : j ≤ xs.length) : cutV xs (some (j : Int)) none = xs.drop j := by
  show (xs.drop (HT.sIx xs.length 0 (some (j : Int)))).take (HT.sIx xs.length xs.length none - HT.sIx xs.length 0 (some (j : Int))) = _
  rw [HT.sIx_none, HT.sIx_nat, Nat.min_eq_left h]
  exact List.take_of_length_le (by rw [List.length_drop]; omega)
theorem cut_in {xs : List V} {i j : Nat} (hi : i ≤ xs.length) (h : j ≤ xs.length) : cutV xs (some (i : Int)) (some (j : Int)) = (xs.drop i).take (j - i) := by
  show (xs.drop (HT.sIx xs.length 0 (some (i : Int)))).take (HT.sIx xs.length xs.length (some (j : Int)) - HT.sIx xs.length 0 (some (i : Int))) = _
  rw [HT.sIx_nat, HT.sIx_nat, Nat.min_eq_left h, Nat.min_eq_left hi]
/-! ### a op1 b op2 c op3 d -/
section
open PyProof PyProof.Rows
variable {X : Cx} {a b c d : Expr} {pos : Pos} {ta tb tc td : TE}
def tChain3 (r r' r2 : R2) (ta tb tc td : TE) : TE := fun σ H Q => ta σ H fun x H1 => tb σ H1 fun y H2 => r x y H2 fun z H3 => ∃ k, z = .bl k ∧
  (if k = true then tc σ H3 fun w' H4 => r' y w' H4 fun z2 H5 => ∃ k2, z2 = .bl k2 ∧ (if k2 = true then td σ H5 fun u H6 => r2 w' u H6 Q else Q (.bl false) H5) else Q (.bl false) H3)
theorem pt_chain3 {op op' op2 : CmpOp} {r r' r2 : R2} (ho : OpR X (compareOp op) r) (ho' : OpR X (compareOp op') r') (ho2 : OpR X (compareOp op2) r2) (ha : PE X a ta) (hb : PE X b tb) (hc : PE X c tc) (hd : PE X d td)
    (hm : lastMarks [op, op', op2] [b, c, d] = false := by with_unfolding_all rfl) : PT X (.Compare a [op, op', op2] [b, c, d] pos) (tTest (tChain3 r r' r2 ta tb tc td)) := by
  refine ⟨fun pins s σ H Q I h => ?_⟩
  refine isTrue_chain (thn (ha.run pins s σ H _ I h) fun v s1 ⟨x, H1, I1, r1, q1⟩ => test_link (thn (hb.run pins s1 σ H1 _ I1 q1) fun u s2 ⟨y, H2, I2, r2, q2⟩ =>
    thn (ho pins s2 σ H2 x y v u _ I2 r1 r2 q2) fun d s3 ⟨z, H3, I3, r3, k, e, q3⟩ => ?_)) hm
  subst e
  cases r3
  refine wpAny_truthy_bool ?_
  cases k with
  | false =>
    obtain ⟨k', e', q'⟩ := q3
    cases e'
    exact ite_ff ⟨H3, I3, q'⟩
  | true =>
    refine ite_tt (test_link (thn (hc.run pins s3 σ H3 _ I3 q3) fun w' s4 ⟨z', H4, I4, r4, q4⟩ => thn (ho' pins s4 σ H4 y z' u w' _ I4 r2 r4 q4) fun d' s5 ⟨z2, H5, I5, r5, k2, e2, q5⟩ => ?_))
    subst e2
    cases r5
    refine wpAny_truthy_bool ?_
    cases k2 with
    | false =>
      obtain ⟨k', e', q'⟩ := q5
      cases e'
      exact ite_ff ⟨H5, I5, q'⟩
    | true =>
      refine ite_tt (test_last (thn (hd.run pins s5 σ H5 _ I5 q5) fun w2 s6 ⟨z3, H6, I6, r6, q6⟩ => thn (ho2 pins s6 σ H6 z' z3 w' w2 _ I6 r4 r6 q6) fun d2 s7 ⟨z4, H7, I7, r7, k3, e3, q7⟩ => ?_))
      subst e3
      cases r7
      exact wpAny_truthy_bool ⟨H7, I7, q7⟩
theorem val_chain3 {σ : L2.St} {H : Hp} {g g' g2 : Int → Int → Bool} {a b c d : Int} (h1 : Val ta σ H (.int a)) (h2 : Val tb σ H (.int b)) (h3 : Val tc σ H (.int c)) (h4 : Val td σ H (.int d)) :
    Val (tChain3 (rI0 fun i j => .bl (g i j)) (rI0 fun i j => .bl (g' i j)) (rI0 fun i j => .bl (g2 i j)) ta tb tc td) σ H (.bl (g a b && (g' b c && g2 c d))) := fun Q q => by
  refine h1 _ (h2 _ ⟨a, b, rfl, rfl, g a b, rfl, ?_⟩)
  cases e : g a b with
  | true =>
    refine iteT (h3 _ ⟨b, c, rfl, rfl, g' b c, rfl, ?_⟩)
    cases e2 : g' b c with
    | true => exact iteT (h4 _ ⟨c, d, rfl, rfl, by rw [e, e2] at q; exact q⟩)
    | false => exact iteF (by rw [e, e2] at q; exact q)
  | false => exact iteF (by rw [e] at q; exact q)
end

/-! ### a dict of ints under ints -/
def tk (ks : List Int) (c : Int → Int) : List (Key × V) := ks.map fun s => ((Sum.inl s : Key), V.int (c s))
theorem tk_keys (ks : List Int) (c : Int → Int) : (tk ks c).map (·.1) = ks.map Sum.inl := by
  unfold tk
  rw [List.map_map] <;> rfl
theorem tk_len (ks : List Int) (c : Int → Int) : (tk ks c).length = ks.length := by unfold tk; rw [List.length_map]
theorem tk_val (ks : List Int) (c : Int → Int) (u : Int) : valV (tk ks c) (.inl u) = if u ∈ ks then some (.int (c u)) else none := by
  induction ks with
  | nil => rfl
  | cons s r ih =>
    unfold tk valV at ih ⊢
    rw [List.map_cons, List.find?_cons]
    by_cases h : s = u
    · subst h
      rw [decide_eq_true rfl, if_pos (List.mem_cons_self ..)]
      rfl
    · rw [decide_eq_false (fun q => h (Sum.inl.inj q))]
      show Option.map _ (List.find? _ (List.map _ r)) = _
      rw [ih]
      by_cases h2 : u ∈ r
      · rw [if_pos h2, if_pos (List.mem_cons_of_mem _ h2)]
      · rw [if_neg h2, if_neg (fun q => by
          rcases List.mem_cons.mp q with q | q
          · exact h q.symm
          · exact h2 q)]
theorem tk_congr {ks : List Int} {c c' : Int → Int} (h : ∀ s ∈ ks, c s = c' s) : tk ks c = tk ks c' := List.map_congr_left fun s hs => by rw [h s hs]
theorem tk_put {ks : List Int} {c c' : Int → Int} {u y : Int} (hy : c' u = y) (h : ∀ s, s ≠ u → c s = c' s) : putK (tk ks c) (.inl u) (.int y) = tk (if u ∈ ks then ks else ks ++ [u]) c' := by
  by_cases hu : u ∈ ks
  · rw [if_pos hu]
    unfold putK
    rw [valV_any, tk_val, if_pos hu, if_pos (show (some (V.int (c u))).isSome = true from rfl)]
    unfold tk
    rw [List.map_map]
    refine List.map_congr_left fun s _ => ?_
    show (if (Sum.inl s : Key) = Sum.inl u then ((Sum.inl s : Key), V.int y) else (Sum.inl s, V.int (c s))) = _
    by_cases e : s = u
    · subst e
      rw [if_pos rfl, hy]
    · rw [if_neg (fun q => e (Sum.inl.inj q)), h s e]
  · rw [if_neg hu, putK_new _ (by rw [tk_val, if_neg hu])]
    unfold tk
    rw [List.map_append, List.map_cons, List.map_nil, hy]
    congr 1
    refine List.map_congr_left fun s hs => ?_
    rw [h s (fun e => hu (e ▸ hs))]

/-! ### rows of different ints -/
theorem nodup_le : ∀ {l m : List Int}, l.Nodup → (∀ x ∈ l, x ∈ m) → l.length ≤ m.length
  | [], _, _, _ => Nat.zero_le _
  | x :: r, m, h, hs => by
    have hx := hs x (List.mem_cons_self ..)
    have h1 := List.nodup_cons.mp h
    have := nodup_le (l := r) (m := m.erase x) h1.2 fun y hy => (List.mem_erase_of_ne (fun e : y = x => h1.1 (by rw [← e]; exact hy))).mpr (hs y (List.mem_cons_of_mem _ hy))
    rw [List.length_erase_of_mem hx] at this
    have := List.length_pos_of_mem hx
    rw [List.length_cons]
    omega
theorem asc_eq : ∀ {l m : List Int}, l.Pairwise (· < ·) → m.Pairwise (· < ·) → (∀ x, x ∈ l ↔ x ∈ m) → l = m
  | [], [], _, _, _ => rfl
  | [], y :: m, _, _, h => absurd ((h y).mpr (List.mem_cons_self ..)) (by simp)
  | x :: l, [], _, _, h => absurd ((h x).mp (List.mem_cons_self ..)) (by simp)
  | x :: l, y :: m, hl, hm, h => by
    obtain ⟨hl1, hl2⟩ := List.pairwise_cons.mp hl
    obtain ⟨hm1, hm2⟩ := List.pairwise_cons.mp hm
    have e : x = y := by
      rcases List.mem_cons.mp ((h x).mp (List.mem_cons_self ..)) with e | e
      · exact e
      · rcases List.mem_cons.mp ((h y).mpr (List.mem_cons_self ..)) with e' | e'
        · exact e'.symm
        · have := hm1 x e
          have := hl1 y e'
          omega
    subst e
    rw [asc_eq hl2 hm2 fun z => ⟨fun hz => ?_, fun hz => ?_⟩]
    · rcases List.mem_cons.mp ((h z).mp (List.mem_cons_of_mem _ hz)) with e | e
      · have := hl1 z hz
        omega
      · exact e
    · rcases List.mem_cons.mp ((h z).mpr (List.mem_cons_of_mem _ hz)) with e | e
      · have := hm1 z hz
        omega
      · exact e
theorem asc_of {l : List Int} (h : l.Pairwise (· ≤ ·)) (n : l.Nodup) : l.Pairwise (· < ·) := by
  induction l with
  | nil => exact .nil
  | cons x r ih =>
    obtain ⟨h1, h2⟩ := List.pairwise_cons.mp h
    obtain ⟨n1, n2⟩ := List.nodup_cons.mp n
    refine List.pairwise_cons.mpr ⟨fun y hy => ?_, ih h2 n2⟩
    have := h1 y hy
    have : x ≠ y := fun e => n1 (e ▸ hy)
    omega
theorem asc_nodup {l : List Int} (h : l.Pairwise (· < ·)) : l.Nodup := h.imp fun {a b} q e => by omega
/-- how often the items of ks stand in l, all in all -/
theorem counts_sum : ∀ (l ks : List Int), ks.Nodup → (∀ x ∈ l, x ∈ ks) → (ks.map fun s => ((l.count s : Nat) : Int)).sum = (l.length : Int)
  | [], ks, _, _ => by
    have : (ks.map fun s => (((([] : List Int).count s : Nat)) : Int)) = ks.map fun _ => (0 : Int) := List.map_congr_left fun s _ => by rw [List.count_nil]; rfl
    rw [this]
    clear this
    induction ks with
    | nil => rfl
    | cons s r ih => rw [List.map_cons, List.sum_cons]; simp_all
  | x :: l, ks, hn, h => by
    have ih := counts_sum l ks hn fun y hy => h y (List.mem_cons_of_mem _ hy)
    have hx := h x (List.mem_cons_self ..)
    have key : ∀ ks : List Int, ks.Nodup → (ks.map fun s => (((x :: l).count s : Nat) : Int)).sum = (ks.map fun s => ((l.count s : Nat) : Int)).sum + if x ∈ ks then 1 else 0 := by
      intro ks
      induction ks with
      | nil => intro _; rfl
      | cons s r ih =>
        intro hn
        obtain ⟨n1, n2⟩ := List.nodup_cons.mp hn
        rw [List.map_cons, List.sum_cons, List.map_cons, List.sum_cons, ih n2, List.count_cons]
        by_cases e : x = s
        · subst e
          rw [if_neg n1, if_pos (List.mem_cons_self ..), if_pos (by simp)]
          omega
        · have e1 : (x == s) = false := by simpa using e
          rw [e1]
          by_cases e2 : x ∈ r
          · rw [if_pos e2, if_pos (List.mem_cons_of_mem _ e2)]
            simp
            omega
          · have e3 : ¬ x ∈ s :: r := fun q => by
              rcases List.mem_cons.mp q with q | q
              · exact e q
              · exact e2 q
            rw [if_neg e2, if_neg e3, if_neg (by decide)]
            omega
    rw [key ks hn, ih, if_pos hx, List.length_cons]
    omega
/-! ### range(0, m, 2), range(0, m, 3) -/
theorem rgC_up {m c : Int} (hc : c = 2 ∨ c = 3) (hm : 0 ≤ m) (hm2 : m ≤ 40000) : ∃ n, RgC 0 m c n ∧ ∀ i : Nat, i < n → (i : Int) * c < m := by
  refine ⟨(Builtin.Range.rangeSize 0 m c).toNat, ⟨by omega, by omega, ?_, ?_⟩, fun i hi => ?_⟩
  · unfold Builtin.Range.small Builtin.Range.rangeSize
    simp only [Builtin.Range.rangeFitsLong, Bool.and_eq_true, Bool.or_eq_true, decide_eq_true_eq, beq_iff_eq]
    rcases hc with rfl | rfl <;> simp <;> split <;> omega
  · unfold Builtin.Range.rangeSize
    rcases hc with rfl | rfl <;> simp <;> split <;> omega
  · unfold Builtin.Range.rangeSize at hi
    rcases hc with rfl | rfl <;> simp at hi <;> split at hi <;> omega
theorem q_forR3 {ta : TA} {t : TS} {tz : TS} {D : Ends} {σ : L2.St} {H : Hp} {j : Nat} {m c : Int} (h : Evl.EvA ta σ H [.int 0, .int m, .int c]) (hc : c = 2 ∨ c = 3) (hm : 0 ≤ m ∧ m ≤ 40000) (Pv : Int → L2.St → Hp → Prop) (h0 : ∀ H1, Evl.Ex H H1 → Pv 0 σ H1)
    (hs : ∀ (i : Int) σ' H', 0 ≤ i → i < m → Pv i σ' H' → t { D with nx := Pv (i + c), ct := Pv (i + c), bk := tz D } (σ'.set j (some (.int i))) H') (hd : ∀ i σ' H', Pv i σ' H' → tz D σ' H') : tSeq (tFor (iRng3 ta) (gName j) t) tz D σ H :=
  h H (Evl.Ex.refl H) _ fun H1 e => by
    obtain ⟨n, hn, hb⟩ := rgC_up hc hm.1 hm.2
    refine ⟨0, m, c, n, rfl, hn, for_rangeC (D := { D with nx := tz D }) (fun i σ H => Pv ((i : Int) * c) σ H) (by have := h0 H1 e; rwa [show (((0 : Nat) : Int)) * c = 0 from by simp]) (fun i σ' H' hi p => ?_) (fun σ' H' p => hd _ σ' H' p)⟩
    have := hb i hi
    rw [Int.zero_add, show (((i + 1 : Nat)) : Int) * c = (i : Int) * c + c from by rw [Int.natCast_add, Int.add_mul]; simp]
    exact hs _ σ' H' (by rcases hc with rfl | rfl <;> omega) this p
/-- a suite asked only where the frame has its n slots -/
theorem ps_len {X : Cx} {st : List Stmt} {t : TS} {n : Nat} (hn : X.N.length = n) (h : PSs X st t) : PSs X st (fun D σ H => σ.length = n → t D σ H) := ⟨fun pins s σ H D I hw => h.run pins s σ H D I (hw (I.len.trans hn))⟩
/-! ### several except clauses, each with a name or without -/
abbrev Clause := Value × Option Nat × (Addr → Value → Option Addr → TS)
/-- behind a suite with a name the name's slot is empty -/
def emptied (D : Ends) : Option Nat → Ends
  | none => D
  | some i => { nx := fun τ G => D.nx (τ.set i none) G, rt := D.rt, bk := fun τ G => D.bk (τ.set i none) G, ct := fun τ G => D.ct (τ.set i none) G }
def named (τ : L2.St) (a : Addr) : Option Nat → L2.St
  | none => τ
  | some i => τ.set i (some (.ref a))
/-- what the clauses, one after the other, wish of what the body lets out -/
def wMix (K : PySem.W.Frag) (Wout : WX) (D : Ends) : List Clause → WX
  | [] => Wout
  | (c, o, ts) :: r => fun cls d τ G => ∃ b, PySem.W.exmOne K cls c = some b ∧ (b = true → ∀ a, G a = none → ts a cls d (emptied D o) (named τ a o) G) ∧ (b = false → wMix K Wout D r cls d τ G)
inductive Clauses (X : Cx) : List ExceptHandler → List Clause → Prop
  | nil : Clauses X [] []
  | bare {x : Str} {c : Value} {ts : Addr → Value → Option Addr → TS} {s0 : Stmt} {ss : List Stmt} {p1 p2 : Pos} {hds : List ExceptHandler} {l : List Clause} (hc : Names X x c)
      (hS : ∀ (a : Addr) (oe : Obj) (cls : Value) (d : Option Addr) (pn : List (Addr × Obj)), Zc cls d oe → (∃ vs, oe.data = .fields vs) → PSs (X.suite a ((a, oe) :: pn)) (s0 :: ss) (ts a cls d)) (r : Clauses X hds l) :
      Clauses X (.ExceptHandler (some (.Name x p1)) none (s0 :: ss) p2 :: hds) ((c, none, ts) :: l)
  | as {x n : Str} {i : Nat} {c : Value} {ts : Addr → Value → Option Addr → TS} {s0 : Stmt} {ss : List Stmt} {p1 p2 : Pos} {hds : List ExceptHandler} {l : List Clause} (hi : X.N[i]? = some n) (hk : X.env.kindOf n = some .local) (hc : Names X x c)
      (hS : ∀ (a : Addr) (oe : Obj) (cls : Value) (d : Option Addr) (pn : List (Addr × Obj)), Zc cls d oe → (∃ vs, oe.data = .fields vs) → PSs (X.suite a ((a, oe) :: pn)) (s0 :: ss) (ts a cls d)) (r : Clauses X hds l) :
      Clauses X (.ExceptHandler (some (.Name x p1)) (some n) (s0 :: ss) p2 :: hds) ((c, some i, ts) :: l)
section
variable {X : Cx} {body : List Stmt} {h₀ : ExceptHandler} {hds : List ExceptHandler} {l : List Clause} {pos : Pos} {tb : WX → TS} {Wout : WX}
theorem ps_try_mix (hs : X.stack = X.env :: X.outer) (hf : X.env.frame = some X.env.locals) (hN : X.N.Nodup) (tk : Takes X Wout)
    (hb : ∀ (W : WX) (pn : List (Addr × Obj)) (xe : Value → Shared → Prop), Takes (X.tr pn xe) W → PassesOwn (model X.prog X.w) X.A X.env xe → PSs (X.tr pn xe) body (tb W))
    (hh : Clauses X (h₀ :: hds) l) : PS X (.Try body (h₀ :: hds) [] [] pos) (fun D τ G => tb (wMix X.K Wout D l) D τ G) := by
  constructor
  intro pins s τ G D I h
  have okX := I.ok
  let caught : Value → Shared → Prop := fun e t1 => wpAny (model X.prog X.w) X.A (noteFrame e X.env) (fun _ t2 => wpAny (model X.prog X.w) X.A (setFlight e none) (fun _ t3 => wpAny (model X.prog X.w) X.A (handleBy e X.env (h₀ :: hds)) (SP X pins D) X.xe t3) X.xe t2) X.xe t1
  have back : ∀ (f : Flow) (t : Shared), SP (X.tr (X.pn ++ pins) caught) [] D f t → SP X pins D f t := by
    intro f t q
    cases f with
    | ret u =>
      obtain ⟨v, τ1, G1, J, rv, qq⟩ := q
      exact ⟨v, τ1, G1, J.ofTry okX, rv, qq⟩
    | next =>
      obtain ⟨τ1, G1, J, qq⟩ := q
      exact ⟨τ1, G1, J.ofTry okX, qq⟩
    | brk =>
      obtain ⟨τ1, G1, J, qq⟩ := q
      exact ⟨τ1, G1, J.ofTry okX, qq⟩
    | cont =>
      obtain ⟨τ1, G1, J, qq⟩ := q
      exact ⟨τ1, G1, J.ofTry okX, qq⟩
  refine wpAny_Try_except (wpAny_mono ((hb (wMix X.K Wout D l) (X.pn ++ pins) caught ?tk PassesOwn.looking).run [] s τ G D (I.toTry _) h) ?out fun _ _ he => he)
  case out =>
    intro f t q
    have q' := back f t q
    cases f with
    | next => exact wpAny_execs_nil q'
    | ret u => exact q'
    | brk => exact q'
    | cont => exact q'
  case tk =>
    rintro _ t ⟨a, B, sI, pins1, τ1, G1, cls, d, rfl, J0, nb, up, sky, na, os, ag, wish⟩
    have J := J0.ofTry okX
    rw [show (X.tr (X.pn ++ pins) caught).stack = X.env :: X.outer from hs] at sky
    show wpAny (model X.prog X.w) X.A (noteFrame (.ref a) X.env) _ _ _
    refine Sky.land Zc.steady (okX.frames.trans (congrArg some hs)) hf sky fun h3 fly up3 => ?_
    have J3 : Inv X pins τ1 G1 { t with heap := h3 } := J.landed nb fly.1 (up.trans up3) os ag
    obtain ⟨oe, vs, hget, hz, hdat⟩ := fly.there
    have off : a ∉ frs (X.env :: X.outer) := by
      intro hm
      obtain ⟨_, o1, g1, hne⟩ := fly.2.2.1.mem hm
      rw [hget] at g1
      cases g1
      exact hne _ hdat
    have offL : a ≠ X.env.locals := fun z => off (List.mem_filterMap.mpr ⟨X.env, List.mem_cons_self, by rw [hf, z]⟩)
    have offF : a ∉ X.fs := by
      intro hm
      obtain ⟨e, he, q⟩ := List.mem_filterMap.mp hm
      exact off (List.mem_filterMap.mpr ⟨e, List.mem_cons_of_mem _ he, q⟩)
    have Sus := J3.suite hget hdat na offL offF
    have kindIs : PySem.W.Looks (model X.prog X.w) h3 (typeOf (.ref a)) cls := fun _ _ _ _ look q => wpAny_typeOf_ref (look _ _ hget) (by rw [hz.1]; exact q)
    have reads : ∀ {x : Str} {c : Value} {p : Pos} {Q : Value → Shared → Prop} {E : Value → Shared → Prop}, Names X x c → Q c { t with heap := h3 } → wpAny (model X.prog X.w) (X.A.mark (some (.ref a))) (eval (.Name x p) X.env) Q E { t with heap := h3 } := by
      intro x c p Q E nm q
      obtain ⟨hg, hdbg, own | ⟨free, hv, hnn⟩⟩ := nm
      · exact ld_glob (X := X.suite a ((a, oe) :: (X.pn ++ pins))) Sus hg own q hdbg
      · exact ld_blt (X := X.suite a ((a, oe) :: (X.pn ++ pins))) Sus hg free hv q hnn hdbg
    have walk : ∀ (hs' : List ExceptHandler) (l' : List Clause), Clauses X hs' l' → wMix X.K Wout D l' cls d τ1 G1 → wpAny (model X.prog X.w) X.A (handleBy (.ref a) X.env hs') (SP X pins D) X.xe { t with heap := h3 } := by
      intro hs' l' hk
      induction hk with
      | nil =>
        intro wish
        refine wpAny_handleBy_nil ?_
        obtain ⟨_, _, _, oe', vs', T, _, _, g1, _, g2, g3, _⟩ := id fly
        have flies : wpAny (model X.prog X.w) X.A (setFlight (.ref a) X.env.frame) (fun _ t4 => wpAny (model X.prog X.w) X.A (throw (.ref a) : Sem Flow) (SP X pins D) X.xe t4) X.xe { t with heap := h3 } := by
          rw [hf]
          refine HandSPX.setFlight_upZ fly fun h4 held up4 => wpAny_throw (tk _ _ ⟨a, B, sI, pins, τ1, G1, cls, d, rfl, J, nb, (up.trans up3).trans up4, .inr (.inr ?_), na, os, ag, wish⟩)
          rw [hs]
          exact held
        unfold PySem.passOn
        refine wpAny_bind (wpAny_field g1 g2 g3 ?_)
        rw [if_neg (show ¬ ((Value.ref T == Value.none) = true) by simp)]
        first
          | exact wpAny_bind flies
          | exact wpAny_bind (wpAny_pure (wpAny_bind flies))
      | bare nm hS _ ih =>
        rintro ⟨b, hb1, yes, no⟩
        refine wpAny_handleBy_cons (codeAny_handlers_test ?_) (by intro q; cases q)
        refine reads nm ((PySem.W.exm_one (M := model X.prog X.w) J3.kIn kindIs hb1).here ?_)
        cases b with
        | false => exact ih (no rfl)
        | true =>
          refine codeAny_handlers_suite (HandSPX.lands_againZ fly fun h4 fly4 up4 => ?_)
          obtain ⟨oe4, vs4, hget4, hz4, hdat4⟩ := fly4.there
          have S4 := (J.landed nb fly4.1 ((up.trans up3).trans up4) os ag : Inv X pins τ1 G1 { t with heap := h4 }).suite hget4 hdat4 na offL offF
          refine wpAny_mono ((hS a oe4 cls d (X.pn ++ pins) hz4 ⟨_, hdat4⟩).run [] _ _ G1 _ S4 (yes rfl a na)) (fun f t6 q => ?_) fun _ _ z => z.elim
          cases f with
          | ret u =>
            obtain ⟨v, τ6, G6, S6, rv, q6⟩ := q
            exact ⟨v, τ6, G6, S6.unsuite okX, rv, q6⟩
          | next =>
            obtain ⟨τ6, G6, S6, q6⟩ := q
            exact ⟨τ6, G6, S6.unsuite okX, q6⟩
          | brk =>
            obtain ⟨τ6, G6, S6, q6⟩ := q
            exact ⟨τ6, G6, S6.unsuite okX, q6⟩
          | cont =>
            obtain ⟨τ6, G6, S6, q6⟩ := q
            exact ⟨τ6, G6, S6.unsuite okX, q6⟩
      | @as x n i c ts s0 ss p1 p2 hds2 l2 hi hloc nm hS _ ih =>
        rintro ⟨b, hb1, yes, no⟩
        refine wpAny_handleBy_cons (codeAny_handlers_test ?_) (by intro q; cases q)
        refine reads nm ((PySem.W.exm_one (M := model X.prog X.w) J3.kIn kindIs hb1).here ?_)
        cases b with
        | false => exact ih (no rfl)
        | true =>
          refine codeAny_handlers_suite_as (HandSPX.lands_againZ fly fun h4 fly4 up4 => ?_)
          obtain ⟨oe4, vs4, hget4, hz4, hdat4⟩ := fly4.there
          have S4 := (J.landed nb fly4.1 ((up.trans up3).trans up4) os ag : Inv X pins τ1 G1 { t with heap := h4 }).suite hget4 hdat4 na offL offF
          refine store_ok (X := X.suite a ((a, oe4) :: (X.pn ++ pins))) (v := .ref a) S4 hN hi (.inl hloc) rfl (fun t5 S5 => ?_) (.inr hloc)
          refine wpAny_mono ((hS a oe4 cls d (X.pn ++ pins) hz4 ⟨_, hdat4⟩).run [] t5 _ G1 _ S5 (yes rfl a na)) (fun f t6 q => ?_) fun _ _ z => z.elim
          cases f with
          | ret u =>
            obtain ⟨v, τ6, G6, S6, rv, q6⟩ := q
            exact gone_ok (S6.unsuite okX) hN hi hloc fun t7 J7 => ⟨v, _, _, J7, rv, q6⟩
          | next =>
            obtain ⟨τ6, G6, S6, q6⟩ := q
            exact gone_ok (S6.unsuite okX) hN hi hloc fun t7 J7 => ⟨_, _, J7, q6⟩
          | brk =>
            obtain ⟨τ6, G6, S6, q6⟩ := q
            exact gone_ok (S6.unsuite okX) hN hi hloc fun t7 J7 => ⟨_, _, J7, q6⟩
          | cont =>
            obtain ⟨τ6, G6, S6, q6⟩ := q
            exact gone_ok (S6.unsuite okX) hN hi hloc fun t7 J7 => ⟨_, _, J7, q6⟩
    exact walk _ _ hh wish
end

/-! ### stars, dict comprehensions -/
theorem aStar {X : Cx} (K : PySem.W.Frag) (h : X.K = K) {e : Expr} {es : List Expr} {te : TE} {t : TA} {p : Pos} (he : PE X e te) (hr : PA X es t) (hs : starEach (.Starred e p :: es) X.env = (true, eval e X.env) :: starEach es X.env := by rfl) : PA X (.Starred e p :: es) (StX.tStar K te t) := h ▸ StX.pa_star he hr hs
/-- a dict comprehension over whatever is walked -/
theorem dc_it {J : It} {n : Nat} {G : Hp → Prop} {Y : Nat → Hp → V → Hp → Prop} (w : Walk J n G Y) {g : TG} {tt : TT} {tk tv : TE} {vs : List Nat} {σ : L2.St} {H1 : Hp} {D : Addr} {Qd : Hp → Prop} (Pv : Nat → Hp → Prop) (h0 : Pv 0 (upd H1 D (.dK []))) (hG : ∀ i H, i ≤ n → Pv i H → G H)
    (turn : ∀ i x H H', i < n → Pv i H → Y i H x H' → g x (wipe σ vs) H' fun τ G2 => wipe τ vs = wipe σ vs ∧ tt τ G2 fun b G3 =>
      if b = true then tk τ G3 fun y G4 => tv τ G4 fun z G5 => ∃ kvs k, y = kV k ∧ G5 D = some (.dK kvs) ∧ kvs.length < sizeLine ∧ Pv (i + 1) (upd G5 D (.dK (putK kvs k z))) else Pv (i + 1) G3) (done : ∀ H, Pv n H → Qd H) :
    ∃ W : Nat → Nat → Hp → Prop, (∃ m, W 0 m (upd H1 D (.dK []))) ∧ ∀ i m H, W i m H →
      (J.stop i H ∧ Qd H) ∨ (J.go i H ∧ ∃ Nx : Hp → Prop, (∀ H', Nx H' → ∃ m', m' < m ∧ W (i + 1) m' H') ∧ ∀ x H', J.yld i H x H' → g x (wipe σ vs) H' fun τ G2 => wipe τ vs = wipe σ vs ∧ tt τ G2 fun b G3 =>
        if b = true then tk τ G3 fun y G4 => tv τ G4 fun z G5 => ∃ kvs k, y = kV k ∧ G5 D = some (.dK kvs) ∧ kvs.length < sizeLine ∧ Nx (upd G5 D (.dK (putK kvs k z))) else Nx G3) := by
  refine ⟨fun i m H => m + i = n ∧ Pv i H, ⟨n, rfl, h0⟩, ?_⟩
  rintro i m H ⟨hm, p⟩
  have q := hG i H (by omega) p
  by_cases hi : i = n
  · subst hi
    exact .inl ⟨w.stops H q, done H p⟩
  · have hlt : i < n := by omega
    exact .inr ⟨w.goes i H hlt q, Pv (i + 1), fun H' p' => ⟨m - 1, by omega, by omega, p'⟩, fun x H' y => turn i x H H' hlt p (w.yields i H x H' hlt q y)⟩
theorem mIdx {X : Cx} (K : PySem.W.Frag) (h : X.K = K) : MtR X "list.index" (rIndex K) := h ▸ mt_index
end Tp
namespace Tp
open PySem PySem.Spec PyProof.Rows L2 Evl
/-! ### the text by places, the facts -/
def top (i : Nat) : Stmt := PySem.Challenge.pw_topiary_k05_whole_ranks_and_places_agree.main.body.getD i (.Pass ⟨0, 0, 0, 0⟩)
abbrev s__wall : Stmt := top 0
abbrev N__wall : List Str := ["k"]
abbrev ps__wall : List Str := ["k"]
abbrev at__wall : Str × Option Str := ("_wall", none)
theorem sc__wall : FnScope N__wall ps__wall (defScope s__wall) := ⟨rfl, rfl, rfl, by decide +kernel, rfl, by decide +kernel, by decide +kernel⟩
def d__wall : He.DefD := ⟨at__wall, "_wall", "_wall", defArgs s__wall, defBody s__wall, defScope s__wall, [], []⟩
abbrev s_InvalidStretch_init : Stmt := inClass (top 3) 0
abbrev N_InvalidStretch_init : List Str := ["self", "first", "behind"]
abbrev ps_InvalidStretch_init : List Str := ["self", "first", "behind"]
abbrev at_InvalidStretch_init : Str × Option Str := ("InvalidStretch", some "__init__")
theorem sc_InvalidStretch_init : FnScope N_InvalidStretch_init ps_InvalidStretch_init (defScope s_InvalidStretch_init) := ⟨rfl, rfl, rfl, by decide +kernel, rfl, by decide +kernel, by decide +kernel⟩
def d_InvalidStretch_init : He.DefD := ⟨at_InvalidStretch_init, "__init__", "InvalidStretch.__init__", defArgs s_InvalidStretch_init, defBody s_InvalidStretch_init, defScope s_InvalidStretch_init, [], []⟩
abbrev s_InvalidRow_init : Stmt := inClass (top 4) 0
abbrev N_InvalidRow_init : List Str := ["self", "place"]
abbrev ps_InvalidRow_init : List Str := ["self", "place"]
abbrev at_InvalidRow_init : Str × Option Str := ("InvalidRow", some "__init__")
theorem sc_InvalidRow_init : FnScope N_InvalidRow_init ps_InvalidRow_init (defScope s_InvalidRow_init) := ⟨rfl, rfl, rfl, by decide +kernel, rfl, by decide +kernel, by decide +kernel⟩
def d_InvalidRow_init : He.DefD := ⟨at_InvalidRow_init, "__init__", "InvalidRow.__init__", defArgs s_InvalidRow_init, defBody s_InvalidRow_init, defScope s_InvalidRow_init, [], []⟩
abbrev s_InvalidPlace_init : Stmt := inClass (top 5) 0
abbrev N_InvalidPlace_init : List Str := ["self", "place"]
abbrev ps_InvalidPlace_init : List Str := ["self", "place"]
abbrev at_InvalidPlace_init : Str × Option Str := ("InvalidPlace", some "__init__")
theorem sc_InvalidPlace_init : FnScope N_InvalidPlace_init ps_InvalidPlace_init (defScope s_InvalidPlace_init) := ⟨rfl, rfl, rfl, by decide +kernel, rfl, by decide +kernel, by decide +kernel⟩
def d_InvalidPlace_init : He.DefD := ⟨at_InvalidPlace_init, "__init__", "InvalidPlace.__init__", defArgs s_InvalidPlace_init, defBody s_InvalidPlace_init, defScope s_InvalidPlace_init, [], []⟩
abbrev s_InvalidSize_init : Stmt := inClass (top 6) 0
abbrev N_InvalidSize_init : List Str := ["self", "size"]
abbrev ps_InvalidSize_init : List Str := ["self", "size"]
abbrev at_InvalidSize_init : Str × Option Str := ("InvalidSize", some "__init__")
theorem sc_InvalidSize_init : FnScope N_InvalidSize_init ps_InvalidSize_init (defScope s_InvalidSize_init) := ⟨rfl, rfl, rfl, by decide +kernel, rfl, by decide +kernel, by decide +kernel⟩
def d_InvalidSize_init : He.DefD := ⟨at_InvalidSize_init, "__init__", "InvalidSize.__init__", defArgs s_InvalidSize_init, defBody s_InvalidSize_init, defScope s_InvalidSize_init, [], []⟩
abbrev s_InvalidSymbol_init : Stmt := inClass (top 7) 0
abbrev N_InvalidSymbol_init : List Str := ["self", "symbol"]
abbrev ps_InvalidSymbol_init : List Str := ["self", "symbol"]
abbrev at_InvalidSymbol_init : Str × Option Str := ("InvalidSymbol", some "__init__")
theorem sc_InvalidSymbol_init : FnScope N_InvalidSymbol_init ps_InvalidSymbol_init (defScope s_InvalidSymbol_init) := ⟨rfl, rfl, rfl, by decide +kernel, rfl, by decide +kernel, by decide +kernel⟩
def d_InvalidSymbol_init : He.DefD := ⟨at_InvalidSymbol_init, "__init__", "InvalidSymbol.__init__", defArgs s_InvalidSymbol_init, defBody s_InvalidSymbol_init, defScope s_InvalidSymbol_init, [], []⟩
abbrev s__running_ones : Stmt := top 9
abbrev N__running_ones : List Str := ["row", "counts", "digit"]
abbrev ps__running_ones : List Str := ["row"]
abbrev at__running_ones : Str × Option Str := ("_running_ones", none)
theorem sc__running_ones : FnScope N__running_ones ps__running_ones (defScope s__running_ones) := ⟨rfl, rfl, rfl, by decide +kernel, rfl, by decide +kernel, by decide +kernel⟩
def d__running_ones : He.DefD := ⟨at__running_ones, "_running_ones", "_running_ones", defArgs s__running_ones, defBody s__running_ones, defScope s__running_ones, [], []⟩
abbrev s_Bits_init : Stmt := inClass (top 10) 0
abbrev N_Bits_init : List Str := ["self", "row", "place", "digit"]
abbrev ps_Bits_init : List Str := ["self", "row"]
abbrev at_Bits_init : Str × Option Str := ("Bits", some "__init__")
theorem sc_Bits_init : FnScope N_Bits_init ps_Bits_init (defScope s_Bits_init) := ⟨rfl, rfl, rfl, by decide +kernel, rfl, by decide +kernel, by decide +kernel⟩
def d_Bits_init : He.DefD := ⟨at_Bits_init, "__init__", "Bits.__init__", defArgs s_Bits_init, defBody s_Bits_init, defScope s_Bits_init, [], []⟩
abbrev s_Bits_at : Stmt := inClass (top 10) 1
abbrev N_Bits_at : List Str := ["self", "place"]
abbrev ps_Bits_at : List Str := ["self", "place"]
abbrev at_Bits_at : Str × Option Str := ("Bits", some "at")
theorem sc_Bits_at : FnScope N_Bits_at ps_Bits_at (defScope s_Bits_at) := ⟨rfl, rfl, rfl, by decide +kernel, rfl, by decide +kernel, by decide +kernel⟩
def d_Bits_at : He.DefD := ⟨at_Bits_at, "at", "Bits.at", defArgs s_Bits_at, defBody s_Bits_at, defScope s_Bits_at, [], []⟩
abbrev s_Bits_rank : Stmt := inClass (top 10) 2
abbrev N_Bits_rank : List Str := ["self", "i", "digit"]
abbrev ps_Bits_rank : List Str := ["self", "i", "digit"]
abbrev at_Bits_rank : Str × Option Str := ("Bits", some "rank")
theorem sc_Bits_rank : FnScope N_Bits_rank ps_Bits_rank (defScope s_Bits_rank) := ⟨rfl, rfl, rfl, by decide +kernel, rfl, by decide +kernel, by decide +kernel⟩
def d_Bits_rank : He.DefD := ⟨at_Bits_rank, "rank", "Bits.rank", defArgs s_Bits_rank, defBody s_Bits_rank, defScope s_Bits_rank, [.int 1], []⟩
abbrev s_Bits_select : Stmt := inClass (top 10) 3
abbrev N_Bits_select : List Str := ["self", "k", "digit", "places"]
abbrev ps_Bits_select : List Str := ["self", "k", "digit"]
abbrev at_Bits_select : Str × Option Str := ("Bits", some "select")
theorem sc_Bits_select : FnScope N_Bits_select ps_Bits_select (defScope s_Bits_select) := ⟨rfl, rfl, rfl, by decide +kernel, rfl, by decide +kernel, by decide +kernel⟩
def d_Bits_select : He.DefD := ⟨at_Bits_select, "select", "Bits.select", defArgs s_Bits_select, defBody s_Bits_select, defScope s_Bits_select, [.int 1], []⟩
abbrev s_Bits_row : Stmt := inClass (top 10) 4
abbrev N_Bits_row : List Str := ["self"]
abbrev ps_Bits_row : List Str := ["self"]
abbrev at_Bits_row : Str × Option Str := ("Bits", some "row")
theorem sc_Bits_row : FnScope N_Bits_row ps_Bits_row (defScope s_Bits_row) := ⟨rfl, rfl, rfl, by decide +kernel, rfl, by decide +kernel, by decide +kernel⟩
def d_Bits_row : He.DefD := ⟨at_Bits_row, "row", "Bits.row", defArgs s_Bits_row, defBody s_Bits_row, defScope s_Bits_row, [], []⟩
abbrev s__places_by_symbol : Stmt := top 13
abbrev N__places_by_symbol : List Str := ["row", "places", "place", "symbol"]
abbrev ps__places_by_symbol : List Str := ["row"]
abbrev at__places_by_symbol : Str × Option Str := ("_places_by_symbol", none)
theorem sc__places_by_symbol : FnScope N__places_by_symbol ps__places_by_symbol (defScope s__places_by_symbol) := ⟨rfl, rfl, rfl, by decide +kernel, rfl, by decide +kernel, by decide +kernel⟩
def d__places_by_symbol : He.DefD := ⟨at__places_by_symbol, "_places_by_symbol", "_places_by_symbol", defArgs s__places_by_symbol, defBody s__places_by_symbol, defScope s__places_by_symbol, [], []⟩
abbrev s_count_below : Stmt := top 14
abbrev N_count_below : List Str := ["places", "limit", "low", "high", "middle"]
abbrev ps_count_below : List Str := ["places", "limit"]
abbrev at_count_below : Str × Option Str := ("count_below", none)
theorem sc_count_below : FnScope N_count_below ps_count_below (defScope s_count_below) := ⟨rfl, rfl, rfl, by decide +kernel, rfl, by decide +kernel, by decide +kernel⟩
def d_count_below : He.DefD := ⟨at_count_below, "count_below", "count_below", defArgs s_count_below, defBody s_count_below, defScope s_count_below, [], []⟩
abbrev s_Wave_init : Stmt := inClass (top 15) 0
abbrev N_Wave_init : List Str := ["self", "row", "size", "place", "symbol"]
abbrev ps_Wave_init : List Str := ["self", "row", "size"]
abbrev at_Wave_init : Str × Option Str := ("Wave", some "__init__")
theorem sc_Wave_init : FnScope N_Wave_init ps_Wave_init (defScope s_Wave_init) := ⟨rfl, rfl, rfl, by decide +kernel, rfl, by decide +kernel, by decide +kernel⟩
def d_Wave_init : He.DefD := ⟨at_Wave_init, "__init__", "Wave.__init__", defArgs s_Wave_init, defBody s_Wave_init, defScope s_Wave_init, [], []⟩
abbrev s_Wave_at : Stmt := inClass (top 15) 1
abbrev N_Wave_at : List Str := ["self", "place"]
abbrev ps_Wave_at : List Str := ["self", "place"]
abbrev at_Wave_at : Str × Option Str := ("Wave", some "at")
theorem sc_Wave_at : FnScope N_Wave_at ps_Wave_at (defScope s_Wave_at) := ⟨rfl, rfl, rfl, by decide +kernel, rfl, by decide +kernel, by decide +kernel⟩
def d_Wave_at : He.DefD := ⟨at_Wave_at, "at", "Wave.at", defArgs s_Wave_at, defBody s_Wave_at, defScope s_Wave_at, [], []⟩
abbrev s_Wave_row : Stmt := inClass (top 15) 2
abbrev N_Wave_row : List Str := ["self"]
abbrev ps_Wave_row : List Str := ["self"]
abbrev at_Wave_row : Str × Option Str := ("Wave", some "row")
theorem sc_Wave_row : FnScope N_Wave_row ps_Wave_row (defScope s_Wave_row) := ⟨rfl, rfl, rfl, by decide +kernel, rfl, by decide +kernel, by decide +kernel⟩
def d_Wave_row : He.DefD := ⟨at_Wave_row, "row", "Wave.row", defArgs s_Wave_row, defBody s_Wave_row, defScope s_Wave_row, [], []⟩
abbrev s_Wave_rank : Stmt := inClass (top 15) 3
abbrev N_Wave_rank : List Str := ["self", "symbol", "i", "places"]
abbrev ps_Wave_rank : List Str := ["self", "symbol", "i"]
abbrev at_Wave_rank : Str × Option Str := ("Wave", some "rank")
theorem sc_Wave_rank : FnScope N_Wave_rank ps_Wave_rank (defScope s_Wave_rank) := ⟨rfl, rfl, rfl, by decide +kernel, rfl, by decide +kernel, by decide +kernel⟩
def d_Wave_rank : He.DefD := ⟨at_Wave_rank, "rank", "Wave.rank", defArgs s_Wave_rank, defBody s_Wave_rank, defScope s_Wave_rank, [], []⟩
abbrev s_Wave_select : Stmt := inClass (top 15) 4
abbrev N_Wave_select : List Str := ["self", "symbol", "k", "places"]
abbrev ps_Wave_select : List Str := ["self", "symbol", "k"]
abbrev at_Wave_select : Str × Option Str := ("Wave", some "select")
theorem sc_Wave_select : FnScope N_Wave_select ps_Wave_select (defScope s_Wave_select) := ⟨rfl, rfl, rfl, by decide +kernel, rfl, by decide +kernel, by decide +kernel⟩
def d_Wave_select : He.DefD := ⟨at_Wave_select, "select", "Wave.select", defArgs s_Wave_select, defBody s_Wave_select, defScope s_Wave_select, [], []⟩
abbrev s_Wave_following : Stmt := inClass (top 15) 5
abbrev N_Wave_following : List Str := ["self", "symbol", "i"]
abbrev ps_Wave_following : List Str := ["self", "symbol", "i"]
abbrev at_Wave_following : Str × Option Str := ("Wave", some "following")
theorem sc_Wave_following : FnScope N_Wave_following ps_Wave_following (defScope s_Wave_following) := ⟨rfl, rfl, rfl, by decide +kernel, rfl, by decide +kernel, by decide +kernel⟩
def d_Wave_following : He.DefD := ⟨at_Wave_following, "following", "Wave.following", defArgs s_Wave_following, defBody s_Wave_following, defScope s_Wave_following, [], []⟩
abbrev s_Wave_present : Stmt := inClass (top 15) 6
abbrev N_Wave_present : List Str := ["self", "first", "behind", "times", "symbol"]
abbrev ps_Wave_present : List Str := ["self", "first", "behind"]
abbrev at_Wave_present : Str × Option Str := ("Wave", some "present")
theorem sc_Wave_present : FnScope N_Wave_present ps_Wave_present (defScope s_Wave_present) := ⟨rfl, rfl, rfl, by decide +kernel, rfl, by decide +kernel, by decide +kernel⟩
def d_Wave_present : He.DefD := ⟨at_Wave_present, "present", "Wave.present", defArgs s_Wave_present, defBody s_Wave_present, defScope s_Wave_present, [], []⟩
abbrev s_Wave__places_of : Stmt := inClass (top 15) 7
abbrev N_Wave__places_of : List Str := ["self", "symbol"]
abbrev ps_Wave__places_of : List Str := ["self", "symbol"]
abbrev at_Wave__places_of : Str × Option Str := ("Wave", some "_places_of")
theorem sc_Wave__places_of : FnScope N_Wave__places_of ps_Wave__places_of (defScope s_Wave__places_of) := ⟨rfl, rfl, rfl, by decide +kernel, rfl, by decide +kernel, by decide +kernel⟩
def d_Wave__places_of : He.DefD := ⟨at_Wave__places_of, "_places_of", "Wave._places_of", defArgs s_Wave__places_of, defBody s_Wave__places_of, defScope s_Wave__places_of, [], []⟩
abbrev s__law_deck : Stmt := top 17
abbrev N__law_deck : List Str := ["script"]
abbrev ps__law_deck : List Str := ["script"]
abbrev at__law_deck : Str × Option Str := ("_law_deck", none)
theorem sc__law_deck : FnScope N__law_deck ps__law_deck (defScope s__law_deck) := ⟨rfl, rfl, rfl, by decide +kernel, rfl, by decide +kernel, by decide +kernel⟩
def d__law_deck : He.DefD := ⟨at__law_deck, "_law_deck", "_law_deck", defArgs s__law_deck, defBody s__law_deck, defScope s__law_deck, [], []⟩
abbrev s__law_draw : Stmt := top 18
abbrev N__law_draw : List Str := ["deck", "most", "cell", "value"]
abbrev ps__law_draw : List Str := ["deck", "most"]
abbrev at__law_draw : Str × Option Str := ("_law_draw", none)
theorem sc__law_draw : FnScope N__law_draw ps__law_draw (defScope s__law_draw) := ⟨rfl, rfl, rfl, by decide +kernel, rfl, by decide +kernel, by decide +kernel⟩
def d__law_draw : He.DefD := ⟨at__law_draw, "_law_draw", "_law_draw", defArgs s__law_draw, defBody s__law_draw, defScope s__law_draw, [], []⟩
abbrev s__law_bits : Stmt := top 19
abbrev N__law_bits : List Str := ["deck", "most", "kind", "row", "k"]
abbrev ps__law_bits : List Str := ["deck", "most"]
abbrev at__law_bits : Str × Option Str := ("_law_bits", none)
theorem sc__law_bits : FnScope N__law_bits ps__law_bits (defScope s__law_bits) := ⟨rfl, rfl, rfl, by decide +kernel, rfl, by decide +kernel, by decide +kernel⟩
def d__law_bits : He.DefD := ⟨at__law_bits, "_law_bits", "_law_bits", defArgs s__law_bits, defBody s__law_bits, defScope s__law_bits, [], []⟩
abbrev s__law_symbols : Stmt := top 20
abbrev N__law_symbols : List Str := ["deck", "size", "most", "few", "kind", "k"]
abbrev ps__law_symbols : List Str := ["deck", "size", "most"]
abbrev at__law_symbols : Str × Option Str := ("_law_symbols", none)
theorem sc__law_symbols : FnScope N__law_symbols ps__law_symbols (defScope s__law_symbols) := ⟨rfl, rfl, rfl, by decide +kernel, rfl, by decide +kernel, by decide +kernel⟩
def d__law_symbols : He.DefD := ⟨at__law_symbols, "_law_symbols", "_law_symbols", defArgs s__law_symbols, defBody s__law_symbols, defScope s__law_symbols, [], []⟩
abbrev s_law : Stmt := top 21
abbrev N_law : List Str := ["script", "deck", "row", "bits", "wave", "last", "i", "k", "size", "symbols", "other", "first", "one", "place", "symbol", "pair"]
abbrev ps_law : List Str := ["script"]
abbrev at_law : Str × Option Str := ("law", none)
theorem sc_law : FnScope N_law ps_law (defScope s_law) := ⟨rfl, rfl, rfl, by decide +kernel, rfl, by decide +kernel, by decide +kernel⟩
def d_law : He.DefD := ⟨at_law, "law", "law", defArgs s_law, defBody s_law, defScope s_law, [], []⟩
def fn : List He.DefD := [d__wall, d_InvalidStretch_init, d_InvalidRow_init, d_InvalidPlace_init, d_InvalidSize_init, d_InvalidSymbol_init, d__running_ones, d_Bits_init, d_Bits_at, d_Bits_rank, d_Bits_select, d_Bits_row, d__places_by_symbol, d_count_below, d_Wave_init, d_Wave_at, d_Wave_row, d_Wave_rank, d_Wave_select, d_Wave_following, d_Wave_present, d_Wave__places_of, d__law_deck, d__law_draw, d__law_bits, d__law_symbols, d_law]
def fa : List He.Fa := [.free "len", .free "range", .free "sum", .free "int", .free "list", .free "enumerate", .free "sorted", .free "ValueError", .glo "TopiaryError", .glo "InvalidStretch", .noat "InvalidStretch" "first", .noat "InvalidStretch" "behind", .glo "InvalidRow", .noat "InvalidRow" "place", .glo "InvalidPlace", .noat "InvalidPlace" "place", .glo "InvalidSize", .noat "InvalidSize" "size", .glo "InvalidSymbol", .noat "InvalidSymbol" "symbol", .glo "Bits", .noat "Bits" "size", .noat "Bits" "ones", .noat "Bits" "_digits", .noat "Bits" "_counts", .noat "Bits" "_places", .cls "Bits", .mkr "Bits", .meth "Bits" "at", .meth "Bits" "rank", .meth "Bits" "select", .meth "Bits" "row", .glo "Wave", .noat "Wave" "size", .noat "Wave" "length", .noat "Wave" "_symbols", .noat "Wave" "_places", .cls "Wave", .mkr "Wave", .meth "Wave" "at", .meth "Wave" "row", .meth "Wave" "rank", .meth "Wave" "select", .meth "Wave" "following", .meth "Wave" "present", .meth "Wave" "_places_of", .int "LARGEST_SIZE" 65536, .glo "_wall", .glo "_running_ones", .glo "_places_by_symbol", .glo "count_below", .glo "_law_deck", .glo "_law_draw", .glo "_law_bits", .glo "_law_symbols", .glo "law"]
def fx : List Fx := [.exc "InvalidStretch", .ini "InvalidStretch", .exc "InvalidRow", .ini "InvalidRow", .exc "InvalidPlace", .ini "InvalidPlace", .exc "InvalidSize", .ini "InvalidSize", .exc "InvalidSymbol", .ini "InvalidSymbol"]
abbrev TX (K : PySem.W.Frag) (mg : Str → Option Value) : Prop := Txt fa fn fx K mg
theorem TX.n_len {K : PySem.W.Frag} {mg : Str → Option Value} (T : TX K mg) : mg "len" = none := T.no 0 _ rfl
theorem TX.n_range {K : PySem.W.Frag} {mg : Str → Option Value} (T : TX K mg) : mg "range" = none := T.no 1 _ rfl
theorem TX.n_sum {K : PySem.W.Frag} {mg : Str → Option Value} (T : TX K mg) : mg "sum" = none := T.no 2 _ rfl
theorem TX.n_int {K : PySem.W.Frag} {mg : Str → Option Value} (T : TX K mg) : mg "int" = none := T.no 3 _ rfl
theorem TX.n_list {K : PySem.W.Frag} {mg : Str → Option Value} (T : TX K mg) : mg "list" = none := T.no 4 _ rfl
theorem TX.n_enumerate {K : PySem.W.Frag} {mg : Str → Option Value} (T : TX K mg) : mg "enumerate" = none := T.no 5 _ rfl
theorem TX.n_sorted {K : PySem.W.Frag} {mg : Str → Option Value} (T : TX K mg) : mg "sorted" = none := T.no 6 _ rfl
theorem TX.n_ValueError {K : PySem.W.Frag} {mg : Str → Option Value} (T : TX K mg) : mg "ValueError" = none := T.no 7 _ rfl
theorem TX.g_TopiaryError {K : PySem.W.Frag} {mg : Str → Option Value} (T : TX K mg) : mg "TopiaryError" = some (.ref (He.ga K "TopiaryError")) := T.gl 8 _ rfl
theorem TX.g_InvalidStretch {K : PySem.W.Frag} {mg : Str → Option Value} (T : TX K mg) : mg "InvalidStretch" = some (.ref (He.ga K "InvalidStretch")) := T.gl 9 _ rfl
theorem TX.na_InvalidStretch_first {K : PySem.W.Frag} {mg : Str → Option Value} (T : TX K mg) : NoAttr K (He.ga K "InvalidStretch") "first" := He.noat_ok (T.f 10 _ rfl)
theorem TX.na_InvalidStretch_behind {K : PySem.W.Frag} {mg : Str → Option Value} (T : TX K mg) : NoAttr K (He.ga K "InvalidStretch") "behind" := He.noat_ok (T.f 11 _ rfl)
theorem TX.ox_InvalidStretch {K : PySem.W.Frag} {mg : Str → Option Value} (T : TX K mg) : OexC K (He.ga K "InvalidStretch") := excB_ok (T.x 0 _ rfl)
theorem TX.oi_InvalidStretch {K : PySem.W.Frag} {mg : Str → Option Value} (T : TX K mg) : PySem.W.findIn K (.ref (He.ga K "InvalidStretch")) "__init__" = some (some (.ref (He.ma K (He.ga K "InvalidStretch") "__init__"))) := (iniB_ok (T.x 1 _ rfl)).1
theorem TX.ot_InvalidStretch {K : PySem.W.Frag} {mg : Str → Option Value} (T : TX K mg) : PySem.W.typeIn K (.ref (He.ma K (He.ga K "InvalidStretch") "__init__")) = some (.type "function") := (iniB_ok (T.x 1 _ rfl)).2
theorem TX.g_InvalidRow {K : PySem.W.Frag} {mg : Str → Option Value} (T : TX K mg) : mg "InvalidRow" = some (.ref (He.ga K "InvalidRow")) := T.gl 12 _ rfl
theorem TX.na_InvalidRow_place {K : PySem.W.Frag} {mg : Str → Option Value} (T : TX K mg) : NoAttr K (He.ga K "InvalidRow") "place" := He.noat_ok (T.f 13 _ rfl)
theorem TX.ox_InvalidRow {K : PySem.W.Frag} {mg : Str → Option Value} (T : TX K mg) : OexC K (He.ga K "InvalidRow") := excB_ok (T.x 2 _ rfl)
theorem TX.oi_InvalidRow {K : PySem.W.Frag} {mg : Str → Option Value} (T : TX K mg) : PySem.W.findIn K (.ref (He.ga K "InvalidRow")) "__init__" = some (some (.ref (He.ma K (He.ga K "InvalidRow") "__init__"))) := (iniB_ok (T.x 3 _ rfl)).1
theorem TX.ot_InvalidRow {K : PySem.W.Frag} {mg : Str → Option Value} (T : TX K mg) : PySem.W.typeIn K (.ref (He.ma K (He.ga K "InvalidRow") "__init__")) = some (.type "function") := (iniB_ok (T.x 3 _ rfl)).2
theorem TX.g_InvalidPlace {K : PySem.W.Frag} {mg : Str → Option Value} (T : TX K mg) : mg "InvalidPlace" = some (.ref (He.ga K "InvalidPlace")) := T.gl 14 _ rfl
theorem TX.na_InvalidPlace_place {K : PySem.W.Frag} {mg : Str → Option Value} (T : TX K mg) : NoAttr K (He.ga K "InvalidPlace") "place" := He.noat_ok (T.f 15 _ rfl)
theorem TX.ox_InvalidPlace {K : PySem.W.Frag} {mg : Str → Option Value} (T : TX K mg) : OexC K (He.ga K "InvalidPlace") := excB_ok (T.x 4 _ rfl)
theorem TX.oi_InvalidPlace {K : PySem.W.Frag} {mg : Str → Option Value} (T : TX K mg) : PySem.W.findIn K (.ref (He.ga K "InvalidPlace")) "__init__" = some (some (.ref (He.ma K (He.ga K "InvalidPlace") "__init__"))) := (iniB_ok (T.x 5 _ rfl)).1
theorem TX.ot_InvalidPlace {K : PySem.W.Frag} {mg : Str → Option Value} (T : TX K mg) : PySem.W.typeIn K (.ref (He.ma K (He.ga K "InvalidPlace") "__init__")) = some (.type "function") := (iniB_ok (T.x 5 _ rfl)).2
theorem TX.g_InvalidSize {K : PySem.W.Frag} {mg : Str → Option Value} (T : TX K mg) : mg "InvalidSize" = some (.ref (He.ga K "InvalidSize")) := T.gl 16 _ rfl
theorem TX.na_InvalidSize_size {K : PySem.W.Frag} {mg : Str → Option Value} (T : TX K mg) : NoAttr K (He.ga K "InvalidSize") "size" := He.noat_ok (T.f 17 _ rfl)
theorem TX.ox_InvalidSize {K : PySem.W.Frag} {mg : Str → Option Value} (T : TX K mg) : OexC K (He.ga K "InvalidSize") := excB_ok (T.x 6 _ rfl)
theorem TX.oi_InvalidSize {K : PySem.W.Frag} {mg : Str → Option Value} (T : TX K mg) : PySem.W.findIn K (.ref (He.ga K "InvalidSize")) "__init__" = some (some (.ref (He.ma K (He.ga K "InvalidSize") "__init__"))) := (iniB_ok (T.x 7 _ rfl)).1
theorem TX.ot_InvalidSize {K : PySem.W.Frag} {mg : Str → Option Value} (T : TX K mg) : PySem.W.typeIn K (.ref (He.ma K (He.ga K "InvalidSize") "__init__")) = some (.type "function") := (iniB_ok (T.x 7 _ rfl)).2
theorem TX.g_InvalidSymbol {K : PySem.W.Frag} {mg : Str → Option Value} (T : TX K mg) : mg "InvalidSymbol" = some (.ref (He.ga K "InvalidSymbol")) := T.gl 18 _ rfl
theorem TX.na_InvalidSymbol_symbol {K : PySem.W.Frag} {mg : Str → Option Value} (T : TX K mg) : NoAttr K (He.ga K "InvalidSymbol") "symbol" := He.noat_ok (T.f 19 _ rfl)
theorem TX.ox_InvalidSymbol {K : PySem.W.Frag} {mg : Str → Option Value} (T : TX K mg) : OexC K (He.ga K "InvalidSymbol") := excB_ok (T.x 8 _ rfl)
theorem TX.oi_InvalidSymbol {K : PySem.W.Frag} {mg : Str → Option Value} (T : TX K mg) : PySem.W.findIn K (.ref (He.ga K "InvalidSymbol")) "__init__" = some (some (.ref (He.ma K (He.ga K "InvalidSymbol") "__init__"))) := (iniB_ok (T.x 9 _ rfl)).1
theorem TX.ot_InvalidSymbol {K : PySem.W.Frag} {mg : Str → Option Value} (T : TX K mg) : PySem.W.typeIn K (.ref (He.ma K (He.ga K "InvalidSymbol") "__init__")) = some (.type "function") := (iniB_ok (T.x 9 _ rfl)).2
theorem TX.g_Bits {K : PySem.W.Frag} {mg : Str → Option Value} (T : TX K mg) : mg "Bits" = some (.ref (He.ga K "Bits")) := T.gl 20 _ rfl
theorem TX.na_Bits_size {K : PySem.W.Frag} {mg : Str → Option Value} (T : TX K mg) : NoAttr K (He.ga K "Bits") "size" := He.noat_ok (T.f 21 _ rfl)
theorem TX.na_Bits_ones {K : PySem.W.Frag} {mg : Str → Option Value} (T : TX K mg) : NoAttr K (He.ga K "Bits") "ones" := He.noat_ok (T.f 22 _ rfl)
theorem TX.na_Bits__digits {K : PySem.W.Frag} {mg : Str → Option Value} (T : TX K mg) : NoAttr K (He.ga K "Bits") "_digits" := He.noat_ok (T.f 23 _ rfl)
theorem TX.na_Bits__counts {K : PySem.W.Frag} {mg : Str → Option Value} (T : TX K mg) : NoAttr K (He.ga K "Bits") "_counts" := He.noat_ok (T.f 24 _ rfl)
theorem TX.na_Bits__places {K : PySem.W.Frag} {mg : Str → Option Value} (T : TX K mg) : NoAttr K (He.ga K "Bits") "_places" := He.noat_ok (T.f 25 _ rfl)
abbrev flds_Bits (a0 a1 a2 a3 a4 : V) : List (Str × V) := [("size", a0), ("ones", a1), ("_digits", a2), ("_counts", a3), ("_places", a4)]
theorem fl_Bits_size (a0 a1 a2 a3 a4 : V) : (flds_Bits a0 a1 a2 a3 a4).lookup ("size" : Str) = some a0 := fld_at (ks := ["size", "ones", "_digits", "_counts", "_places"]) 0 rfl rfl (by decide +kernel)
theorem pf_Bits_ones (a0 x : V) : putF "ones" x ([("size", a0)] : List (Str × V)) = ([("size", a0), ("ones", x)] : List (Str × V)) := putF_app (ks := ["size"]) rfl (by decide +kernel)
theorem fl_Bits_ones (a0 a1 a2 a3 a4 : V) : (flds_Bits a0 a1 a2 a3 a4).lookup ("ones" : Str) = some a1 := fld_at (ks := ["size", "ones", "_digits", "_counts", "_places"]) 1 rfl rfl (by decide +kernel)
theorem pf_Bits__digits (a0 a1 x : V) : putF "_digits" x ([("size", a0), ("ones", a1)] : List (Str × V)) = ([("size", a0), ("ones", a1), ("_digits", x)] : List (Str × V)) := putF_app (ks := ["size", "ones"]) rfl (by decide +kernel)
theorem fl_Bits__digits (a0 a1 a2 a3 a4 : V) : (flds_Bits a0 a1 a2 a3 a4).lookup ("_digits" : Str) = some a2 := fld_at (ks := ["size", "ones", "_digits", "_counts", "_places"]) 2 rfl rfl (by decide +kernel)
theorem pf_Bits__counts (a0 a1 a2 x : V) : putF "_counts" x ([("size", a0), ("ones", a1), ("_digits", a2)] : List (Str × V)) = ([("size", a0), ("ones", a1), ("_digits", a2), ("_counts", x)] : List (Str × V)) := putF_app (ks := ["size", "ones", "_digits"]) rfl (by decide +kernel)
theorem fl_Bits__counts (a0 a1 a2 a3 a4 : V) : (flds_Bits a0 a1 a2 a3 a4).lookup ("_counts" : Str) = some a3 := fld_at (ks := ["size", "ones", "_digits", "_counts", "_places"]) 3 rfl rfl (by decide +kernel)
theorem pf_Bits__places (a0 a1 a2 a3 x : V) : putF "_places" x ([("size", a0), ("ones", a1), ("_digits", a2), ("_counts", a3)] : List (Str × V)) = ([("size", a0), ("ones", a1), ("_digits", a2), ("_counts", a3), ("_places", x)] : List (Str × V)) := putF_app (ks := ["size", "ones", "_digits", "_counts"]) rfl (by decide +kernel)
theorem fl_Bits__places (a0 a1 a2 a3 a4 : V) : (flds_Bits a0 a1 a2 a3 a4).lookup ("_places" : Str) = some a4 := fld_at (ks := ["size", "ones", "_digits", "_counts", "_places"]) 4 rfl rfl (by decide +kernel)
theorem fn_Bits_at (a0 a1 a2 a3 a4 : V) : (flds_Bits a0 a1 a2 a3 a4).lookup ("at" : Str) = none := fld_no (ks := ["size", "ones", "_digits", "_counts", "_places"]) rfl (by decide +kernel)
theorem fn_Bits_rank (a0 a1 a2 a3 a4 : V) : (flds_Bits a0 a1 a2 a3 a4).lookup ("rank" : Str) = none := fld_no (ks := ["size", "ones", "_digits", "_counts", "_places"]) rfl (by decide +kernel)
theorem fn_Bits_select (a0 a1 a2 a3 a4 : V) : (flds_Bits a0 a1 a2 a3 a4).lookup ("select" : Str) = none := fld_no (ks := ["size", "ones", "_digits", "_counts", "_places"]) rfl (by decide +kernel)
theorem fn_Bits_row (a0 a1 a2 a3 a4 : V) : (flds_Bits a0 a1 a2 a3 a4).lookup ("row" : Str) = none := fld_no (ks := ["size", "ones", "_digits", "_counts", "_places"]) rfl (by decide +kernel)
theorem TX.cl_Bits {K : PySem.W.Frag} {mg : Str → Option Value} (T : TX K mg) : Cls K (He.ga K "Bits") := He.cls_ok (T.f 26 _ rfl)
theorem TX.m_Bits {K : PySem.W.Frag} {mg : Str → Option Value} (T : TX K mg) : Mk K (He.ga K "Bits") (He.ma K (He.ga K "Bits") "__init__") := He.mkr_ok (T.f 27 _ rfl)
theorem TX.me_Bits_at {K : PySem.W.Frag} {mg : Str → Option Value} (T : TX K mg) : Meth K (He.ga K "Bits") "at" (He.ma K (He.ga K "Bits") "at") := He.meth_ok (T.f 28 _ rfl)
theorem TX.me_Bits_rank {K : PySem.W.Frag} {mg : Str → Option Value} (T : TX K mg) : Meth K (He.ga K "Bits") "rank" (He.ma K (He.ga K "Bits") "rank") := He.meth_ok (T.f 29 _ rfl)
theorem TX.me_Bits_select {K : PySem.W.Frag} {mg : Str → Option Value} (T : TX K mg) : Meth K (He.ga K "Bits") "select" (He.ma K (He.ga K "Bits") "select") := He.meth_ok (T.f 30 _ rfl)
theorem TX.me_Bits_row {K : PySem.W.Frag} {mg : Str → Option Value} (T : TX K mg) : Meth K (He.ga K "Bits") "row" (He.ma K (He.ga K "Bits") "row") := He.meth_ok (T.f 31 _ rfl)
theorem TX.g_Wave {K : PySem.W.Frag} {mg : Str → Option Value} (T : TX K mg) : mg "Wave" = some (.ref (He.ga K "Wave")) := T.gl 32 _ rfl
theorem TX.na_Wave_size {K : PySem.W.Frag} {mg : Str → Option Value} (T : TX K mg) : NoAttr K (He.ga K "Wave") "size" := He.noat_ok (T.f 33 _ rfl)
theorem TX.na_Wave_length {K : PySem.W.Frag} {mg : Str → Option Value} (T : TX K mg) : NoAttr K (He.ga K "Wave") "length" := He.noat_ok (T.f 34 _ rfl)
theorem TX.na_Wave__symbols {K : PySem.W.Frag} {mg : Str → Option Value} (T : TX K mg) : NoAttr K (He.ga K "Wave") "_symbols" := He.noat_ok (T.f 35 _ rfl)
theorem TX.na_Wave__places {K : PySem.W.Frag} {mg : Str → Option Value} (T : TX K mg) : NoAttr K (He.ga K "Wave") "_places" := He.noat_ok (T.f 36 _ rfl)
abbrev flds_Wave (a0 a1 a2 a3 : V) : List (Str × V) := [("size", a0), ("length", a1), ("_symbols", a2), ("_places", a3)]
theorem fl_Wave_size (a0 a1 a2 a3 : V) : (flds_Wave a0 a1 a2 a3).lookup ("size" : Str) = some a0 := fld_at (ks := ["size", "length", "_symbols", "_places"]) 0 rfl rfl (by decide +kernel)
theorem pf_Wave_length (a0 x : V) : putF "length" x ([("size", a0)] : List (Str × V)) = ([("size", a0), ("length", x)] : List (Str × V)) := putF_app (ks := ["size"]) rfl (by decide +kernel)
theorem fl_Wave_length (a0 a1 a2 a3 : V) : (flds_Wave a0 a1 a2 a3).lookup ("length" : Str) = some a1 := fld_at (ks := ["size", "length", "_symbols", "_places"]) 1 rfl rfl (by decide +kernel)
theorem pf_Wave__symbols (a0 a1 x : V) : putF "_symbols" x ([("size", a0), ("length", a1)] : List (Str × V)) = ([("size", a0), ("length", a1), ("_symbols", x)] : List (Str × V)) := putF_app (ks := ["size", "length"]) rfl (by decide +kernel)
theorem fl_Wave__symbols (a0 a1 a2 a3 : V) : (flds_Wave a0 a1 a2 a3).lookup ("_symbols" : Str) = some a2 := fld_at (ks := ["size", "length", "_symbols", "_places"]) 2 rfl rfl (by decide +kernel)
theorem pf_Wave__places (a0 a1 a2 x : V) : putF "_places" x ([("size", a0), ("length", a1), ("_symbols", a2)] : List (Str × V)) = ([("size", a0), ("length", a1), ("_symbols", a2), ("_places", x)] : List (Str × V)) := putF_app (ks := ["size", "length", "_symbols"]) rfl (by decide +kernel)
theorem fl_Wave__places (a0 a1 a2 a3 : V) : (flds_Wave a0 a1 a2 a3).lookup ("_places" : Str) = some a3 := fld_at (ks := ["size", "length", "_symbols", "_places"]) 3 rfl rfl (by decide +kernel)
theorem fn_Wave_at (a0 a1 a2 a3 : V) : (flds_Wave a0 a1 a2 a3).lookup ("at" : Str) = none := fld_no (ks := ["size", "length", "_symbols", "_places"]) rfl (by decide +kernel)
theorem fn_Wave_row (a0 a1 a2 a3 : V) : (flds_Wave a0 a1 a2 a3).lookup ("row" : Str) = none := fld_no (ks := ["size", "length", "_symbols", "_places"]) rfl (by decide +kernel)
theorem fn_Wave_rank (a0 a1 a2 a3 : V) : (flds_Wave a0 a1 a2 a3).lookup ("rank" : Str) = none := fld_no (ks := ["size", "length", "_symbols", "_places"]) rfl (by decide +kernel)
theorem fn_Wave_select (a0 a1 a2 a3 : V) : (flds_Wave a0 a1 a2 a3).lookup ("select" : Str) = none := fld_no (ks := ["size", "length", "_symbols", "_places"]) rfl (by decide +kernel)
theorem fn_Wave_following (a0 a1 a2 a3 : V) : (flds_Wave a0 a1 a2 a3).lookup ("following" : Str) = none := fld_no (ks := ["size", "length", "_symbols", "_places"]) rfl (by decide +kernel)
theorem fn_Wave_present (a0 a1 a2 a3 : V) : (flds_Wave a0 a1 a2 a3).lookup ("present" : Str) = none := fld_no (ks := ["size", "length", "_symbols", "_places"]) rfl (by decide +kernel)
theorem fn_Wave__places_of (a0 a1 a2 a3 : V) : (flds_Wave a0 a1 a2 a3).lookup ("_places_of" : Str) = none := fld_no (ks := ["size", "length", "_symbols", "_places"]) rfl (by decide +kernel)
theorem TX.cl_Wave {K : PySem.W.Frag} {mg : Str → Option Value} (T : TX K mg) : Cls K (He.ga K "Wave") := He.cls_ok (T.f 37 _ rfl)
theorem TX.m_Wave {K : PySem.W.Frag} {mg : Str → Option Value} (T : TX K mg) : Mk K (He.ga K "Wave") (He.ma K (He.ga K "Wave") "__init__") := He.mkr_ok (T.f 38 _ rfl)
theorem TX.me_Wave_at {K : PySem.W.Frag} {mg : Str → Option Value} (T : TX K mg) : Meth K (He.ga K "Wave") "at" (He.ma K (He.ga K "Wave") "at") := He.meth_ok (T.f 39 _ rfl)
theorem TX.me_Wave_row {K : PySem.W.Frag} {mg : Str → Option Value} (T : TX K mg) : Meth K (He.ga K "Wave") "row" (He.ma K (He.ga K "Wave") "row") := He.meth_ok (T.f 40 _ rfl)
theorem TX.me_Wave_rank {K : PySem.W.Frag} {mg : Str → Option Value} (T : TX K mg) : Meth K (He.ga K "Wave") "rank" (He.ma K (He.ga K "Wave") "rank") := He.meth_ok (T.f 41 _ rfl)
theorem TX.me_Wave_select {K : PySem.W.Frag} {mg : Str → Option Value} (T : TX K mg) : Meth K (He.ga K "Wave") "select" (He.ma K (He.ga K "Wave") "select") := He.meth_ok (T.f 42 _ rfl)
theorem TX.me_Wave_following {K : PySem.W.Frag} {mg : Str → Option Value} (T : TX K mg) : Meth K (He.ga K "Wave") "following" (He.ma K (He.ga K "Wave") "following") := He.meth_ok (T.f 43 _ rfl)
theorem TX.me_Wave_present {K : PySem.W.Frag} {mg : Str → Option Value} (T : TX K mg) : Meth K (He.ga K "Wave") "present" (He.ma K (He.ga K "Wave") "present") := He.meth_ok (T.f 44 _ rfl)
theorem TX.me_Wave__places_of {K : PySem.W.Frag} {mg : Str → Option Value} (T : TX K mg) : Meth K (He.ga K "Wave") "_places_of" (He.ma K (He.ga K "Wave") "_places_of") := He.meth_ok (T.f 45 _ rfl)
theorem TX.c_LARGEST_SIZE {K : PySem.W.Frag} {mg : Str → Option Value} (T : TX K mg) : ∃ t, mg "LARGEST_SIZE" = some (.int 65536 t) := T.int 46 _ _ rfl
theorem TX.g__wall {K : PySem.W.Frag} {mg : Str → Option Value} (T : TX K mg) : mg "_wall" = some (.ref (He.ga K "_wall")) := T.gl 47 _ rfl
theorem TX.k__wall {K : PySem.W.Frag} {mg : Str → Option Value} (T : TX K mg) : PySem.W.keepIn K (.ref (He.fAd K at__wall)) = true := (T.d 0 _ rfl).choose_spec.kp
theorem TX.k_InvalidStretch_init {K : PySem.W.Frag} {mg : Str → Option Value} (T : TX K mg) : PySem.W.keepIn K (.ref (He.fAd K at_InvalidStretch_init)) = true := (T.d 1 _ rfl).choose_spec.kp
theorem TX.k_InvalidRow_init {K : PySem.W.Frag} {mg : Str → Option Value} (T : TX K mg) : PySem.W.keepIn K (.ref (He.fAd K at_InvalidRow_init)) = true := (T.d 2 _ rfl).choose_spec.kp
theorem TX.k_InvalidPlace_init {K : PySem.W.Frag} {mg : Str → Option Value} (T : TX K mg) : PySem.W.keepIn K (.ref (He.fAd K at_InvalidPlace_init)) = true := (T.d 3 _ rfl).choose_spec.kp
theorem TX.k_InvalidSize_init {K : PySem.W.Frag} {mg : Str → Option Value} (T : TX K mg) : PySem.W.keepIn K (.ref (He.fAd K at_InvalidSize_init)) = true := (T.d 4 _ rfl).choose_spec.kp
theorem TX.k_InvalidSymbol_init {K : PySem.W.Frag} {mg : Str → Option Value} (T : TX K mg) : PySem.W.keepIn K (.ref (He.fAd K at_InvalidSymbol_init)) = true := (T.d 5 _ rfl).choose_spec.kp
theorem TX.g__running_ones {K : PySem.W.Frag} {mg : Str → Option Value} (T : TX K mg) : mg "_running_ones" = some (.ref (He.ga K "_running_ones")) := T.gl 48 _ rfl
theorem TX.k__running_ones {K : PySem.W.Frag} {mg : Str → Option Value} (T : TX K mg) : PySem.W.keepIn K (.ref (He.fAd K at__running_ones)) = true := (T.d 6 _ rfl).choose_spec.kp
theorem TX.k_Bits_init {K : PySem.W.Frag} {mg : Str → Option Value} (T : TX K mg) : PySem.W.keepIn K (.ref (He.fAd K at_Bits_init)) = true := (T.d 7 _ rfl).choose_spec.kp
theorem TX.k_Bits_at {K : PySem.W.Frag} {mg : Str → Option Value} (T : TX K mg) : PySem.W.keepIn K (.ref (He.fAd K at_Bits_at)) = true := (T.d 8 _ rfl).choose_spec.kp
theorem TX.k_Bits_rank {K : PySem.W.Frag} {mg : Str → Option Value} (T : TX K mg) : PySem.W.keepIn K (.ref (He.fAd K at_Bits_rank)) = true := (T.d 9 _ rfl).choose_spec.kp
theorem TX.k_Bits_select {K : PySem.W.Frag} {mg : Str → Option Value} (T : TX K mg) : PySem.W.keepIn K (.ref (He.fAd K at_Bits_select)) = true := (T.d 10 _ rfl).choose_spec.kp
theorem TX.k_Bits_row {K : PySem.W.Frag} {mg : Str → Option Value} (T : TX K mg) : PySem.W.keepIn K (.ref (He.fAd K at_Bits_row)) = true := (T.d 11 _ rfl).choose_spec.kp
theorem TX.g__places_by_symbol {K : PySem.W.Frag} {mg : Str → Option Value} (T : TX K mg) : mg "_places_by_symbol" = some (.ref (He.ga K "_places_by_symbol")) := T.gl 49 _ rfl
theorem TX.k__places_by_symbol {K : PySem.W.Frag} {mg : Str → Option Value} (T : TX K mg) : PySem.W.keepIn K (.ref (He.fAd K at__places_by_symbol)) = true := (T.d 12 _ rfl).choose_spec.kp
theorem TX.g_count_below {K : PySem.W.Frag} {mg : Str → Option Value} (T : TX K mg) : mg "count_below" = some (.ref (He.ga K "count_below")) := T.gl 50 _ rfl
theorem TX.k_count_below {K : PySem.W.Frag} {mg : Str → Option Value} (T : TX K mg) : PySem.W.keepIn K (.ref (He.fAd K at_count_below)) = true := (T.d 13 _ rfl).choose_spec.kp
theorem TX.k_Wave_init {K : PySem.W.Frag} {mg : Str → Option Value} (T : TX K mg) : PySem.W.keepIn K (.ref (He.fAd K at_Wave_init)) = true := (T.d 14 _ rfl).choose_spec.kp
theorem TX.k_Wave_at {K : PySem.W.Frag} {mg : Str → Option Value} (T : TX K mg) : PySem.W.keepIn K (.ref (He.fAd K at_Wave_at)) = true := (T.d 15 _ rfl).choose_spec.kp
theorem TX.k_Wave_row {K : PySem.W.Frag} {mg : Str → Option Value} (T : TX K mg) : PySem.W.keepIn K (.ref (He.fAd K at_Wave_row)) = true := (T.d 16 _ rfl).choose_spec.kp
theorem TX.k_Wave_rank {K : PySem.W.Frag} {mg : Str → Option Value} (T : TX K mg) : PySem.W.keepIn K (.ref (He.fAd K at_Wave_rank)) = true := (T.d 17 _ rfl).choose_spec.kp
theorem TX.k_Wave_select {K : PySem.W.Frag} {mg : Str → Option Value} (T : TX K mg) : PySem.W.keepIn K (.ref (He.fAd K at_Wave_select)) = true := (T.d 18 _ rfl).choose_spec.kp
theorem TX.k_Wave_following {K : PySem.W.Frag} {mg : Str → Option Value} (T : TX K mg) : PySem.W.keepIn K (.ref (He.fAd K at_Wave_following)) = true := (T.d 19 _ rfl).choose_spec.kp
theorem TX.k_Wave_present {K : PySem.W.Frag} {mg : Str → Option Value} (T : TX K mg) : PySem.W.keepIn K (.ref (He.fAd K at_Wave_present)) = true := (T.d 20 _ rfl).choose_spec.kp
theorem TX.k_Wave__places_of {K : PySem.W.Frag} {mg : Str → Option Value} (T : TX K mg) : PySem.W.keepIn K (.ref (He.fAd K at_Wave__places_of)) = true := (T.d 21 _ rfl).choose_spec.kp
theorem TX.g__law_deck {K : PySem.W.Frag} {mg : Str → Option Value} (T : TX K mg) : mg "_law_deck" = some (.ref (He.ga K "_law_deck")) := T.gl 51 _ rfl
theorem TX.k__law_deck {K : PySem.W.Frag} {mg : Str → Option Value} (T : TX K mg) : PySem.W.keepIn K (.ref (He.fAd K at__law_deck)) = true := (T.d 22 _ rfl).choose_spec.kp
theorem TX.g__law_draw {K : PySem.W.Frag} {mg : Str → Option Value} (T : TX K mg) : mg "_law_draw" = some (.ref (He.ga K "_law_draw")) := T.gl 52 _ rfl
theorem TX.k__law_draw {K : PySem.W.Frag} {mg : Str → Option Value} (T : TX K mg) : PySem.W.keepIn K (.ref (He.fAd K at__law_draw)) = true := (T.d 23 _ rfl).choose_spec.kp
theorem TX.g__law_bits {K : PySem.W.Frag} {mg : Str → Option Value} (T : TX K mg) : mg "_law_bits" = some (.ref (He.ga K "_law_bits")) := T.gl 53 _ rfl
theorem TX.k__law_bits {K : PySem.W.Frag} {mg : Str → Option Value} (T : TX K mg) : PySem.W.keepIn K (.ref (He.fAd K at__law_bits)) = true := (T.d 24 _ rfl).choose_spec.kp
theorem TX.g__law_symbols {K : PySem.W.Frag} {mg : Str → Option Value} (T : TX K mg) : mg "_law_symbols" = some (.ref (He.ga K "_law_symbols")) := T.gl 54 _ rfl
theorem TX.k__law_symbols {K : PySem.W.Frag} {mg : Str → Option Value} (T : TX K mg) : PySem.W.keepIn K (.ref (He.fAd K at__law_symbols)) = true := (T.d 25 _ rfl).choose_spec.kp
theorem TX.g_law {K : PySem.W.Frag} {mg : Str → Option Value} (T : TX K mg) : mg "law" = some (.ref (He.ga K "law")) := T.gl 55 _ rfl
theorem TX.k_law {K : PySem.W.Frag} {mg : Str → Option Value} (T : TX K mg) : PySem.W.keepIn K (.ref (He.fAd K at_law)) = true := (T.d 26 _ rfl).choose_spec.kp
theorem mk__wall {P : Program} {w : World} {K : PySem.W.Frag} {mg : Str → Option Value} {base : Heap} {CX : CXT} {k : Nat} {sp : Sp} (T : TX K mg) (h : ∀ fd, FunD K "_wall" "_wall" (defArgs s__wall) (defBody s__wall) (defScope s__wall) [] [] (He.fAd K at__wall) fd → FnOk P w K mg base CX k (He.fAd K at__wall) fd ps__wall sp) :
    Can P w K mg base CX k (He.fAd K at__wall) ps__wall [] sp := by
  obtain ⟨fd, F⟩ := T.d 0 _ rfl
  exact ⟨fd, h fd F, [], .nil, FunD.bindsN F fun _ _ _ _ _ _ us hl => match us, hl with | [_], _ => rfl⟩
theorem mk_InvalidStretch_init {P : Program} {w : World} {K : PySem.W.Frag} {mg : Str → Option Value} {base : Heap} {CX : CXT} {k : Nat} {sp : Sp} (T : TX K mg) (h : ∀ fd, FunD K "__init__" "InvalidStretch.__init__" (defArgs s_InvalidStretch_init) (defBody s_InvalidStretch_init) (defScope s_InvalidStretch_init) [] [] (He.fAd K at_InvalidStretch_init) fd → FnOk P w K mg base CX k (He.fAd K at_InvalidStretch_init) fd ps_InvalidStretch_init sp) :
    Can P w K mg base CX k (He.fAd K at_InvalidStretch_init) ps_InvalidStretch_init [] sp := by
  obtain ⟨fd, F⟩ := T.d 1 _ rfl
  exact ⟨fd, h fd F, [], .nil, FunD.bindsN F fun _ _ _ _ _ _ us hl => match us, hl with | [_, _, _], _ => rfl⟩
theorem mk_InvalidRow_init {P : Program} {w : World} {K : PySem.W.Frag} {mg : Str → Option Value} {base : Heap} {CX : CXT} {k : Nat} {sp : Sp} (T : TX K mg) (h : ∀ fd, FunD K "__init__" "InvalidRow.__init__" (defArgs s_InvalidRow_init) (defBody s_InvalidRow_init) (defScope s_InvalidRow_init) [] [] (He.fAd K at_InvalidRow_init) fd → FnOk P w K mg base CX k (He.fAd K at_InvalidRow_init) fd ps_InvalidRow_init sp) :
    Can P w K mg base CX k (He.fAd K at_InvalidRow_init) ps_InvalidRow_init [] sp := by
  obtain ⟨fd, F⟩ := T.d 2 _ rfl
  exact ⟨fd, h fd F, [], .nil, FunD.bindsN F fun _ _ _ _ _ _ us hl => match us, hl with | [_, _], _ => rfl⟩
theorem mk_InvalidPlace_init {P : Program} {w : World} {K : PySem.W.Frag} {mg : Str → Option Value} {base : Heap} {CX : CXT} {k : Nat} {sp : Sp} (T : TX K mg) (h : ∀ fd, FunD K "__init__" "InvalidPlace.__init__" (defArgs s_InvalidPlace_init) (defBody s_InvalidPlace_init) (defScope s_InvalidPlace_init) [] [] (He.fAd K at_InvalidPlace_init) fd → FnOk P w K mg base CX k (He.fAd K at_InvalidPlace_init) fd ps_InvalidPlace_init sp) :
    Can P w K mg base CX k (He.fAd K at_InvalidPlace_init) ps_InvalidPlace_init [] sp := by
  obtain ⟨fd, F⟩ := T.d 3 _ rfl
  exact ⟨fd, h fd F, [], .nil, FunD.bindsN F fun _ _ _ _ _ _ us hl => match us, hl with | [_, _], _ => rfl⟩
theorem mk_InvalidSize_init {P : Program} {w : World} {K : PySem.W.Frag} {mg : Str → Option Value} {base : Heap} {CX : CXT} {k : Nat} {sp : Sp} (T : TX K mg) (h : ∀ fd, FunD K "__init__" "InvalidSize.__init__" (defArgs s_InvalidSize_init) (defBody s_InvalidSize_init) (defScope s_InvalidSize_init) [] [] (He.fAd K at_InvalidSize_init) fd → FnOk P w K mg base CX k (He.fAd K at_InvalidSize_init) fd ps_InvalidSize_init sp) :
    Can P w K mg base CX k (He.fAd K at_InvalidSize_init) ps_InvalidSize_init [] sp := by
  obtain ⟨fd, F⟩ := T.d 4 _ rfl
  exact ⟨fd, h fd F, [], .nil, FunD.bindsN F fun _ _ _ _ _ _ us hl => match us, hl with | [_, _], _ => rfl⟩
theorem mk_InvalidSymbol_init {P : Program} {w : World} {K : PySem.W.Frag} {mg : Str → Option Value} {base : Heap} {CX : CXT} {k : Nat} {sp : Sp} (T : TX K mg) (h : ∀ fd, FunD K "__init__" "InvalidSymbol.__init__" (defArgs s_InvalidSymbol_init) (defBody s_InvalidSymbol_init) (defScope s_InvalidSymbol_init) [] [] (He.fAd K at_InvalidSymbol_init) fd → FnOk P w K mg base CX k (He.fAd K at_InvalidSymbol_init) fd ps_InvalidSymbol_init sp) :
    Can P w K mg base CX k (He.fAd K at_InvalidSymbol_init) ps_InvalidSymbol_init [] sp := by
  obtain ⟨fd, F⟩ := T.d 5 _ rfl
  exact ⟨fd, h fd F, [], .nil, FunD.bindsN F fun _ _ _ _ _ _ us hl => match us, hl with | [_, _], _ => rfl⟩
theorem mk__running_ones {P : Program} {w : World} {K : PySem.W.Frag} {mg : Str → Option Value} {base : Heap} {CX : CXT} {k : Nat} {sp : Sp} (T : TX K mg) (h : ∀ fd, FunD K "_running_ones" "_running_ones" (defArgs s__running_ones) (defBody s__running_ones) (defScope s__running_ones) [] [] (He.fAd K at__running_ones) fd → FnOk P w K mg base CX k (He.fAd K at__running_ones) fd ps__running_ones sp) :
    Can P w K mg base CX k (He.fAd K at__running_ones) ps__running_ones [] sp := by
  obtain ⟨fd, F⟩ := T.d 6 _ rfl
  exact ⟨fd, h fd F, [], .nil, FunD.bindsN F fun _ _ _ _ _ _ us hl => match us, hl with | [_], _ => rfl⟩
theorem mk_Bits_init {P : Program} {w : World} {K : PySem.W.Frag} {mg : Str → Option Value} {base : Heap} {CX : CXT} {k : Nat} {sp : Sp} (T : TX K mg) (h : ∀ fd, FunD K "__init__" "Bits.__init__" (defArgs s_Bits_init) (defBody s_Bits_init) (defScope s_Bits_init) [] [] (He.fAd K at_Bits_init) fd → FnOk P w K mg base CX k (He.fAd K at_Bits_init) fd ps_Bits_init sp) :
    Can P w K mg base CX k (He.fAd K at_Bits_init) ps_Bits_init [] sp := by
  obtain ⟨fd, F⟩ := T.d 7 _ rfl
  exact ⟨fd, h fd F, [], .nil, FunD.bindsN F fun _ _ _ _ _ _ us hl => match us, hl with | [_, _], _ => rfl⟩
theorem mk_Bits_at {P : Program} {w : World} {K : PySem.W.Frag} {mg : Str → Option Value} {base : Heap} {CX : CXT} {k : Nat} {sp : Sp} (T : TX K mg) (h : ∀ fd, FunD K "at" "Bits.at" (defArgs s_Bits_at) (defBody s_Bits_at) (defScope s_Bits_at) [] [] (He.fAd K at_Bits_at) fd → FnOk P w K mg base CX k (He.fAd K at_Bits_at) fd ps_Bits_at sp) :
    Can P w K mg base CX k (He.fAd K at_Bits_at) ps_Bits_at [] sp := by
  obtain ⟨fd, F⟩ := T.d 8 _ rfl
  exact ⟨fd, h fd F, [], .nil, FunD.bindsN F fun _ _ _ _ _ _ us hl => match us, hl with | [_, _], _ => rfl⟩
theorem mk_Bits_rank_1 {P : Program} {w : World} {K : PySem.W.Frag} {mg : Str → Option Value} {base : Heap} {CX : CXT} {k : Nat} {sp : Sp} (T : TX K mg) (h : ∀ fd, FunD K "rank" "Bits.rank" (defArgs s_Bits_rank) (defBody s_Bits_rank) (defScope s_Bits_rank) [V.int 1] [] (He.fAd K at_Bits_rank) fd → FnOk P w K mg base CX k (He.fAd K at_Bits_rank) fd ps_Bits_rank sp) :
    Can P w K mg base CX k (He.fAd K at_Bits_rank) ps_Bits_rank [V.int 1] sp := by
  obtain ⟨fd, F⟩ := T.d 9 _ rfl
  exact ⟨fd, h fd F, FunD.binds1 F 2 0 (by intro z; cases z) rfl fun _ _ _ _ _ _ _ us its hl hi => match us, hl, its, hi with | [_, _], _, [_], _ => ⟨_, rfl, rfl⟩⟩
theorem mk_Bits_rank {P : Program} {w : World} {K : PySem.W.Frag} {mg : Str → Option Value} {base : Heap} {CX : CXT} {k : Nat} {sp : Sp} (T : TX K mg) (h : ∀ fd, FunD K "rank" "Bits.rank" (defArgs s_Bits_rank) (defBody s_Bits_rank) (defScope s_Bits_rank) [V.int 1] [] (He.fAd K at_Bits_rank) fd → FnOk P w K mg base CX k (He.fAd K at_Bits_rank) fd ps_Bits_rank sp) :
    Can P w K mg base CX k (He.fAd K at_Bits_rank) ps_Bits_rank [] sp := by
  obtain ⟨fd, F⟩ := T.d 9 _ rfl
  exact ⟨fd, h fd F, FunD.binds1 F 3 1 (by intro z; cases z) rfl fun _ _ _ _ _ _ _ us its hl hi => match us, hl, its, hi with | [_, _, _], _, [_], _ => ⟨_, rfl, rfl⟩⟩
theorem mk_Bits_select_1 {P : Program} {w : World} {K : PySem.W.Frag} {mg : Str → Option Value} {base : Heap} {CX : CXT} {k : Nat} {sp : Sp} (T : TX K mg) (h : ∀ fd, FunD K "select" "Bits.select" (defArgs s_Bits_select) (defBody s_Bits_select) (defScope s_Bits_select) [V.int 1] [] (He.fAd K at_Bits_select) fd → FnOk P w K mg base CX k (He.fAd K at_Bits_select) fd ps_Bits_select sp) :
    Can P w K mg base CX k (He.fAd K at_Bits_select) ps_Bits_select [V.int 1] sp := by
  obtain ⟨fd, F⟩ := T.d 10 _ rfl
  exact ⟨fd, h fd F, FunD.binds1 F 2 0 (by intro z; cases z) rfl fun _ _ _ _ _ _ _ us its hl hi => match us, hl, its, hi with | [_, _], _, [_], _ => ⟨_, rfl, rfl⟩⟩
theorem mk_Bits_select {P : Program} {w : World} {K : PySem.W.Frag} {mg : Str → Option Value} {base : Heap} {CX : CXT} {k : Nat} {sp : Sp} (T : TX K mg) (h : ∀ fd, FunD K "select" "Bits.select" (defArgs s_Bits_select) (defBody s_Bits_select) (defScope s_Bits_select) [V.int 1] [] (He.fAd K at_Bits_select) fd → FnOk P w K mg base CX k (He.fAd K at_Bits_select) fd ps_Bits_select sp) :
    Can P w K mg base CX k (He.fAd K at_Bits_select) ps_Bits_select [] sp := by
  obtain ⟨fd, F⟩ := T.d 10 _ rfl
  exact ⟨fd, h fd F, FunD.binds1 F 3 1 (by intro z; cases z) rfl fun _ _ _ _ _ _ _ us its hl hi => match us, hl, its, hi with | [_, _, _], _, [_], _ => ⟨_, rfl, rfl⟩⟩
theorem mk_Bits_row {P : Program} {w : World} {K : PySem.W.Frag} {mg : Str → Option Value} {base : Heap} {CX : CXT} {k : Nat} {sp : Sp} (T : TX K mg) (h : ∀ fd, FunD K "row" "Bits.row" (defArgs s_Bits_row) (defBody s_Bits_row) (defScope s_Bits_row) [] [] (He.fAd K at_Bits_row) fd → FnOk P w K mg base CX k (He.fAd K at_Bits_row) fd ps_Bits_row sp) :
    Can P w K mg base CX k (He.fAd K at_Bits_row) ps_Bits_row [] sp := by
  obtain ⟨fd, F⟩ := T.d 11 _ rfl
  exact ⟨fd, h fd F, [], .nil, FunD.bindsN F fun _ _ _ _ _ _ us hl => match us, hl with | [_], _ => rfl⟩
theorem mk__places_by_symbol {P : Program} {w : World} {K : PySem.W.Frag} {mg : Str → Option Value} {base : Heap} {CX : CXT} {k : Nat} {sp : Sp} (T : TX K mg) (h : ∀ fd, FunD K "_places_by_symbol" "_places_by_symbol" (defArgs s__places_by_symbol) (defBody s__places_by_symbol) (defScope s__places_by_symbol) [] [] (He.fAd K at__places_by_symbol) fd → FnOk P w K mg base CX k (He.fAd K at__places_by_symbol) fd ps__places_by_symbol sp) :
    Can P w K mg base CX k (He.fAd K at__places_by_symbol) ps__places_by_symbol [] sp := by
  obtain ⟨fd, F⟩ := T.d 12 _ rfl
  exact ⟨fd, h fd F, [], .nil, FunD.bindsN F fun _ _ _ _ _ _ us hl => match us, hl with | [_], _ => rfl⟩
theorem mk_count_below {P : Program} {w : World} {K : PySem.W.Frag} {mg : Str → Option Value} {base : Heap} {CX : CXT} {k : Nat} {sp : Sp} (T : TX K mg) (h : ∀ fd, FunD K "count_below" "count_below" (defArgs s_count_below) (defBody s_count_below) (defScope s_count_below) [] [] (He.fAd K at_count_below) fd → FnOk P w K mg base CX k (He.fAd K at_count_below) fd ps_count_below sp) :
    Can P w K mg base CX k (He.fAd K at_count_below) ps_count_below [] sp := by
  obtain ⟨fd, F⟩ := T.d 13 _ rfl
  exact ⟨fd, h fd F, [], .nil, FunD.bindsN F fun _ _ _ _ _ _ us hl => match us, hl with | [_, _], _ => rfl⟩
theorem mk_Wave_init {P : Program} {w : World} {K : PySem.W.Frag} {mg : Str → Option Value} {base : Heap} {CX : CXT} {k : Nat} {sp : Sp} (T : TX K mg) (h : ∀ fd, FunD K "__init__" "Wave.__init__" (defArgs s_Wave_init) (defBody s_Wave_init) (defScope s_Wave_init) [] [] (He.fAd K at_Wave_init) fd → FnOk P w K mg base CX k (He.fAd K at_Wave_init) fd ps_Wave_init sp) :
    Can P w K mg base CX k (He.fAd K at_Wave_init) ps_Wave_init [] sp := by
  obtain ⟨fd, F⟩ := T.d 14 _ rfl
  exact ⟨fd, h fd F, [], .nil, FunD.bindsN F fun _ _ _ _ _ _ us hl => match us, hl with | [_, _, _], _ => rfl⟩
theorem mk_Wave_at {P : Program} {w : World} {K : PySem.W.Frag} {mg : Str → Option Value} {base : Heap} {CX : CXT} {k : Nat} {sp : Sp} (T : TX K mg) (h : ∀ fd, FunD K "at" "Wave.at" (defArgs s_Wave_at) (defBody s_Wave_at) (defScope s_Wave_at) [] [] (He.fAd K at_Wave_at) fd → FnOk P w K mg base CX k (He.fAd K at_Wave_at) fd ps_Wave_at sp) :
    Can P w K mg base CX k (He.fAd K at_Wave_at) ps_Wave_at [] sp := by
  obtain ⟨fd, F⟩ := T.d 15 _ rfl
  exact ⟨fd, h fd F, [], .nil, FunD.bindsN F fun _ _ _ _ _ _ us hl => match us, hl with | [_, _], _ => rfl⟩
theorem mk_Wave_row {P : Program} {w : World} {K : PySem.W.Frag} {mg : Str → Option Value} {base : Heap} {CX : CXT} {k : Nat} {sp : Sp} (T : TX K mg) (h : ∀ fd, FunD K "row" "Wave.row" (defArgs s_Wave_row) (defBody s_Wave_row) (defScope s_Wave_row) [] [] (He.fAd K at_Wave_row) fd → FnOk P w K mg base CX k (He.fAd K at_Wave_row) fd ps_Wave_row sp) :
    Can P w K mg base CX k (He.fAd K at_Wave_row) ps_Wave_row [] sp := by
  obtain ⟨fd, F⟩ := T.d 16 _ rfl
  exact ⟨fd, h fd F, [], .nil, FunD.bindsN F fun _ _ _ _ _ _ us hl => match us, hl with | [_], _ => rfl⟩
theorem mk_Wave_rank {P : Program} {w : World} {K : PySem.W.Frag} {mg : Str → Option Value} {base : Heap} {CX : CXT} {k : Nat} {sp : Sp} (T : TX K mg) (h : ∀ fd, FunD K "rank" "Wave.rank" (defArgs s_Wave_rank) (defBody s_Wave_rank) (defScope s_Wave_rank) [] [] (He.fAd K at_Wave_rank) fd → FnOk P w K mg base CX k (He.fAd K at_Wave_rank) fd ps_Wave_rank sp) :
    Can P w K mg base CX k (He.fAd K at_Wave_rank) ps_Wave_rank [] sp := by
  obtain ⟨fd, F⟩ := T.d 17 _ rfl
  exact ⟨fd, h fd F, [], .nil, FunD.bindsN F fun _ _ _ _ _ _ us hl => match us, hl with | [_, _, _], _ => rfl⟩
theorem mk_Wave_select {P : Program} {w : World} {K : PySem.W.Frag} {mg : Str → Option Value} {base : Heap} {CX : CXT} {k : Nat} {sp : Sp} (T : TX K mg) (h : ∀ fd, FunD K "select" "Wave.select" (defArgs s_Wave_select) (defBody s_Wave_select) (defScope s_Wave_select) [] [] (He.fAd K at_Wave_select) fd → FnOk P w K mg base CX k (He.fAd K at_Wave_select) fd ps_Wave_select sp) :
    Can P w K mg base CX k (He.fAd K at_Wave_select) ps_Wave_select [] sp := by
  obtain ⟨fd, F⟩ := T.d 18 _ rfl
  exact ⟨fd, h fd F, [], .nil, FunD.bindsN F fun _ _ _ _ _ _ us hl => match us, hl with | [_, _, _], _ => rfl⟩
theorem mk_Wave_following {P : Program} {w : World} {K : PySem.W.Frag} {mg : Str → Option Value} {base : Heap} {CX : CXT} {k : Nat} {sp : Sp} (T : TX K mg) (h : ∀ fd, FunD K "following" "Wave.following" (defArgs s_Wave_following) (defBody s_Wave_following) (defScope s_Wave_following) [] [] (He.fAd K at_Wave_following) fd → FnOk P w K mg base CX k (He.fAd K at_Wave_following) fd ps_Wave_following sp) :
    Can P w K mg base CX k (He.fAd K at_Wave_following) ps_Wave_following [] sp := by
  obtain ⟨fd, F⟩ := T.d 19 _ rfl
  exact ⟨fd, h fd F, [], .nil, FunD.bindsN F fun _ _ _ _ _ _ us hl => match us, hl with | [_, _, _], _ => rfl⟩
theorem mk_Wave_present {P : Program} {w : World} {K : PySem.W.Frag} {mg : Str → Option Value} {base : Heap} {CX : CXT} {k : Nat} {sp : Sp} (T : TX K mg) (h : ∀ fd, FunD K "present" "Wave.present" (defArgs s_Wave_present) (defBody s_Wave_present) (defScope s_Wave_present) [] [] (He.fAd K at_Wave_present) fd → FnOk P w K mg base CX k (He.fAd K at_Wave_present) fd ps_Wave_present sp) :
    Can P w K mg base CX k (He.fAd K at_Wave_present) ps_Wave_present [] sp := by
  obtain ⟨fd, F⟩ := T.d 20 _ rfl
  exact ⟨fd, h fd F, [], .nil, FunD.bindsN F fun _ _ _ _ _ _ us hl => match us, hl with | [_, _, _], _ => rfl⟩
theorem mk_Wave__places_of {P : Program} {w : World} {K : PySem.W.Frag} {mg : Str → Option Value} {base : Heap} {CX : CXT} {k : Nat} {sp : Sp} (T : TX K mg) (h : ∀ fd, FunD K "_places_of" "Wave._places_of" (defArgs s_Wave__places_of) (defBody s_Wave__places_of) (defScope s_Wave__places_of) [] [] (He.fAd K at_Wave__places_of) fd → FnOk P w K mg base CX k (He.fAd K at_Wave__places_of) fd ps_Wave__places_of sp) :
    Can P w K mg base CX k (He.fAd K at_Wave__places_of) ps_Wave__places_of [] sp := by
  obtain ⟨fd, F⟩ := T.d 21 _ rfl
  exact ⟨fd, h fd F, [], .nil, FunD.bindsN F fun _ _ _ _ _ _ us hl => match us, hl with | [_, _], _ => rfl⟩
theorem mk__law_deck {P : Program} {w : World} {K : PySem.W.Frag} {mg : Str → Option Value} {base : Heap} {CX : CXT} {k : Nat} {sp : Sp} (T : TX K mg) (h : ∀ fd, FunD K "_law_deck" "_law_deck" (defArgs s__law_deck) (defBody s__law_deck) (defScope s__law_deck) [] [] (He.fAd K at__law_deck) fd → FnOk P w K mg base CX k (He.fAd K at__law_deck) fd ps__law_deck sp) :
    Can P w K mg base CX k (He.fAd K at__law_deck) ps__law_deck [] sp := by
  obtain ⟨fd, F⟩ := T.d 22 _ rfl
  exact ⟨fd, h fd F, [], .nil, FunD.bindsN F fun _ _ _ _ _ _ us hl => match us, hl with | [_], _ => rfl⟩
theorem mk__law_draw {P : Program} {w : World} {K : PySem.W.Frag} {mg : Str → Option Value} {base : Heap} {CX : CXT} {k : Nat} {sp : Sp} (T : TX K mg) (h : ∀ fd, FunD K "_law_draw" "_law_draw" (defArgs s__law_draw) (defBody s__law_draw) (defScope s__law_draw) [] [] (He.fAd K at__law_draw) fd → FnOk P w K mg base CX k (He.fAd K at__law_draw) fd ps__law_draw sp) :
    Can P w K mg base CX k (He.fAd K at__law_draw) ps__law_draw [] sp := by
  obtain ⟨fd, F⟩ := T.d 23 _ rfl
  exact ⟨fd, h fd F, [], .nil, FunD.bindsN F fun _ _ _ _ _ _ us hl => match us, hl with | [_, _], _ => rfl⟩
theorem mk__law_bits {P : Program} {w : World} {K : PySem.W.Frag} {mg : Str → Option Value} {base : Heap} {CX : CXT} {k : Nat} {sp : Sp} (T : TX K mg) (h : ∀ fd, FunD K "_law_bits" "_law_bits" (defArgs s__law_bits) (defBody s__law_bits) (defScope s__law_bits) [] [] (He.fAd K at__law_bits) fd → FnOk P w K mg base CX k (He.fAd K at__law_bits) fd ps__law_bits sp) :
    Can P w K mg base CX k (He.fAd K at__law_bits) ps__law_bits [] sp := by
  obtain ⟨fd, F⟩ := T.d 24 _ rfl
  exact ⟨fd, h fd F, [], .nil, FunD.bindsN F fun _ _ _ _ _ _ us hl => match us, hl with | [_, _], _ => rfl⟩
theorem mk__law_symbols {P : Program} {w : World} {K : PySem.W.Frag} {mg : Str → Option Value} {base : Heap} {CX : CXT} {k : Nat} {sp : Sp} (T : TX K mg) (h : ∀ fd, FunD K "_law_symbols" "_law_symbols" (defArgs s__law_symbols) (defBody s__law_symbols) (defScope s__law_symbols) [] [] (He.fAd K at__law_symbols) fd → FnOk P w K mg base CX k (He.fAd K at__law_symbols) fd ps__law_symbols sp) :
    Can P w K mg base CX k (He.fAd K at__law_symbols) ps__law_symbols [] sp := by
  obtain ⟨fd, F⟩ := T.d 25 _ rfl
  exact ⟨fd, h fd F, [], .nil, FunD.bindsN F fun _ _ _ _ _ _ us hl => match us, hl with | [_, _, _], _ => rfl⟩
theorem mk_law {P : Program} {w : World} {K : PySem.W.Frag} {mg : Str → Option Value} {base : Heap} {CX : CXT} {k : Nat} {sp : Sp} (T : TX K mg) (h : ∀ fd, FunD K "law" "law" (defArgs s_law) (defBody s_law) (defScope s_law) [] [] (He.fAd K at_law) fd → FnOk P w K mg base CX k (He.fAd K at_law) fd ps_law sp) :
    Can P w K mg base CX k (He.fAd K at_law) ps_law [] sp := by
  obtain ⟨fd, F⟩ := T.d 26 _ rfl
  exact ⟨fd, h fd F, [], .nil, FunD.bindsN F fun _ _ _ _ _ _ us hl => match us, hl with | [_], _ => rfl⟩
/-! ### the deck and its draws -/
/-- a deck stands at d: the script's copy, the next cell, what is left of one, the state -/
def Deck (H : Hp) (d s : Addr) : Prop := ∃ (ns : List Int) (i c x : Int), H d = some (.lst [.ref s, .int i, .int c, .int x]) ∧ H s = some (.lst (ns.map V.int)) ∧ 0 ≤ i
theorem Deck.kp {S : List Addr} {H H' : Hp} {d s : Addr} (D : Deck H d s) (e : Kp S H H') (h1 : d ∉ S) (h2 : s ∉ S) : Deck H' d s := by
  obtain ⟨ns, i, c, x, g1, g2, g3⟩ := D
  exact ⟨ns, i, c, x, e.at g1 h1, e.at g2 h2, g3⟩
theorem Deck.keep {H H' : Hp} {d s : Addr} (D : Deck H d s) (e : Ex H H') : Deck H' d s := D.kp (S := []) (Kp.of e) (by simp) (by simp)
theorem Deck.lst {H : Hp} {d s : Addr} (D : Deck H d s) : H d ≠ none := by
  obtain ⟨ns, i, c, x, h1, _⟩ := D
  rw [h1]
  intro z
  cases z
theorem Deck.lst2 {H : Hp} {d s : Addr} (D : Deck H d s) : H s ≠ none := by
  obtain ⟨ns, i, c, x, _, h1, _⟩ := D
  rw [h1]
  intro z
  cases z
theorem Deck.ne_new {H : Hp} {d s p : Addr} (D : Deck H d s) (h : H p = none) : p ≠ d := fun e => D.lst (e ▸ h)
theorem Deck.ne_new2 {H : Hp} {d s p : Addr} (D : Deck H d s) (h : H p = none) : p ≠ s := fun e => D.lst2 (e ▸ h)
theorem Deck.put {H : Hp} {d s p : Addr} {o : HO} (D : Deck H d s) (h : H p = none) : Deck (upd H p o) d s := D.keep (Ex.new h)
theorem Deck.mut {H : Hp} {d s p : Addr} {o : HO} (D : Deck H d s) (h : p ≠ d) (h2 : p ≠ s) : Deck (upd H p o) d s := D.kp (Kp.up (p := p)) (fun z => h (List.mem_singleton.mp z).symm) (fun z => h2 (List.mem_singleton.mp z).symm)
def spDraw : Sp := fun vs H Q _ => ∃ (d s : Addr) (m : Int), vs = [.ref d, .int m] ∧ 0 < m ∧ m < 1073741824 ∧ Deck H d s ∧ ∀ (v : Int) (H' : Hp), 0 ≤ v → v < m → Deck H' d s → Kp [d] H H' → Q (.int v) H'
theorem fmod_in {i m : Int} (h : 0 < m) : 0 ≤ i.fmod m ∧ i.fmod m < m := by
  rw [Int.fmod_eq_emod_of_nonneg i (Int.le_of_lt h)]
  exact ⟨Int.emod_nonneg _ (by omega), Int.emod_lt_of_pos _ h⟩
section
variable {P : Program} {w : World} {K : PySem.W.Frag} {mg : Str → Option Value} {base : Heap}
theorem ok__law_draw (T : TX K mg) : Can P w K mg base CX0 1 (He.fAd K at__law_draw) ps__law_draw [] spDraw := mk__law_draw T fun fd F => def0 F sc__law_draw (fun vs H Q E h => by
  obtain ⟨d, z, m, rfl, _⟩ := h
  rfl) fun cdv A outer s H vs Q E hr h => by
  obtain ⟨d, z, m, rfl, m0, m1, ⟨ns, i, c, x, hd, hz, hi⟩, k⟩ := h
  have nzd : z ≠ d := by
    intro e
    rw [e, hd] at hz
    cases ns with
    | nil => cases hz
    | cons n r => cases hz
  have hz' : ∀ o, upd H d o z = some (.lst (ns.map V.int)) := fun o => by rw [upd_ne nzd]; exact hz
  refine ⟨_, (pss_cons (ps_if (pt_cmpR op_ge (pe_ix (ixL K rfl) (pv 0) pe_int (fun _ _ => rfl)) (pv 1) (nomark _)) (pss_cons (ps_set (i := 3) sc__law_draw.nd rfl (Or.inl rfl) (pe_op op_modN (pe_callTy call_int1 (by rfl) T.n_int (by decide +kernel) (pa_cons (pe_ix (ixL K rfl) (pv 0) pe_int (fun _ _ => rfl)) pa_nil)) (pv 1)))
  (pss_cons (ps_asg (pe_op op_fdivN (pe_ix (ixL K rfl) (pv 0) pe_int (fun _ _ => rfl)) (pv 1)) (pg_sub (pv 0) pe_int set_list))
  (pss_one (ps_ret (pv 3))))) pss_nil)
  (pss_cons (ps_set (i := 2) sc__law_draw.nd rfl (Or.inl rfl) pe_int)
  (Evl.pss_cut (ps_if (pt_cmpR op_lt (pe_ix (ixL K rfl) (pv 0) pe_int (fun _ _ => rfl)) (pe_callB (cLen K rfl) (by rfl) T.n_len PySem.boot_len (pa_cons (pe_ix (ixL K rfl) (pv 0) pe_int (fun _ _ => rfl)) pa_nil)) (nomark _)) (pss_one (ps_set (i := 2) sc__law_draw.nd rfl (Or.inl rfl) (pe_ix (ixL K rfl) (pe_ix (ixL K rfl) (pv 0) pe_int (fun _ _ => rfl)) (pe_ix (ixL K rfl) (pv 0) pe_int (fun _ _ => rfl)) (fun _ _ => rfl)))) pss_nil)
  (pss_cons (ps_asg (pe_op op_add (pe_ix (ixL K rfl) (pv 0) pe_int (fun _ _ => rfl)) pe_int) (pg_sub (pv 0) pe_int set_list))
  (pss_cons (ps_asg pe_int (pg_sub (pv 0) pe_int set_list))
  (pss_cons (ps_if (pt_cmpR op_ge (pv 2) (pe_op op_pow pe_int pe_int) (nomark _)) (pss_cons (ps_asg (pe_op op_fdivN (pv 2) (pv 1)) (pg_sub (pv 0) pe_int set_list))
  (pss_one (ps_ret (pe_op op_modN (pe_callTy call_int1 (by rfl) T.n_int (by decide +kernel) (pa_cons (pv 2) pa_nil)) (pv 1))))) pss_nil)
  (pss_cons (ps_asg (pe_op op_modN (pe_callTy call_int1 (by rfl) T.n_int (by decide +kernel) (pa_cons (pe_op op_add (pe_op op_add (pe_op op_mul (pe_ix (ixL K rfl) (pv 0) pe_int (fun _ _ => rfl)) pe_int) (pe_op op_mul (pv 2) pe_int)) (pe_op op_mul (pe_ix (ixL K rfl) (pv 0) pe_int (fun _ _ => rfl)) pe_int)) pa_nil)) pe_int) (pg_sub (pv 0) pe_int set_list))
  (pss_cons (ps_asg (pe_op op_modN (pe_callTy call_int1 (by rfl) T.n_int (by decide +kernel) (pa_cons (pe_op op_add (pe_op op_mul (pe_ix (ixL K rfl) (pv 0) pe_int (fun _ _ => rfl)) pe_int) pe_int) pa_nil)) pe_int) (pg_sub (pv 0) pe_int set_list))
  (pss_one (ps_ret (pe_op op_modN (pe_callTy call_int1 (by rfl) T.n_int (by decide +kernel) (pa_cons (pe_op op_fdivN (pe_ix (ixL K rfl) (pv 0) pe_int (fun _ _ => rfl)) pe_int) pa_nil)) (pv 1)))))))))))), ?_⟩
  -- if deck[2] >= most
  refine ⟨_, rfl, d, _, _, _, rfl, rfl, SqL.of hd, rfl, _, rfl, _, _, rfl, rfl, _, rfl, ?_⟩
  refine ite2 (fun _ => ?_) (fun _ => ?_)
  · refine ⟨_, rfl, d, _, _, _, rfl, rfl, SqL.of hd, rfl, .inl ⟨_, rfl, _, rfl, _, _, rfl, rfl, (by omega), ?_⟩⟩
    refine ⟨_, rfl, d, _, _, _, rfl, rfl, SqL.of hd, rfl, _, rfl, _, _, rfl, rfl, ⟨by omega, by omega⟩, _, rfl, d, _, _, 2, rfl, rfl, hd, rfl, _, rfl, ?_⟩
    exact k _ _ (fmod_in m0).1 (fmod_in m0).2 ⟨ns, i, _, x, upd_same, hz' _, hi⟩ (Kp.put (by simp))
  · -- cell = 0; if deck[1] < len(deck[0]): cell = deck[0][deck[1]]
    refine ⟨fun σ' H' => ∃ y : Int, σ' = [some (.ref d), some (.int m), some (.int y), none] ∧ H' = H, ?_, ?_⟩
    · refine ⟨_, rfl, d, _, _, _, rfl, rfl, SqL.of hd, rfl, _, rfl, d, _, _, _, rfl, rfl, SqL.of hd, rfl, z, _, rfl, .inl (SqL.of hz), _, _, rfl, rfl, _, rfl, ?_⟩
      refine ite2 (fun hlt => ?_) (fun _ => ⟨0, rfl, rfl⟩)
      have hlt' : i < (ns.map V.int).length := of_decide_eq_true hlt
      rw [List.length_map] at hlt'
      have hj : i.toNat < ns.length := by omega
      have e : atI (ns.map V.int) i = some (V.int (ns[i.toNat]'hj)) := at_of (j := i.toNat) (by omega) (by rw [List.getElem?_map, List.getElem?_eq_getElem hj] <;> rfl)
      exact ⟨_, rfl, d, _, _, _, rfl, rfl, SqL.of hd, rfl, _, rfl, d, _, _, _, rfl, rfl, SqL.of hd, rfl, z, _, i, _, rfl, rfl, SqL.of hz, e, _, rfl, rfl⟩
    · rintro σ' H' ⟨y, rfl, rfl⟩
      -- deck[1] = deck[1] + 1; deck[2] = 0
      refine ⟨_, rfl, d, _, _, _, rfl, rfl, SqL.of hd, rfl, _, _, rfl, rfl, _, rfl, d, _, _, 1, rfl, rfl, hd, rfl, ?_⟩
      refine ⟨_, rfl, d, _, _, 2, rfl, rfl, upd_same, rfl, ?_⟩
      rw [upd_upd]
      -- if cell >= 10 ** 18
      refine ⟨_, rfl, _, _, rfl, rfl, ⟨by decide, by decide, by decide⟩, _, _, rfl, rfl, _, rfl, ?_⟩
      refine ite2 (fun _ => ?_) (fun _ => ?_)
      · refine ⟨_, rfl, _, rfl, _, _, rfl, rfl, ⟨by omega, by omega⟩, _, rfl, d, _, _, 2, rfl, rfl, upd_same, rfl, ?_⟩
        rw [upd_upd]
        refine ⟨_, rfl, .inl ⟨_, rfl, _, rfl, _, _, rfl, rfl, (by omega), ?_⟩⟩
        exact k _ _ (fmod_in m0).1 (fmod_in m0).2 ⟨ns, _, _, x, upd_same, hz' _, by omega⟩ (Kp.put (by simp))
      · -- deck[3] = ..; deck[3] = ..; return
        refine ⟨_, rfl, d, _, _, _, rfl, rfl, SqL.of upd_same, rfl, _, _, rfl, rfl, .inr ⟨by decide, by decide⟩, _, rfl, _, _, rfl, rfl, .inr ⟨by decide, by decide⟩, _, _, rfl, rfl, _, rfl, d, _, _, _, rfl, rfl, SqL.of upd_same, rfl, _, _, rfl, rfl, .inr ⟨by decide, by decide⟩, _, _, rfl, rfl,
          .inl ⟨_, rfl, _, _, rfl, rfl, (by show (2147483647 : Int) ≠ 0; decide), _, rfl, d, _, _, 3, rfl, rfl, upd_same, rfl, ?_⟩⟩
        rw [upd_upd]
        refine ⟨_, rfl, d, _, _, _, rfl, rfl, SqL.of upd_same, rfl, _, _, rfl, rfl, .inr ⟨by decide, by decide⟩, _, _, rfl, rfl, .inl ⟨_, rfl, _, _, rfl, rfl, (by show (2147483647 : Int) ≠ 0; decide), _, rfl, d, _, _, 3, rfl, rfl, upd_same, rfl, ?_⟩⟩
        rw [upd_upd]
        refine ⟨_, rfl, d, _, _, _, rfl, rfl, SqL.of upd_same, rfl, _, _, rfl, rfl, ⟨by decide, by decide⟩, .inl ⟨_, rfl, _, rfl, _, _, rfl, rfl, (by omega), ?_⟩⟩
        exact k _ _ (fmod_in m0).1 (fmod_in m0).2 ⟨ns, _, _, _, upd_same, hz' _, by omega⟩ (Kp.put (by simp))
/-- the deck of a script -/
def spDeck (K : PySem.W.Frag) : Sp := fun vs H Q _ => ∃ (a : Addr) (ns : List Int), vs = [.ref a] ∧ SqL K H a (ns.map V.int) ∧ ∀ (d s : Addr) (H' : Hp), H d = none → H s = none → Deck H' d s → Ex H H' → Q (.ref d) H'
theorem ok__law_deck (T : TX K mg) : Can P w K mg base CX0 1 (He.fAd K at__law_deck) ps__law_deck [] (spDeck K) := mk__law_deck T fun fd F => def0 F sc__law_deck (fun vs H Q E h => by
  obtain ⟨a, ns, rfl, _⟩ := h
  rfl) fun cdv A outer s H vs Q E hr h => by
  obtain ⟨a, ns, rfl, hS, k⟩ := h
  refine ⟨_, (pss_one (ps_ret (pe_lst (pa_cons (pe_callTy (cList K rfl) (by rfl) T.n_list (by decide +kernel) (pa_cons (pv 0) pa_nil)) (pa_cons pe_int (pa_cons pe_int (pa_cons pe_int pa_nil))))))), ?_⟩
  refine ⟨_, rfl, a, _, rfl, .inl hS, fun z hz => ?_⟩
  refine ⟨by show 4 ≤ sizeLine; decide, fun d hd => ?_⟩
  have ne : d ≠ z := fun e => by rw [e, upd_same] at hd; cases hd
  rw [upd_ne ne] at hd
  refine k d z _ hd hz ⟨ns, 0, 0, 7, upd_same, by rw [upd_ne (Ne.symm ne), upd_same], by decide⟩ ((Ex.new hz).trans (Ex.new ?_))
  rw [upd_ne ne]
  exact hd
end
theorem rd_draw {σ : L2.St} {H : Hp} {i : Nat} {te : TE} {d s : Addr} {m : Int} {Q : VK} {E : XK} (hσ : σ[i]? = some (some (.ref d))) (hm : Val te σ H (.int m)) (m0 : 0 < m) (m1 : m < 1073741824) (D : Deck H d s)
    (k : ∀ (v : Int) (H' : Hp), 0 ≤ v → v < m → Deck H' d s → Kp [d] H H' → Q (.int v) H') : tCall spDraw [] E (tCons (tVar i) (tCons te tNil)) σ H Q := ⟨_, hσ, hm _ ⟨d, s, m, rfl, m0, m1, D, k⟩⟩
/-- a comprehension over a range whose items are drawn -/
theorem lc_drawn {d sc : Addr} {σ : L2.St} {H : Hp} {j : Nat} {ta : TA} {te : TE} {Pn : Nat → Prop} {Pz : Int → Prop} {Q : VK} (hN : ∀ n, Pn n → n ≤ 10000) (hta : ∀ R : List V → Hp → Prop, (∀ (n : Nat) (H1 : Hp), Pn n → Deck H1 d sc → Kp [d] H H1 → R [.int (n : Int)] H1) → ta σ H R)
    (hw : ∀ y, wipe ((wipe σ [j]).set j (some y)) [j] = wipe σ [j])
    (hte : ∀ y H1, Kp [d] H H1 → Deck H1 d sc → ∀ R : VK, (∀ (v : Int) (H2 : Hp), Pz v → Deck H2 d sc → Kp [d] H1 H2 → R (.int v) H2) → te ((wipe σ [j]).set j (some y)) H1 R)
    (k : ∀ (p : Addr) (row : List Int) (H' : Hp), H p = none → (∀ z ∈ row, Pz z) → Pn row.length → Deck H' d sc → Kp [d] H H' → H' p = some (.lst (row.map V.int)) → Q (.ref p) H') : tLc (iRng1 ta) (gName j) tYes te [j] σ H Q := by
  refine hta _ fun n H1 hp D1 e1 => ⟨(n : Int), rfl, by omega, by have := hN n hp; omega, fun L hL => lc_range (lo := 0) (n := n) (fun i H' => Kp [d] H1 H' ∧ Deck H' d sc ∧ ∃ acc : List Int, H' L = some (.lst (acc.map V.int)) ∧ acc.length = i ∧ ∀ z ∈ acc, Pz z)
    ⟨Kp.new hL, D1.put hL, [], upd_same, rfl, fun z hz => absurd hz (by simp)⟩ ?_ ?_⟩
  · rintro i H2 hi ⟨e2, D2, acc, hacc, hl, hz⟩
    refine ⟨hw _, ?_⟩
    refine hte _ H2 (e1.trans e2) D2 _ fun v H3 hv D3 e3 => ?_
    have nLd : L ≠ d := D1.ne_new hL
    have nLs : L ≠ sc := D1.ne_new2 hL
    have hacc3 : H3 L = some (.lst (acc.map V.int)) := e3.at hacc (by simpa using nLd)
    refine ⟨_, hacc3, Nat.lt_of_le_of_lt (show _ ≤ 100000 by rw [List.length_map]; have := hN n hp; omega) (by decide), (e2.trans e3).mut hL, D3.mut nLd nLs, acc ++ [v], ?_, by rw [List.length_append, hl]; rfl, fun z hz' => ?_⟩
    · rw [upd_same, List.map_append]
      rfl
    · rcases List.mem_append.mp hz' with h | h
      · exact hz z h
      · rw [List.mem_singleton.mp h]
        exact hv
  · rintro H2 ⟨e2, D2, acc, hacc, hl, hz⟩
    have hLH : H L = none := e1.back (fun a ha => by rw [List.mem_singleton.mp ha]; exact D1.lst) hL
    exact k L acc H2 hLH hz (by rw [hl]; exact hp) D2 (e1.trans e2) hacc
/-! ### rows of bits: what is kept -/
def pre (row : List Int) (i : Nat) : Int := (row.take i).sum
def sums (row : List Int) : List Int := (List.range (row.length + 1)).map (pre row)
def isAt (row : List Int) (d : Int) (i : Nat) : Bool := decide (row[i]? = some d)
/-- the places below n at which d stands -/
def plcTo (row : List Int) (d : Int) (n : Nat) : List Int := ((List.range n).filter (isAt row d)).map fun (i : Nat) => (i : Int)
def plc (row : List Int) (d : Int) : List Int := plcTo row d row.length
theorem pre_zero (row : List Int) : pre row 0 = 0 := rfl
theorem pre_succ {row : List Int} {i : Nat} {z : Int} (h : row[i]? = some z) : pre row (i + 1) = pre row i + z := sum_take h
theorem pre_all (row : List Int) : pre row row.length = row.sum := by unfold pre; rw [List.take_length]
theorem sums_len (row : List Int) : (sums row).length = row.length + 1 := by unfold sums; rw [List.length_map, List.length_range]
theorem sums_at {row : List Int} {i : Nat} (h : i ≤ row.length) : (sums row)[i]? = some (pre row i) := by
  unfold sums
  rw [List.getElem?_map, List.getElem?_range (by omega)] <;> rfl
theorem plcTo_succ {row : List Int} {d : Int} {n : Nat} : plcTo row d (n + 1) = if isAt row d n = true then plcTo row d n ++ [(n : Int)] else plcTo row d n := by
  unfold plcTo
  rw [List.range_succ, List.filter_append, List.map_append, List.filter_cons]
  by_cases h : isAt row d n = true
  · rw [if_pos h, if_pos h] <;> rfl
  · rw [if_neg h, if_neg h]
    show _ ++ [] = _
    rw [List.append_nil]
theorem plcTo_len (row : List Int) (d : Int) (n : Nat) : (plcTo row d n).length ≤ n := by
  unfold plcTo
  rw [List.length_map]
  have h := List.length_filter_le (isAt row d) (List.range n)
  rwa [List.length_range] at h
theorem int_at {ns : List Int} {i : Nat} {x : V} (h : (ns.map V.int)[i]? = some x) : ∃ z, ns[i]? = some z ∧ x = .int z := by
  rw [List.getElem?_map] at h
  cases e : ns[i]? with
  | none =>
    rw [e] at h
    cases h
  | some z =>
    rw [e] at h
    exact ⟨z, rfl, (Option.some.inj h).symm⟩
theorem at_int {ns : List Int} {i : Nat} {z : Int} (h : ns[i]? = some z) : (ns.map V.int)[i]? = some (V.int z) := by rw [List.getElem?_map, h] <;> rfl
theorem lt_of_at {α : Type} {l : List α} {i : Nat} {x : α} (h : l[i]? = some x) : i < l.length := (List.getElem?_eq_some_iff.mp h).1
theorem small9 {n : Nat} (h : n ≤ 100000) : n < sizeLine := Nat.lt_of_le_of_lt h (by decide)
section
variable {P : Program} {w : World} {K : PySem.W.Frag} {mg : Str → Option Value} {base : Heap}
theorem ok_InvalidRow_init (T : TX K mg) : Can P w K mg base CX0 1 (He.fAd K at_InvalidRow_init) ps_InvalidRow_init [] (spX1 K (He.ga K "InvalidRow") "place") := mk_InvalidRow_init T fun fd F => def0 F sc_InvalidRow_init (fun vs H Q E h => by
  obtain ⟨a, y, rfl, _⟩ := h
  rfl) fun cdv A outer s H vs Q E hr h => by
  obtain ⟨a, y, rfl, O, hno, ha, k⟩ := h
  refine ⟨_, (pss_one (ps_ost (pv 0) (pv 1))), ?_⟩
  exact ⟨_, rfl, _, rfl, a, _, rfl, O, hno, .inl ⟨ha, fun dx n1 n2 => k dx n1 n2⟩⟩
theorem ok_InvalidPlace_init (T : TX K mg) : Can P w K mg base CX0 1 (He.fAd K at_InvalidPlace_init) ps_InvalidPlace_init [] (spX1 K (He.ga K "InvalidPlace") "place") := mk_InvalidPlace_init T fun fd F => def0 F sc_InvalidPlace_init (fun vs H Q E h => by
  obtain ⟨a, y, rfl, _⟩ := h
  rfl) fun cdv A outer s H vs Q E hr h => by
  obtain ⟨a, y, rfl, O, hno, ha, k⟩ := h
  refine ⟨_, (pss_one (ps_ost (pv 0) (pv 1))), ?_⟩
  exact ⟨_, rfl, _, rfl, a, _, rfl, O, hno, .inl ⟨ha, fun dx n1 n2 => k dx n1 n2⟩⟩
end
/-- an InvalidPlace of this place is let out -/
def BadPlace (K : PySem.W.Frag) (H : Hp) (E : XK) (i : Int) : Prop := ∀ d H', H d = none → Ex H H' → H' d = some (.xd [("place", .int i)]) → E (.ref (He.ga K "InvalidPlace")) (some d) H'
/-- the k-th item, or None -/
def kth (l : List Int) (k : Int) : V := match l[k.toNat]? with
  | some z => .int z
  | none => .non
theorem kth_lt {l : List Int} {k : Int} (h0 : 0 ≤ k) (h : k < l.length) : ∃ z, l[k.toNat]? = some z ∧ kth l k = .int z := by
  have h1 : k.toNat < l.length := by omega
  refine ⟨l[k.toNat], List.getElem?_eq_getElem h1, ?_⟩
  unfold kth
  rw [List.getElem?_eq_getElem h1]
theorem kth_ge {l : List Int} {k : Int} (h0 : 0 ≤ k) (h : ¬ k < l.length) : kth l k = .non := by
  unfold kth
  rw [List.getElem?_eq_none (by omega)]
def sumsTo (row : List Int) (n : Nat) : List Int := (List.range (n + 1)).map (pre row)
theorem sumsTo_zero (row : List Int) : sumsTo row 0 = [0] := rfl
theorem sumsTo_last (row : List Int) (n : Nat) : sumsTo row n = (List.range n).map (pre row) ++ [pre row n] := by
  unfold sumsTo
  rw [List.range_succ, List.map_append] <;> rfl
theorem sumsTo_succ {row : List Int} {n : Nat} {z : Int} (h : row[n]? = some z) : sumsTo row (n + 1) = sumsTo row n ++ [pre row n + z] := by
  rw [sumsTo_last row (n + 1), pre_succ h] <;> rfl
theorem sumsTo_len (row : List Int) (n : Nat) : (sumsTo row n).length = n + 1 := by unfold sumsTo; rw [List.length_map, List.length_range]
/-- a new list of ints -/
def spRun (K : PySem.W.Frag) : Sp := fun vs H Q _ => ∃ (l : Addr) (row : List Int), vs = [.ref l] ∧ SqL K H l (row.map V.int) ∧ row.length ≤ 1000 ∧ RetL ((sums row).map V.int) H Q
section
variable {P : Program} {w : World} {K : PySem.W.Frag} {mg : Str → Option Value} {base : Heap}
theorem ok__running_ones (T : TX K mg) : Can P w K mg base CX0 1 (He.fAd K at__running_ones) ps__running_ones [] (spRun K) := mk__running_ones T fun fd F => def0 F sc__running_ones (fun vs H Q E h => by
  obtain ⟨l, row, rfl, _⟩ := h
  rfl) fun cdv A outer s H vs Q E hr h => by
  obtain ⟨l, row, rfl, hS, hz, k⟩ := h
  refine ⟨_, (pss_cons (ps_set (i := 1) sc__running_ones.nd rfl (Or.inl rfl) (pe_lst (pa_cons pe_int pa_nil)))
  (pss_cons (ps_for PassesOwn.never rfl (iLst K rfl (pv 0)) (pg_name (i := 2) sc__running_ones.nd rfl (Or.inl rfl))
  (pss_one (ps_expr (eBm K rfl PySem.F.plainAttrs_list PySem.F.slot_list_append PySem.F.type_list_append mt_append (pv 1) (pa_cons (pe_op op_add (pe_ix (ixL K rfl) (pv 1) (pe_un un_neg pe_int) (fun _ _ => rfl)) (pv 2)) pa_nil)))))
  (pss_one (ps_ret (pv 1))))), ?_⟩
  refine ⟨by show 1 ≤ sizeLine; decide, fun p hp => ?_⟩
  refine st_seq (st_forL (val_var rfl) (ex_l (Ex.new hp) hS) (fun i σ H' => ∃ v, σ = [some (.ref l), some (.ref p), v] ∧ Ex H H' ∧ H' p = some (.lst ((sumsTo row i).map V.int))) ⟨none, rfl, Ex.new hp, upd_same⟩ (fun i σ H' _ ⟨_, _, e, _⟩ => ex_l e hS) ?_ ?_)
  · rintro i x σ H' hi ⟨v, rfl, e, hl⟩
    obtain ⟨z, hi', rfl⟩ := int_at hi
    have e1 : (sumsTo row i).map V.int = ((List.range i).map (pre row)).map V.int ++ [V.int (pre row i)] := by rw [sumsTo_last, List.map_append] <;> rfl
    refine st_app hl (val_var rfl) (val_I (g := fun i j => .int (i + j)) (val_ixL (val_var rfl) (val_neg val_c) (SqL.of hl) (by rw [e1]; exact atI_last _ _)) (val_var rfl)) (small9 (by rw [List.length_map, sumsTo_len]; have h9 : i < row.length := lt_of_at hi'; omega)) ⟨_, rfl, e.mut hp, ?_⟩
    rw [upd_same, sumsTo_succ hi', List.map_append] <;> rfl
  · rintro σ H' ⟨v, rfl, e, hl⟩
    rw [List.length_map] at hl
    exact st_ret (val_var rfl) (k p H' hp e hl)
/-! ### Bits -/
/-- an object of a row of bits -/
def BitsAt (C : Addr) (H : Hp) (p : Addr) (row : List Int) (F : List Addr) : Prop := ∃ dx dg ct pl z o, F = [dg, ct, pl, z, o] ∧ H p = some (.ins C dx (flds_Bits (.int row.length) (.int row.sum) (.ref dg) (.ref ct) (.ref pl))) ∧ H dg = some (.lst (row.map V.int)) ∧ H ct = some (.lst ((sums row).map V.int)) ∧
  H pl = some (.dK [(.inl 0, .ref z), (.inl 1, .ref o)]) ∧ H z = some (.lst ((plc row 0).map V.int)) ∧ H o = some (.lst ((plc row 1).map V.int))
def bit (z : Int) : Prop := z = 0 ∨ z = 1
theorem BitsAt.kp {C : Addr} {H H' : Hp} {p : Addr} {row : List Int} {F S : List Addr} (B : BitsAt C H p row F) (e : Kp S H H') (h : p ∉ S) (hF : ∀ a ∈ F, a ∉ S) : BitsAt C H' p row F := by
  obtain ⟨dx, dg, ct, pl, z, o, rfl, h1, h2, h3, h4, h5, h6⟩ := B
  exact ⟨dx, dg, ct, pl, z, o, rfl, e.at h1 h, e.at h2 (hF _ (by simp)), e.at h3 (hF _ (by simp)), e.at h4 (hF _ (by simp)), e.at h5 (hF _ (by simp)), e.at h6 (hF _ (by simp))⟩
theorem BitsAt.keep {C : Addr} {H H' : Hp} {p : Addr} {row : List Int} {F : List Addr} (B : BitsAt C H p row F) (e : Ex H H') : BitsAt C H' p row F := B.kp (S := []) (Kp.of e) (by simp) (by simp)
theorem BitsAt.on {C : Addr} {H : Hp} {p : Addr} {row : List Int} {F : List Addr} (B : BitsAt C H p row F) : ∃ dx a0 a1 a2 a3 a4, H p = some (.ins C dx (flds_Bits a0 a1 a2 a3 a4)) := by
  obtain ⟨dx, dg, ct, pl, z, o, _, h1, _⟩ := B
  exact ⟨_, _, _, _, _, _, h1⟩
instance (z : Int) : Decidable (bit z) := by unfold bit; infer_instance
def spBits (K : PySem.W.Frag) : Sp := fun vs H Q E => ∃ (p dx l : Addr) (row : List Int), vs = [.ref p, .ref l] ∧ H p = some (.ins (He.ga K "Bits") dx []) ∧ SqL K H l (row.map V.int) ∧ row.length ≤ 1000 ∧
  ((∀ z ∈ row, bit z) → ∀ F H', Kp [p] H H' → (∀ a ∈ F, H a = none) → BitsAt (He.ga K "Bits") H' p row F → Q .non H') ∧
  ∀ (i : Nat) (z : Int), row[i]? = some z → ¬ bit z → (∀ (j : Nat) (u : Int), j < i → row[j]? = some u → bit u) → ∀ (d : Addr) (H' : Hp), H d = none → Ex H H' → H' d = some (.xd [("place", .int (i : Int))]) → E (.ref (He.ga K "InvalidRow")) (some d) H'
theorem in01 (u : Int) : inV (.int u) [.int 0, .int 1] = decide (bit u) := by
  unfold inV bit
  rw [List.any_cons, List.any_cons, List.any_nil, Bool.or_false]
  show ((0 : Int) == u || (1 : Int) == u) = _
  by_cases h0 : u = 0
  · subst h0; rfl
  · by_cases h1 : u = 1
    · subst h1; rfl
    · have e0 : ((0 : Int) == u) = false := beq_eq_false_iff_ne.mpr (Ne.symm h0)
      have e1 : ((1 : Int) == u) = false := beq_eq_false_iff_ne.mpr (Ne.symm h1)
      rw [e0, e1]
      exact (decide_eq_false (fun q => q.elim h0 h1)).symm
theorem places_lc {K : PySem.W.Frag} {σ : L2.St} {Hs : Hp} {x0 v1 v2 : Option V} {l : Addr} {row : List Int} {d : Int} {Q : VK} (hS : SqL K Hs l (row.map V.int)) (hz : row.length ≤ 1000) (hσ : σ = [x0, some (.ref l), v1, v2])
    (k : ∀ D H', Hs D = none → Ex Hs H' → H' D = some (.lst ((plc row d).map V.int)) → Q (.ref D) H') :
    tLc (iEnum K (tCons (tVar 1) tNil)) (gTup K 2 (gCons (gName 2) (gCons (gName 3) gNil))) (tTest (tOp rEq (tVar 3) (tC (.int d)))) (tVar 2) [2, 3] σ Hs Q := by
  subst hσ
  have hlen : (row.map V.int).length = row.length := List.length_map ..
  refine ⟨_, rfl, l, _, rfl, hS, fun D hD => lc_it walk_enum (fun i H' => Ex Hs H' ∧ H' D = some (.lst ((plcTo row d i).map V.int))) ⟨Ex.new hD, upd_same⟩ (fun i H' _ ⟨e, _⟩ => ex_l e hS) ?_ ?_⟩
  · rintro i x H1 H2 hi ⟨e, hl⟩ ⟨t, y, x', rfl, ht, rfl, e1, e2⟩
    obtain rfl := Option.some.inj e1
    obtain ⟨u, hu, rfl⟩ := int_at e2
    refine ⟨t, _, rfl, SqT.of upd_same, rfl, _, _, rfl, _, _, rfl, rfl, rfl, _, rfl, rfl, _, rfl, ?_⟩
    have e3 : Ex Hs (upd H1 t (.tup [.int (i : Int), .int u])) := e.trans (Ex.new ht)
    have hl3 : (upd H1 t (.tup [.int (i : Int), .int u])) D = some (.lst ((plcTo row d i).map V.int)) := by rw [upd_ne (ne_of_none hl ht)]; exact hl
    have ei : isAt row d i = decide (V.int u = V.int d) := by
      unfold isAt
      rw [hu]
      by_cases hud : u = d
      · subst hud; simp
      · simp [hud]
    refine ite2 (fun hc => ?_) (fun hc => ?_)
    · rw [hc] at ei
      refine ⟨_, rfl, _, hl3, small9 (by rw [List.length_map]; have := plcTo_len row d i; omega), e3.mut hD, ?_⟩
      rw [upd_same, plcTo_succ, if_pos ei, List.map_append] <;> rfl
    · refine ⟨e3, ?_⟩
      rw [hl3, plcTo_succ, if_neg (by rw [ei]; exact hc)]
  · rintro H' ⟨e, hl⟩
    rw [hlen] at hl
    exact k D H' hD e hl
theorem ok_Bits_init (T : TX K mg) : Can P w K mg base (L2.CX P w) 4 (He.fAd K at_Bits_init) ps_Bits_init [] (spBits K) := by
  obtain ⟨fd_InvalidRow_init, G_InvalidRow_init, ds_InvalidRow_init, v_InvalidRow_init, b_InvalidRow_init⟩ := ok_InvalidRow_init (P := P) (w := w) (base := base) T
  obtain ⟨fd__running_ones, G__running_ones, ds__running_ones, v__running_ones, b__running_ones⟩ := ok__running_ones (P := P) (w := w) (base := base) T
  exact mk_Bits_init T fun fd F => defX F sc_Bits_init (fun vs H Q E h => by
    obtain ⟨p, dx, l, row, rfl, _⟩ := h
    rfl) fun cdv A outer s H vs Q E hr h => by
    obtain ⟨p, dx, l, row, rfl, hp, hS, hz, k, kE⟩ := h
    refine ⟨_, (pss_cons (ps_for (passes_of rfl) rfl (iEnu K rfl (by rfl) T.n_enumerate (pa_cons (pv 1) pa_nil)) (pg_tup rfl (pgs_cons (pg_name (i := 2) sc_Bits_init.nd rfl (Or.inl rfl)) (pgs_cons (pg_name (i := 3) sc_Bits_init.nd rfl (Or.inl rfl)) pgs_nil)))
  (pss_one (ps_if (pt_cmpR (oNotIn K rfl) (pv 3) (pe_tup (pa_cons pe_int (pa_cons pe_int pa_nil))) (by rfl)) (pss_one (ps_raise rfl (takes_of rfl rfl rfl rfl) (pmk_oex T.ox_InvalidRow T.oi_InvalidRow T.ot_InvalidRow G_InvalidRow_init (hr.mono (by first | decide | omega)) b_InvalidRow_init v_InvalidRow_init pass0 rfl T.g_InvalidRow (pa_cons (pv 2) pa_nil)))) pss_nil)))
  (pss_cons (sFd K rfl (pv 0) (pe_callB (cLen K rfl) (by rfl) T.n_len PySem.boot_len (pa_cons (pv 1) pa_nil)) rfl)
  (pss_cons (sFd K rfl (pv 0) (pe_callB (cSum K rfl rfl) (by rfl) T.n_sum (by decide +kernel) (pa_cons (pv 1) pa_nil)) rfl)
  (pss_cons (sFd K rfl (pv 0) (pe_callTy (cList K rfl) (by rfl) T.n_list (by decide +kernel) (pa_cons (pv 1) pa_nil)) rfl)
  (pss_cons (sFd K rfl (pv 0) (pe_call G__running_ones (hr.mono (by first | decide | omega)) rfl T.g__running_ones T.k__running_ones b__running_ones v__running_ones pass0 (pa_cons (pv 1) pa_nil)) rfl)
  (pss_one (sFd K rfl (pv 0) (pe_disp (pps_cons pe_int (by exact (pe_lc (own := [("place", 2), ("digit", 3)]) (g := gTup K 2 (gCons (gName 2) (gCons (gName 3) gNil))) rfl sc_Bits_init.nd (iEnu K rfl (by rfl) T.n_enumerate (pa_cons (pv 1) pa_nil)) (blkOk_by (own := [("place", 2), ("digit", 3)]) (N := N_Bits_init) (sc := defScope s_Bits_init) (by decide +kernel)) (fun _ _ _ _ _ => by exact (pg_tup rfl (pgs_cons (pg_name (i := 2) sc_Bits_init.nd rfl (Or.inl rfl)) (pgs_cons (pg_name (i := 3) sc_Bits_init.nd rfl (Or.inl rfl)) pgs_nil)))) (fun _ _ _ _ _ => by exact pts_one (pt_cmpR op_eq (pv 3) pe_int (nomark _))) (fun _ _ _ _ _ => by exact (pv 2)))) (pps_cons pe_int (by exact (pe_lc (own := [("place", 2), ("digit", 3)]) (g := gTup K 2 (gCons (gName 2) (gCons (gName 3) gNil))) rfl sc_Bits_init.nd (iEnu K rfl (by rfl) T.n_enumerate (pa_cons (pv 1) pa_nil)) (blkOk_by (own := [("place", 2), ("digit", 3)]) (N := N_Bits_init) (sc := defScope s_Bits_init) (by decide +kernel)) (fun _ _ _ _ _ => by exact (pg_tup rfl (pgs_cons (pg_name (i := 2) sc_Bits_init.nd rfl (Or.inl rfl)) (pgs_cons (pg_name (i := 3) sc_Bits_init.nd rfl (Or.inl rfl)) pgs_nil)))) (fun _ _ _ _ _ => by exact pts_one (pt_cmpR op_eq (pv 3) pe_int (nomark _))) (fun _ _ _ _ _ => by exact (pv 2)))) pps_nil)) (by rfl) (by rfl) (fun z => by cases z) (by decide)) rfl))))))), ?_⟩
    have hlen : (row.map V.int).length = row.length := List.length_map ..
    refine ⟨_, rfl, l, _, rfl, hS, for_it walk_enum (fun i σ H' => ∃ v1 v2, σ = [some (.ref p), some (.ref l), v1, v2] ∧ Ex H H' ∧ ∀ (j : Nat) (u : Int), j < i → row[j]? = some u → bit u) ⟨none, none, rfl, Ex.refl H, fun j u h => absurd h (Nat.not_lt_zero _)⟩ (fun i σ H' _ ⟨_, _, _, e, _⟩ => ex_l e hS) ?_ ?_⟩
    · rintro i x σ H1 H2 hi ⟨v1, v2, rfl, e, hb⟩ ⟨t, y, x', rfl, ht, rfl, e1, e2⟩
      obtain rfl := Option.some.inj e1
      obtain ⟨u, hu, rfl⟩ := int_at e2
      have e3 : Ex H (upd H1 t (.tup [.int (i : Int), .int u])) := e.trans (Ex.new ht)
      refine ⟨t, _, rfl, SqT.of upd_same, rfl, _, _, rfl, _, _, rfl, rfl, ?_⟩
      refine ⟨_, rfl, by show 2 ≤ sizeLine; decide, fun q hq => ?_⟩
      refine ⟨q, _, rfl, .inr (SqT.of upd_same), rfl, rfl, _, rfl, ?_⟩
      rw [in01]
      have e4 : Ex H (upd (upd H1 t (.tup [.int (i : Int), .int u])) q (.tup [.int 0, .int 1])) := e3.trans (Ex.new hq)
      by_cases hbit : bit u
      · rw [decide_eq_true hbit]
        refine iteF ⟨_, _, rfl, e4, fun j v hj hv => ?_⟩
        by_cases hji : j < i
        · exact hb j v hji hv
        · obtain rfl : j = i := by omega
          rw [hu] at hv
          obtain rfl := Option.some.inj hv
          exact hbit
      · rw [decide_eq_false hbit]
        refine iteT ⟨_, rfl, made1 T.ox_InvalidRow T.na_InvalidRow_place fun d hd => ?_⟩
        exact kE i u hu hbit hb d _ (fresh_back e4 hd) (e4.trans (Ex.new hd)) upd_same
    · rintro σ H1 ⟨v1, v2, rfl, e, hb⟩
      rw [hlen] at hb
      have hall : ∀ z ∈ row, bit z := fun z hz' => by
        obtain ⟨j, hj, ej⟩ := List.mem_iff_getElem.mp hz'
        exact hb j z hj (by rw [List.getElem?_eq_getElem hj, ej])
      have p1 : H1 p = some (.ins (He.ga K "Bits") dx []) := e _ _ hp
      have f1 : Kp [p] H H1 := Kp.of e
      -- self.size = len(row); self.ones = sum(row)
      refine ⟨_, rfl, l, _, rfl, .inl (f1.sqL hp hS), _, rfl, p, _, dx, _, rfl, p1, T.cl_Bits, T.na_Bits_size, by show 0 < 1000; decide, ?_⟩
      rw [hlen]
      have f2 := f1.trans (Kp.up (p := p) (o := .ins (He.ga K "Bits") dx [("size", .int row.length)]))
      refine ⟨_, rfl, l, _, rfl, f2.sqL hp hS, _, rfl, p, _, dx, _, rfl, upd_same, T.cl_Bits, T.na_Bits_ones, by show 1 < 1000; decide, ?_⟩
      rw [upd_upd, show putF "ones" (V.int row.sum) (putF "size" (V.int row.length) []) = _ from pf_Bits_ones _ _]
      -- self._digits = list(row)
      have f3 := f1.trans (Kp.up (p := p) (o := .ins (He.ga K "Bits") dx [("size", .int row.length), ("ones", .int row.sum)]))
      refine ⟨_, rfl, l, _, rfl, .inl (f3.sqL hp hS), fun dg hdg => ?_⟩
      have n1 : dg ≠ p := fun z => by rw [z, upd_same] at hdg; cases hdg
      refine ⟨_, rfl, p, _, dx, _, rfl, by rw [upd_ne (Ne.symm n1)]; exact upd_same, T.cl_Bits, T.na_Bits__digits, by show 2 < 1000; decide, ?_⟩
      rw [pf_Bits__digits]
      generalize hA : upd (upd (upd H1 p _) dg _) p _ = H4
      have f4 : Kp [p] H H4 := by rw [← hA]; exact ((f3.trans (Kp.new hdg)).trans Kp.up)
      have g4 : H4 p = some (.ins (He.ga K "Bits") dx [("size", .int row.length), ("ones", .int row.sum), ("_digits", .ref dg)]) := by rw [← hA]; exact upd_same
      have d4 : H4 dg = some (.lst (row.map V.int)) := by rw [← hA, upd_ne n1]; exact upd_same
      -- self._counts = _running_ones(row)
      refine ⟨_, rfl, l, row, rfl, f4.sqL hp hS, hz, fun ct H5 hct e5 c5 => ?_⟩
      have n2 : ct ≠ p := fun z => by rw [z, g4] at hct; cases hct
      have n3 : ct ≠ dg := fun z => by rw [z, d4] at hct; cases hct
      refine ⟨_, rfl, p, _, dx, _, rfl, e5 _ _ g4, T.cl_Bits, T.na_Bits__counts, by show 3 < 1000; decide, ?_⟩
      rw [pf_Bits__counts]
      have f6 : Kp [p] H (upd H5 p (.ins (He.ga K "Bits") dx [("size", .int row.length), ("ones", .int row.sum), ("_digits", .ref dg), ("_counts", .ref ct)])) := (f4.trans (Kp.of e5)).trans Kp.up
      generalize hB : upd H5 p _ = H6 at f6 ⊢
      have g6 : H6 p = some (.ins (He.ga K "Bits") dx [("size", .int row.length), ("ones", .int row.sum), ("_digits", .ref dg), ("_counts", .ref ct)]) := by rw [← hB]; exact upd_same
      have d6 : H6 dg = some (.lst (row.map V.int)) := by rw [← hB, upd_ne n1]; exact e5 _ _ d4
      have c6 : H6 ct = some (.lst ((sums row).map V.int)) := by rw [← hB, upd_ne n2]; exact c5
      -- self._places = {0: [..], 1: [..]}
      intro pl hpl
      simp only [tPairs, tC]
      have e7 : Ex H6 (upd H6 pl (.dK [])) := Ex.new hpl
      refine places_lc (ex_l e7 (f6.sqL hp hS)) hz rfl fun z H8 hz8 e8 z8 => ?_
      refine places_lc (ex_l (e7.trans e8) (f6.sqL hp hS)) hz rfl fun o H9 ho9 e9 o9 => ?_
      refine ⟨e9 _ _ (e8 _ _ upd_same), [(.inl 0, .ref z), (.inl 1, .ref o)], rfl, by show 2 ≤ 15; decide, ?_⟩
      have e10 : Ex H6 H9 := e7.trans (e8.trans e9)
      have m1 : p ≠ pl := ne_of_none g6 hpl
      refine ⟨_, rfl, p, _, dx, _, rfl, by rw [upd_ne m1]; exact e10 _ _ g6, T.cl_Bits, T.na_Bits__places, by show 4 < 1000; decide, ?_⟩
      rw [pf_Bits__places]
      have m2 : z ≠ pl := fun q => by rw [q, upd_same] at hz8; cases hz8
      have m3 : o ≠ pl := fun q => by rw [q, e8 _ _ upd_same] at ho9; cases ho9
      have m4 : z ≠ p := fun q => by rw [q, upd_ne m1, g6] at hz8; cases hz8
      have m5 : o ≠ p := fun q => by rw [q, e8 _ _ (e7 _ _ g6)] at ho9; cases ho9
      have hpl0 : H pl = none := f6.back (fun a ha => by rw [List.mem_singleton.mp ha, g6]; intro q; cases q) hpl
      refine k hall [dg, ct, pl, z, o] _ (((f6.trans (Kp.of e10)).mut hpl0).trans Kp.up) (fun a ha => ?_) ⟨dx, dg, ct, pl, z, o, rfl, upd_same, ?_, ?_, ?_, ?_, ?_⟩
      · have b6 : ∀ a, H6 a = none → H a = none := fun a q => f6.back (fun b hb => by rw [List.mem_singleton.mp hb, g6]; intro q; cases q) q
        have b4 : ∀ a, H4 a = none → H a = none := fun a q => f4.back (fun b hb => by rw [List.mem_singleton.mp hb, g4]; intro q; cases q) q
        simp only [List.mem_cons, List.mem_nil_iff, or_false] at ha
        rcases ha with rfl | rfl | rfl | rfl | rfl
        · rw [upd_ne n1] at hdg
          exact fresh_back e hdg
        · exact b4 _ hct
        · exact hpl0
        · rw [upd_ne m2] at hz8
          exact b6 _ hz8
        · exact b6 _ (fresh_back (e7.trans e8) ho9)
      · rw [upd_ne n1, upd_ne (ne_of_none d6 hpl)]
        exact e10 _ _ d6
      · rw [upd_ne n2, upd_ne (ne_of_none c6 hpl)]
        exact e10 _ _ c6
      · rw [upd_ne (Ne.symm m1)]
        exact upd_same
      · rw [upd_ne m4, upd_ne m2]
        exact e9 _ _ z8
      · rw [upd_ne m5, upd_ne m3]
        exact o9
def spAt (K : PySem.W.Frag) : Sp := fun vs H Q E => ∃ (p : Addr) (i : Int) (row : List Int), vs = [.ref p, .int i] ∧ (∃ F, BitsAt (He.ga K "Bits") H p row F) ∧ (∀ z, 0 ≤ i → row[i.toNat]? = some z → Q (.int z) H) ∧ (¬ (0 ≤ i ∧ i < row.length) → BadPlace K H E i)
def rk (row : List Int) (i g : Int) : Int := if g = 1 then pre row i.toNat else if g = 0 then i - pre row i.toNat else 0
def spRank (K : PySem.W.Frag) : Sp := fun vs H Q E => ∃ (p : Addr) (i g : Int) (row : List Int), vs = [.ref p, .int i, .int g] ∧ (∃ F, BitsAt (He.ga K "Bits") H p row F) ∧ (0 ≤ i → i ≤ row.length → Q (.int (rk row i g)) H) ∧ (¬ (0 ≤ i ∧ i ≤ row.length) → BadPlace K H E i)
def spSelect (K : PySem.W.Frag) : Sp := fun vs H Q E => ∃ (p : Addr) (k g : Int) (row : List Int), vs = [.ref p, .int k, .int g] ∧ (∃ F, BitsAt (He.ga K "Bits") H p row F) ∧ bit g ∧ (0 ≤ k → RetV (kth (plc row g) k) H Q) ∧ (k < 0 → BadPlace K H E k)
def spRow (K : PySem.W.Frag) : Sp := fun vs H Q _ => ∃ (p : Addr) (row : List Int), vs = [.ref p] ∧ (∃ F, BitsAt (He.ga K "Bits") H p row F) ∧ RetL (row.map V.int) H Q
theorem ok_Bits_row (T : TX K mg) : Can P w K mg base CX0 1 (He.fAd K at_Bits_row) ps_Bits_row [] (spRow K) := mk_Bits_row T fun fd F => def0 F sc_Bits_row (fun vs H Q E h => by
  obtain ⟨p, row, rfl, _⟩ := h
  rfl) fun cdv A outer s H vs Q E hr h => by
  obtain ⟨p, row, rfl, ⟨_, dx, dg, ct, pl, z, o, _, hp, hdg, _⟩, k⟩ := h
  refine ⟨_, (pss_one (ps_ret (pe_callTy (cList K rfl) (by rfl) T.n_list (by decide +kernel) (pa_cons (eFld K rfl (pv 0) rfl) pa_nil)))), ?_⟩
  exact ⟨_, rfl, p, _, dx, _, _, rfl, hp, T.cl_Bits, T.na_Bits__digits, fl_Bits__digits .., dg, _, rfl, .inl (SqL.of hdg), fun l hl => k l _ hl (Ex.new hl) upd_same⟩
theorem ok_Bits_at (T : TX K mg) : Can P w K mg base (L2.CX P w) 4 (He.fAd K at_Bits_at) ps_Bits_at [] (spAt K) := by
  obtain ⟨fd_InvalidPlace_init, G_InvalidPlace_init, ds_InvalidPlace_init, v_InvalidPlace_init, b_InvalidPlace_init⟩ := ok_InvalidPlace_init (P := P) (w := w) (base := base) T
  exact mk_Bits_at T fun fd F => defX F sc_Bits_at (fun vs H Q E h => by
    obtain ⟨p, i, row, rfl, _⟩ := h
    rfl) fun cdv A outer s H vs Q E hr h => by
    obtain ⟨p, i, row, rfl, ⟨_, dx, dg, ct, pl, z, o, _, hp, hdg, _⟩, k, kE⟩ := h
    refine ⟨_, (pss_cons (ps_if (pt_not (pt_chain op_le op_lt pe_int (pv 1) (eFld K rfl (pv 0) rfl))) (pss_one (ps_raise rfl (takes_of rfl rfl rfl rfl) (pmk_oex T.ox_InvalidPlace T.oi_InvalidPlace T.ot_InvalidPlace G_InvalidPlace_init (hr.mono (by first | decide | omega)) b_InvalidPlace_init v_InvalidPlace_init pass0 rfl T.g_InvalidPlace (pa_cons (pv 1) pa_nil)))) pss_nil)
  (pss_one (ps_ret (pe_ix (ixL K rfl) (eFld K rfl (pv 0) rfl) (pv 1) (fun _ _ => rfl))))), ?_⟩
    refine st_seq (st_if (ans_not (ans_v (val_chain (g := fun i j => decide (i ≤ j)) (g' := fun i j => decide (i < j)) val_c (val_var rfl) (val_fld (val_var rfl) hp T.cl_Bits T.na_Bits_size (fl_Bits_size ..))))) (fun hb => ?_) (fun hb => ?_))
    · refine st_raise1 (W := fun cls d _ H => E cls d H) (y := .int i) T.ox_InvalidPlace T.na_InvalidPlace_place (val_var rfl) fun d hd => kE (fun hc => ?_) d _ hd (Ex.new hd) upd_same
      rw [decide_eq_true hc.1, decide_eq_true hc.2] at hb
      cases hb
    · simp only [Bool.not_eq_false', Bool.and_eq_true, decide_eq_true_eq] at hb
      have hi : i.toNat < row.length := by omega
      exact st_ret (val_ixL (val_fld (val_var rfl) hp T.cl_Bits T.na_Bits__digits (fl_Bits__digits ..)) (val_var rfl) (SqL.of hdg) (at_of (j := i.toNat) (by omega) (at_int (List.getElem?_eq_getElem hi)))) (k _ hb.1 (List.getElem?_eq_getElem hi))
theorem rank_go (T : TX K mg) {k : Nat} {fd : FuncData} (F : FunD K "rank" "Bits.rank" (defArgs s_Bits_rank) (defBody s_Bits_rank) (defScope s_Bits_rank) [.int 1] [] (He.fAd K at_Bits_rank) fd) : FnOk P w K mg base (L2.CX P w) 4 (He.fAd K at_Bits_rank) fd ps_Bits_rank (spRank K) := by
  obtain ⟨fd_InvalidPlace_init, G_InvalidPlace_init, ds_InvalidPlace_init, v_InvalidPlace_init, b_InvalidPlace_init⟩ := ok_InvalidPlace_init (P := P) (w := w) (base := base) T
  exact defX F sc_Bits_rank (fun vs H Q E h => by
    obtain ⟨p, i, g, row, rfl, _⟩ := h
    rfl) fun cdv A outer s H vs Q E hr h => by
    obtain ⟨p, i, g, row, rfl, ⟨_, dx, dg, ct, pl, z, o, _, hp, hdg, hct, _⟩, k, kE⟩ := h
    refine ⟨_, (pss_cons (ps_if (pt_not (pt_chain op_le op_le pe_int (pv 1) (eFld K rfl (pv 0) rfl))) (pss_one (ps_raise rfl (takes_of rfl rfl rfl rfl) (pmk_oex T.ox_InvalidPlace T.oi_InvalidPlace T.ot_InvalidPlace G_InvalidPlace_init (hr.mono (by first | decide | omega)) b_InvalidPlace_init v_InvalidPlace_init pass0 rfl T.g_InvalidPlace (pa_cons (pv 1) pa_nil)))) pss_nil)
  (pss_cons (ps_if (pt_cmpR op_eq (pv 2) pe_int (nomark _)) (pss_one (ps_ret (pe_ix (ixL K rfl) (eFld K rfl (pv 0) rfl) (pv 1) (fun _ _ => rfl)))) pss_nil)
  (pss_cons (ps_if (pt_cmpR op_eq (pv 2) pe_int (nomark _)) (pss_one (ps_ret (pe_op op_sub (pv 1) (pe_ix (ixL K rfl) (eFld K rfl (pv 0) rfl) (pv 1) (fun _ _ => rfl))))) pss_nil)
  (pss_one (ps_ret pe_int))))), ?_⟩
    refine st_seq (st_if (ans_not (ans_v (val_chain (g := fun i j => decide (i ≤ j)) (g' := fun i j => decide (i ≤ j)) val_c (val_var rfl) (val_fld (val_var rfl) hp T.cl_Bits T.na_Bits_size (fl_Bits_size ..))))) (fun hb => ?_) (fun hb => ?_))
    · refine st_raise1 (W := fun cls d _ H => E cls d H) (y := .int i) T.ox_InvalidPlace T.na_InvalidPlace_place (val_var rfl) fun d hd => kE (fun hc => ?_) d _ hd (Ex.new hd) upd_same
      rw [decide_eq_true hc.1, decide_eq_true hc.2] at hb
      cases hb
    · simp only [Bool.not_eq_false', Bool.and_eq_true, decide_eq_true_eq] at hb
      have hi : i.toNat ≤ row.length := by omega
      have hk := k hb.1 hb.2
      have vc : Val (tOp (rIxL K) (tFld K (tVar 0) "_counts") (tVar 1)) (L2.start N_Bits_rank [V.ref p, V.int i, V.int g]) H (.int (pre row i.toNat)) :=
        val_ixL (val_fld (val_var rfl) hp T.cl_Bits T.na_Bits__counts (fl_Bits__counts ..)) (val_var rfl) (SqL.of hct) (at_of (j := i.toNat) (by omega) (at_int (sums_at hi)))
      refine st_seq (st_if (ans_v (val_eq (val_var rfl) val_c rfl)) (fun h1 => ?_) (fun h1 => ?_))
      · have e1 : g = 1 := by simpa using h1
        subst e1
        exact st_ret vc hk
      · have e1 : ¬ g = 1 := by simpa using h1
        refine st_seq (st_if (ans_v (val_eq (val_var rfl) val_c rfl)) (fun h2 => ?_) (fun h2 => ?_))
        · have e2 : g = 0 := by simpa using h2
          subst e2
          exact st_ret (val_I (g := fun i j => .int (i - j)) (val_var rfl) vc) hk
        · have e2 : ¬ g = 0 := by simpa using h2
          rw [rk, if_neg e1, if_neg e2] at hk
          exact hk
theorem ok_Bits_rank (T : TX K mg) : Can P w K mg base (L2.CX P w) 4 (He.fAd K at_Bits_rank) ps_Bits_rank [] (spRank K) := mk_Bits_rank T fun fd F => rank_go (k := 0) T F
theorem ok_Bits_rank_1 (T : TX K mg) : Can P w K mg base (L2.CX P w) 4 (He.fAd K at_Bits_rank) ps_Bits_rank [.int 1] (spRank K) := mk_Bits_rank_1 T fun fd F => rank_go (k := 0) T F
theorem select_go (T : TX K mg) {fd : FuncData} (F : FunD K "select" "Bits.select" (defArgs s_Bits_select) (defBody s_Bits_select) (defScope s_Bits_select) [.int 1] [] (He.fAd K at_Bits_select) fd) : FnOk P w K mg base (L2.CX P w) 4 (He.fAd K at_Bits_select) fd ps_Bits_select (spSelect K) := by
  obtain ⟨fd_InvalidPlace_init, G_InvalidPlace_init, ds_InvalidPlace_init, v_InvalidPlace_init, b_InvalidPlace_init⟩ := ok_InvalidPlace_init (P := P) (w := w) (base := base) T
  exact defX F sc_Bits_select (fun vs H Q E h => by
    obtain ⟨p, i, g, row, rfl, _⟩ := h
    rfl) fun cdv A outer s H vs Q E hr h => by
    obtain ⟨p, i, g, row, rfl, ⟨_, dx, dg, ct, pl, z, o, _, hp, hdg, hct, hpl, hz, ho⟩, hg, k, kE⟩ := h
    refine ⟨_, (pss_cons (ps_if (pt_cmpR op_lt (pv 1) pe_int (nomark _)) (pss_one (ps_raise rfl (takes_of rfl rfl rfl rfl) (pmk_oex T.ox_InvalidPlace T.oi_InvalidPlace T.ot_InvalidPlace G_InvalidPlace_init (hr.mono (by first | decide | omega)) b_InvalidPlace_init v_InvalidPlace_init pass0 rfl T.g_InvalidPlace (pa_cons (pv 1) pa_nil)))) pss_nil)
  (pss_cons (ps_set (i := 3) sc_Bits_select.nd rfl (Or.inl rfl) (pe_dget2 (hu_of hr) (eFld K rfl (pv 0) rfl) (pv 2) (pe_lst pa_nil) ⟨rfl, rfl, rfl, rfl⟩))
  (pss_one (ps_ret (pe_ifExp (pt_cmpR op_lt (pv 1) (pe_callB (cLen K rfl) (by rfl) T.n_len PySem.boot_len (pa_cons (pv 3) pa_nil)) (nomark _)) (pe_ix (ixL K rfl) (pv 3) (pv 1) (fun _ _ => rfl)) pe_non))))), ?_⟩
    refine st_seq (st_if (ans_v (val_I (g := fun i j => .bl (decide (i < j))) (val_var rfl) val_c)) (fun hb => ?_) (fun hb => ?_))
    · exact st_raise1 (W := fun cls d _ H => E cls d H) (y := .int i) T.ox_InvalidPlace T.na_InvalidPlace_place (val_var rfl) fun d hd => kE (of_decide_eq_true hb) d _ hd (Ex.new hd) upd_same
    · have h0 : 0 ≤ i := by
        have := of_decide_eq_false hb
        omega
      have hk := k h0
      obtain ⟨q, hq, hv⟩ : ∃ q : Addr, H q = some (.lst ((plc row g).map V.int)) ∧ valV [((.inl 0 : Key), V.ref z), (.inl 1, V.ref o)] (.inl g) = some (.ref q) := by
        rcases hg with rfl | rfl
        · exact ⟨z, hz, rfl⟩
        · exact ⟨o, ho, rfl⟩
      refine ⟨_, rfl, p, _, dx, _, _, rfl, hp, T.cl_Bits, T.na_Bits__places, fl_Bits__places .., pl, rfl, .inl ⟨_, Rd.of hpl⟩, _, rfl, by show 0 ≤ sizeLine; decide, fun n hn => ⟨_, DGet.k (k := (Sum.inl g : Key)) (by rw [upd_ne (ne_of_none hpl hn)]; exact hpl), ?_⟩⟩
      rw [hv]
      have e : Ex H (upd H n (.lst [])) := Ex.new hn
      have hq' := e _ _ hq
      refine st_ret (v := kth (plc row g) i) (val_if (ans_v (val_I (g := fun i j => .bl (decide (i < j))) (val_var rfl) (val_lenL (val_var rfl) (SqL.of hq')))) (fun h1 => ?_) (fun h1 => ?_)) (hk _ e)
      · have h2 : i < (plc row g).length := by
          have := of_decide_eq_true h1
          rwa [List.length_map] at this
        obtain ⟨y, hy, hky⟩ := kth_lt h0 h2
        rw [hky]
        exact val_ixL (val_var rfl) (val_var rfl) (SqL.of hq') (at_of (j := i.toNat) (by omega) (at_int hy))
      · have h2 : ¬ i < (plc row g).length := by
          have := of_decide_eq_false h1
          rwa [List.length_map] at this
        rw [kth_ge h0 h2]
        exact val_c
theorem ok_Bits_select (T : TX K mg) : Can P w K mg base (L2.CX P w) 4 (He.fAd K at_Bits_select) ps_Bits_select [] (spSelect K) := mk_Bits_select T fun fd F => select_go T F
theorem ok_Bits_select_1 (T : TX K mg) : Can P w K mg base (L2.CX P w) 4 (He.fAd K at_Bits_select) ps_Bits_select [.int 1] (spSelect K) := mk_Bits_select_1 T fun fd F => select_go T F
end
/-! ### drawn rows of bits -/
theorem bit_le {z : Int} (h0 : 0 ≤ z) (h1 : z < 2) : bit z := by
  unfold bit
  omega
theorem bit_b (b : Bool) : bit (if b then 1 else 0) := by cases b <;> simp [bit]
def spLawBits : Sp := fun vs H Q _ => ∃ (d s : Addr) (m : Int), vs = [.ref d, .int m] ∧ 0 ≤ m ∧ m < 1000 ∧ Deck H d s ∧ ∀ (p : Addr) (row : List Int) (H' : Hp), H p = none → (∀ z ∈ row, bit z) → row.length ≤ m → Deck H' d s → Kp [d] H H' → H' p = some (.lst (row.map V.int)) → Q (.ref p) H'
section
variable {P : Program} {w : World} {K : PySem.W.Frag} {mg : Str → Option Value} {base : Heap}
theorem ok__law_bits (T : TX K mg) : Can P w K mg base CX0 2 (He.fAd K at__law_bits) ps__law_bits [] spLawBits := by
  obtain ⟨fd__law_draw, G__law_draw, ds__law_draw, v__law_draw, b__law_draw⟩ := ok__law_draw (P := P) (w := w) (base := base) T
  exact mk__law_bits T fun fd F => def0 F sc__law_bits (fun vs H Q E h => by
    obtain ⟨d, z, m, rfl, _⟩ := h
    rfl) fun cdv A outer s H vs Q E hr h => by
    obtain ⟨d, sc, m, rfl, m0, m1, D, k⟩ := h
    refine ⟨_, (pss_cons (ps_set (i := 2) sc__law_bits.nd rfl (Or.inl rfl) (pe_call G__law_draw (hr.mono (by first | decide | omega)) rfl T.g__law_draw T.k__law_draw b__law_draw v__law_draw pass0 (pa_cons (pv 0) (pa_cons pe_int pa_nil))))
  (pss_cons (ps_set (i := 3) sc__law_bits.nd rfl (Or.inl rfl) (pe_lst pa_nil))
  (pss_cons (ps_for PassesOwn.never rfl (pi_range1 rfl T.n_range (pa_cons (pe_call G__law_draw (hr.mono (by first | decide | omega)) rfl T.g__law_draw T.k__law_draw b__law_draw v__law_draw pass0 (pa_cons (pv 0) (pa_cons (pe_op op_add (pv 1) pe_int) pa_nil))) pa_nil)) (pg_name (i := 4) sc__law_bits.nd rfl (Or.inl rfl))
  (pss_one (ps_expr (eBm K rfl PySem.F.plainAttrs_list PySem.F.slot_list_append PySem.F.type_list_append mt_append (pv 3) (pa_cons (pe_ix (ixL K rfl) (pe_lst (pa_cons (pe_call G__law_draw (hr.mono (by first | decide | omega)) rfl T.g__law_draw T.k__law_draw b__law_draw v__law_draw pass0 (pa_cons (pv 0) (pa_cons pe_int pa_nil))) (pa_cons (pe_callTy call_int1 (by rfl) T.n_int (by decide +kernel) (pa_cons (pe_cmpR op_eq (pe_call G__law_draw (hr.mono (by first | decide | omega)) rfl T.g__law_draw T.k__law_draw b__law_draw v__law_draw pass0 (pa_cons (pv 0) (pa_cons pe_int pa_nil))) pe_int (nomark _)) pa_nil)) (pa_cons (pe_callTy call_int1 (by rfl) T.n_int (by decide +kernel) (pa_cons (pe_cmpR op_gt (pe_call G__law_draw (hr.mono (by first | decide | omega)) rfl T.g__law_draw T.k__law_draw b__law_draw v__law_draw pass0 (pa_cons (pv 0) (pa_cons pe_int pa_nil))) pe_int (nomark _)) pa_nil)) (pa_cons (pe_callTy call_int1 (by rfl) T.n_int (by decide +kernel) (pa_cons (pe_cmpR op_gt (pv 2) pe_int (nomark _)) pa_nil)) pa_nil))))) (pv 2) (fun _ _ => rfl)) pa_nil)))))
  (pss_one (ps_ret (pv 3)))))), ?_⟩
    refine rd_draw rfl val_c (by decide) (by decide) D fun kind H1 k0 k1 D1 e1 => ?_
    refine ⟨by show 0 ≤ sizeLine; decide, fun p hp => ?_⟩
    have hp0 : H p = none := e1.back (fun a ha => by rw [List.mem_singleton.mp ha]; exact D1.lst) hp
    have npd : p ≠ d := D1.ne_new hp
    have nps : p ≠ sc := D1.ne_new2 hp
    refine rd_draw rfl (val_I (g := fun i j => .int (i + j)) (val_var rfl) val_c) (by omega) (by omega) (D1.put hp) fun n H2 n0 n1 D2 e2 => ?_
    refine ⟨n, rfl, by omega, by omega, for_range (lo := 0) (n := n.toNat) (fun i σ H' => ∃ v, ∃ row : List Int, σ = [some (.ref d), some (.int m), some (.int kind), some (.ref p), v] ∧ Kp [d] H H' ∧ Deck H' d sc ∧ H' p = some (.lst (row.map V.int)) ∧ (∀ z ∈ row, bit z) ∧ row.length = i)
      ⟨none, [], rfl, ?_, D2, e2.at upd_same (by simpa using npd), (fun z hz => absurd hz (by simp)), rfl⟩ ?_ ?_⟩
    · exact (e1.trans (Kp.new hp)).trans e2
    · rintro i σ H3 hi ⟨v, row, rfl, e3, D3, hl, hb, hlen⟩
      -- row.append([..][kind])
      refine ⟨_, rfl, .inl ⟨rfl, _, SqL.of hl⟩, ?_⟩
      refine rd_draw rfl val_c (by decide) (by decide) D3 fun x1 H4 a0 a1 D4 e4 => ?_
      refine rd_draw rfl val_c (by decide) (by decide) D4 fun x2 H5 b0 b1 D5 e5 => ?_
      refine ⟨rfl, .inr ⟨_, rfl, ?_⟩⟩
      refine rd_draw rfl val_c (by decide) (by decide) D5 fun x3 H6 c0 c1 D6 e6 => ?_
      refine ⟨_, _, rfl, rfl, .inr ⟨_, rfl, ?_⟩⟩
      refine ⟨_, rfl, _, _, rfl, rfl, .inr ⟨_, rfl, ?_⟩⟩
      refine ⟨by show 4 ≤ sizeLine; decide, fun q hq => ?_⟩
      have e36 : Kp [d] H3 H6 := (e4.trans e5).trans e6
      have nqd : q ≠ d := D6.ne_new hq
      have hl6 : H6 p = some (.lst (row.map V.int)) := e36.at hl (by simpa using npd)
      have npq : p ≠ q := ne_of_none hl6 hq
      obtain ⟨z, hz, ez⟩ : ∃ z : Int, bit z ∧ atI [V.int x1, V.int (if decide (V.int x2 = V.int 0) then 1 else 0), V.int (if decide (0 < x3) then 1 else 0), V.int (if decide (2 < kind) then 1 else 0)] kind = some (.int z) := by
        rcases (show kind = 0 ∨ kind = 1 ∨ kind = 2 ∨ kind = 3 by omega) with rfl | rfl | rfl | rfl
        · exact ⟨x1, bit_le a0 a1, rfl⟩
        · exact ⟨_, bit_b _, rfl⟩
        · exact ⟨_, bit_b _, rfl⟩
        · exact ⟨_, bit_b _, rfl⟩
      refine ⟨_, rfl, q, _, kind, _, rfl, rfl, SqL.of upd_same, ez, p, _, _, rfl, rfl, by rw [upd_ne npq]; exact hl6, small9 (by rw [List.length_map]; omega), ?_⟩
      refine ⟨_, row ++ [z], rfl, ?_, ?_, ?_, ?_, by rw [List.length_append, hlen]; rfl⟩
      · exact ((e3.trans e36).trans (Kp.new hq)).mut hp0
      · exact (D6.put hq).mut npd nps
      · rw [upd_same, List.map_append]
        rfl
      · intro y hy
        rcases List.mem_append.mp hy with h | h
        · exact hb y h
        · rw [List.mem_singleton.mp h]
          exact hz
    · rintro σ H3 ⟨v, row, rfl, e3, D3, hl, hb, hlen⟩
      exact st_ret (val_var rfl) (k p row H3 hp0 hb (by omega) D3 e3 hl)
end
/-! ### ascending places -/
theorem plcTo_mem {row : List Int} {s : Int} {n : Nat} {z : Int} : z ∈ plcTo row s n ↔ ∃ i : Nat, z = (i : Int) ∧ i < n ∧ row[i]? = some s := by
  unfold plcTo isAt
  simp only [List.mem_map, List.mem_filter, List.mem_range, decide_eq_true_eq]
  constructor
  · rintro ⟨i, ⟨h1, h2⟩, rfl⟩
    exact ⟨i, rfl, h1, h2⟩
  · rintro ⟨i, rfl, h1, h2⟩
    exact ⟨i, ⟨h1, h2⟩, rfl⟩
theorem plcTo_lt (row : List Int) (s : Int) (n : Nat) : (plcTo row s n).Pairwise (· < ·) := by
  unfold plcTo
  rw [List.pairwise_map]
  refine List.Pairwise.imp (R := (· < ·)) (fun {a b} h => by omega) ?_
  exact List.Pairwise.filter _ List.pairwise_lt_range
theorem plcTo_split {row : List Int} {s : Int} {i : Nat} : ∀ {n : Nat}, i ≤ n → ∃ r, plcTo row s n = plcTo row s i ++ r ∧ ∀ z ∈ r, (i : Int) ≤ z
  | 0, h => by
    obtain rfl : i = 0 := by omega
    exact ⟨[], by rw [List.append_nil], fun z hz => absurd hz (by simp)⟩
  | n + 1, h => by
    by_cases e : i = n + 1
    · subst e
      exact ⟨[], by rw [List.append_nil], fun z hz => absurd hz (by simp)⟩
    · obtain ⟨r, h1, h2⟩ := plcTo_split (row := row) (s := s) (i := i) (n := n) (by omega)
      rw [plcTo_succ]
      by_cases c : isAt row s n = true
      · rw [if_pos c, h1]
        refine ⟨r ++ [(n : Int)], by rw [List.append_assoc], fun z hz => ?_⟩
        rcases List.mem_append.mp hz with h | h
        · exact h2 z h
        · rw [List.mem_singleton.mp h]
          omega
      · rw [if_neg c]
        exact ⟨r, h1, h2⟩
theorem plcTo_below {row : List Int} {s : Int} {n : Nat} {z : Int} (h : z ∈ plcTo row s n) : 0 ≤ z ∧ z < n := by
  obtain ⟨i, rfl, h1, _⟩ := plcTo_mem.mp h
  omega
theorem filter_all {α : Type} {p : α → Bool} : ∀ {l : List α}, (∀ z ∈ l, p z = true) → l.filter p = l
  | [], _ => rfl
  | a :: r, h => by rw [List.filter_cons, if_pos (h a (List.mem_cons_self ..)), filter_all fun z hz => h z (List.mem_cons_of_mem _ hz)]
theorem filter_none {α : Type} {p : α → Bool} : ∀ {l : List α}, (∀ z ∈ l, p z = false) → l.filter p = []
  | [], _ => rfl
  | a :: r, h => by rw [List.filter_cons, if_neg (by rw [h a (List.mem_cons_self ..)]; decide), filter_none fun z hz => h z (List.mem_cons_of_mem _ hz)]
/-- how many items are less than m -/
def below (ns : List Int) (m : Int) : Nat := (ns.filter fun z => decide (z < m)).length
theorem below_at {ns : List Int} {m : Int} {k : Nat} (hk : k ≤ ns.length) (h1 : ∀ (j : Nat) (z : Int), j < k → ns[j]? = some z → z < m) (h2 : ∀ (j : Nat) (z : Int), k ≤ j → ns[j]? = some z → ¬ z < m) : below ns m = k := by
  unfold below
  rw [← List.take_append_drop k ns, List.filter_append, filter_all (l := ns.take k), filter_none (l := ns.drop k), List.append_nil, List.length_take, Nat.min_eq_left hk]
  · intro z hz
    obtain ⟨j, hj, e⟩ := List.mem_iff_getElem.mp hz
    rw [List.length_drop] at hj
    refine decide_eq_false (h2 (k + j) z (by omega) ?_)
    rw [← e, List.getElem_drop, List.getElem?_eq_getElem (by omega)]
  · intro z hz
    obtain ⟨j, hj, e⟩ := List.mem_iff_getElem.mp hz
    rw [List.length_take] at hj
    refine decide_eq_true (h1 j z (by omega) ?_)
    rw [← e, List.getElem_take, List.getElem?_eq_getElem (by omega)]
theorem below_plc {row : List Int} {s : Int} {i n : Nat} (h : i ≤ n) : below (plcTo row s n) (i : Int) = (plcTo row s i).length := by
  obtain ⟨r, h1, h2⟩ := plcTo_split (row := row) (s := s) h
  unfold below
  rw [h1, List.filter_append, filter_all, filter_none, List.append_nil]
  · intro z hz
    exact decide_eq_false (by have := h2 z hz; omega)
  · intro z hz
    exact decide_eq_true (plcTo_below hz).2
section
variable {P : Program} {w : World} {K : PySem.W.Frag} {mg : Str → Option Value} {base : Heap}
theorem ok_InvalidSize_init (T : TX K mg) : Can P w K mg base CX0 1 (He.fAd K at_InvalidSize_init) ps_InvalidSize_init [] (spX1 K (He.ga K "InvalidSize") "size") := mk_InvalidSize_init T fun fd F => def0 F sc_InvalidSize_init (fun vs H Q E h => by
  obtain ⟨a, y, rfl, _⟩ := h
  rfl) fun cdv A outer s H vs Q E hr h => by
  obtain ⟨a, y, rfl, O, hno, ha, k⟩ := h
  refine ⟨_, (pss_one (ps_ost (pv 0) (pv 1))), ?_⟩
  exact ⟨_, rfl, _, rfl, a, _, rfl, O, hno, .inl ⟨ha, fun dx n1 n2 => k dx n1 n2⟩⟩
theorem ok_InvalidSymbol_init (T : TX K mg) : Can P w K mg base CX0 1 (He.fAd K at_InvalidSymbol_init) ps_InvalidSymbol_init [] (spX1 K (He.ga K "InvalidSymbol") "symbol") := mk_InvalidSymbol_init T fun fd F => def0 F sc_InvalidSymbol_init (fun vs H Q E h => by
  obtain ⟨a, y, rfl, _⟩ := h
  rfl) fun cdv A outer s H vs Q E hr h => by
  obtain ⟨a, y, rfl, O, hno, ha, k⟩ := h
  refine ⟨_, (pss_one (ps_ost (pv 0) (pv 1))), ?_⟩
  exact ⟨_, rfl, _, rfl, a, _, rfl, O, hno, .inl ⟨ha, fun dx n1 n2 => k dx n1 n2⟩⟩
end
/-! ### rows of symbols -/
def spCount (K : PySem.W.Frag) : Sp := fun vs H Q _ => ∃ (l : Addr) (ns : List Int) (m : Int), vs = [.ref l, .int m] ∧ SqL K H l (ns.map V.int) ∧ ns.length ≤ 100000 ∧ ns.Pairwise (· < ·) ∧ Q (.int (below ns m)) H
theorem asc_at {ns : List Int} (h : ns.Pairwise (· < ·)) {i j : Nat} {y z : Int} (hij : i < j) (hi : ns[i]? = some y) (hj : ns[j]? = some z) : y < z := by
  obtain ⟨h1, e1⟩ := List.getElem?_eq_some_iff.mp hi
  obtain ⟨h2, e2⟩ := List.getElem?_eq_some_iff.mp hj
  have := List.pairwise_iff_getElem.mp h i j h1 h2 hij
  rw [e1, e2] at this
  exact this
section
variable {P : Program} {w : World} {K : PySem.W.Frag} {mg : Str → Option Value} {base : Heap}
theorem ok_count_below (T : TX K mg) : Can P w K mg base CX0 1 (He.fAd K at_count_below) ps_count_below [] (spCount K) := mk_count_below T fun fd F => def0 F sc_count_below (fun vs H Q E h => by
  obtain ⟨l, ns, m, rfl, _⟩ := h
  rfl) fun cdv A outer s H vs Q E hr h => by
  obtain ⟨l, ns, m, rfl, hS, hz, hp, k⟩ := h
  refine ⟨_, (pss_cons (ps_set (i := 2) sc_count_below.nd rfl (Or.inl rfl) pe_int)
  (pss_cons (ps_set (i := 3) sc_count_below.nd rfl (Or.inl rfl) (pe_callB (cLen K rfl) (by rfl) T.n_len PySem.boot_len (pa_cons (pv 0) pa_nil)))
  (pss_cons (ps_while PassesOwn.never (pt_cmpR op_lt (pv 2) (pv 3) (nomark _))
  (pss_cons (ps_set (i := 4) sc_count_below.nd rfl (Or.inl rfl) (pe_op op_fdivN (pe_op op_add (pv 2) (pv 3)) pe_int))
  (pss_one (ps_if (pt_cmpR op_lt (pe_ix (ixL K rfl) (pv 0) (pv 4) (fun _ _ => rfl)) (pv 1) (nomark _)) (pss_one (ps_set (i := 2) sc_count_below.nd rfl (Or.inl rfl) (pe_op op_add (pv 4) pe_int))) (pss_one (ps_set (i := 3) sc_count_below.nd rfl (Or.inl rfl) (pv 4)))))))
  (pss_one (ps_ret (pv 2)))))), ?_⟩
  refine st_seq (st_set val_c (st_seq (st_set (v := .int (ns.length : Int)) (val_is (val_lenL (val_var rfl) hS) (by rw [List.length_map])) ?_)))
  refine ⟨fun q σ H' => ∃ (lo hi : Nat) (v : Option V), σ = [some (.ref l), some (.int m), some (.int (lo : Int)), some (.int (hi : Int)), v] ∧ H' = H ∧ q = hi - lo ∧ lo ≤ hi ∧ hi ≤ ns.length ∧ (∀ (j : Nat) (z : Int), j < lo → ns[j]? = some z → z < m) ∧ (∀ (j : Nat) (z : Int), hi ≤ j → ns[j]? = some z → ¬ z < m),
    ⟨ns.length, 0, ns.length, none, rfl, rfl, by omega, Nat.zero_le _, Nat.le_refl _, fun j z h => absurd h (Nat.not_lt_zero _), fun j z h e => by rw [List.getElem?_eq_none h] at e; cases e⟩, ?_⟩
  rintro q σ H' ⟨lo, hi, v, rfl, rfl, rfl, h1, h2, h3, h4⟩
  refine ans_v (val_I (g := fun i j => .bl (decide (i < j))) (val_var rfl) (val_var rfl)) _ ?_
  refine ite2 (fun hc => ?_) (fun hc => ?_)
  · have hlt : lo < hi := by
      have := of_decide_eq_true hc
      omega
    have hmid : ((lo : Int) + (hi : Int)).fdiv 2 = (((lo + hi) / 2 : Nat) : Int) := by
      rw [Int.fdiv_eq_ediv_of_nonneg _ (by decide)]
      omega
    have hm2 : (lo + hi) / 2 < ns.length := by omega
    refine ⟨fun σ' H'' => ∃ q', q' < hi - lo ∧ ∃ (lo' hi' : Nat) (v : Option V), σ' = [some (.ref l), some (.int m), some (.int (lo' : Int)), some (.int (hi' : Int)), v] ∧ H'' = H' ∧ q' = hi' - lo' ∧ lo' ≤ hi' ∧ hi' ≤ ns.length ∧ (∀ (j : Nat) (z : Int), j < lo' → ns[j]? = some z → z < m) ∧ (∀ (j : Nat) (z : Int), hi' ≤ j → ns[j]? = some z → ¬ z < m),
      fun σ' H'' ⟨q', hq, h⟩ => ⟨q', hq, h⟩, ?_⟩
    refine st_seq (st_set (v := .int (((lo + hi) / 2 : Nat) : Int)) (val_is (val_IC (C := fun _ j => j ≠ 0 ∧ j.natAbs < 1073741824) (g := fun i j => .int (i.fdiv j)) (val_I (g := fun i j => .int (i + j)) (val_var rfl) (val_var rfl)) val_c ⟨by decide, by decide⟩) (by rw [hmid])) ?_)
    refine st_if (ans_v (val_I (g := fun i j => .bl (decide (i < j))) (val_ixL (val_var rfl) (val_var rfl) hS (atI_nat (at_int (List.getElem?_eq_getElem hm2)))) (val_var rfl))) (fun hb => ?_) (fun hb => ?_)
    · refine st_set (v := .int (((lo + hi) / 2 + 1 : Nat) : Int)) (val_is (val_I (g := fun i j => .int (i + j)) (val_var rfl) val_c) (by simp)) ⟨hi - ((lo + hi) / 2 + 1), by omega, (lo + hi) / 2 + 1, hi, _, rfl, rfl, rfl, by omega, h2, fun j z hj e => ?_, h4⟩
      have hb' : ns[(lo + hi) / 2] < m := of_decide_eq_true hb
      by_cases hjm : j = (lo + hi) / 2
      · subst hjm
        rw [List.getElem?_eq_getElem hm2] at e
        obtain rfl := Option.some.inj e
        exact hb'
      · have := asc_at hp (show j < (lo + hi) / 2 by omega) e (List.getElem?_eq_getElem hm2)
        omega
    · refine st_set (v := .int (((lo + hi) / 2 : Nat) : Int)) (val_var rfl) ⟨(lo + hi) / 2 - lo, by omega, lo, (lo + hi) / 2, _, rfl, rfl, rfl, by omega, by omega, h3, fun j z hj e => ?_⟩
      have hb' : ¬ ns[(lo + hi) / 2] < m := of_decide_eq_false hb
      by_cases hjm : j = (lo + hi) / 2
      · subst hjm
        rw [List.getElem?_eq_getElem hm2] at e
        obtain rfl := Option.some.inj e
        exact hb'
      · have := asc_at hp (show (lo + hi) / 2 < j by omega) (List.getElem?_eq_getElem hm2) e
        omega
  · have hge : lo = hi := by
      have : ¬ ((lo : Int) < (hi : Int)) := fun z => hc (decide_eq_true z)
      omega
    subst hge
    have e := below_at h2 h3 h4
    rw [e] at k
    exact st_ret (val_var rfl) k
end
/-- a dict of the places of each symbol that stands below n -/
def PlacesAt (H : Hp) (pd : Addr) (row : List Int) (n : Nat) (kvs : List (Key × V)) (F : Addr → Prop) : Prop := H pd = some (.dK kvs) ∧ kvs.length ≤ n ∧
  (∀ s : Int, (∃ q, valV kvs (.inl s) = some (.ref q) ∧ H q = some (.lst ((plcTo row s n).map V.int)) ∧ F q) ∨ (valV kvs (.inl s) = none ∧ plcTo row s n = [])) ∧
  ∀ (s t : Int) (q : Addr), valV kvs (.inl s) = some (.ref q) → valV kvs (.inl t) = some (.ref q) → s = t
theorem PlacesAt.kp {S : List Addr} {H H' : Hp} {pd : Addr} {row : List Int} {n : Nat} {kvs : List (Key × V)} {F : Addr → Prop} (p : PlacesAt H pd row n kvs F) (e : Kp S H H') (h : pd ∉ S) (hF : ∀ a, F a → a ∉ S) : PlacesAt H' pd row n kvs F := by
  obtain ⟨h1, h2, h3, h4⟩ := p
  refine ⟨e.at h1 h, h2, fun s => ?_, h4⟩
  rcases h3 s with ⟨q, g1, g2, g3⟩ | g
  · exact .inl ⟨q, g1, e.at g2 (hF q g3), g3⟩
  · exact .inr g
theorem PlacesAt.keep {H H' : Hp} {pd : Addr} {row : List Int} {n : Nat} {kvs : List (Key × V)} {F : Addr → Prop} (p : PlacesAt H pd row n kvs F) (e : Ex H H') : PlacesAt H' pd row n kvs F := p.kp (S := []) (Kp.of e) (by simp) (fun _ _ => by simp)
theorem PlacesAt.mono {H : Hp} {pd : Addr} {row : List Int} {n : Nat} {kvs : List (Key × V)} {F F' : Addr → Prop} (p : PlacesAt H pd row n kvs F) (h : ∀ a, F a → F' a) : PlacesAt H pd row n kvs F' := by
  obtain ⟨h1, h2, h3, h4⟩ := p
  refine ⟨h1, h2, fun s => ?_, h4⟩
  rcases h3 s with ⟨q, g1, g2, g3⟩ | g
  · exact .inl ⟨q, g1, g2, h q g3⟩
  · exact .inr g
theorem isAt_eq {row : List Int} {i : Nat} {u s : Int} (h : row[i]? = some u) : isAt row s i = decide (u = s) := by
  unfold isAt
  rw [h]
  by_cases e : u = s
  · simp [e]
  · simp [e]
/-- one place more, its list there -/
theorem PlacesAt.more {H : Hp} {pd q : Addr} {row : List Int} {i : Nat} {u : Int} {kvs : List (Key × V)} {F : Addr → Prop} (p : PlacesAt H pd row i kvs F) (hu : row[i]? = some u) (hv : valV kvs (.inl u) = some (.ref q)) :
    PlacesAt (upd H q (.lst ((plcTo row u i).map V.int ++ [V.int (i : Int)]))) pd row (i + 1) kvs F := by
  obtain ⟨h1, h2, h3, h4⟩ := p
  obtain ⟨q', g1, g2, g3⟩ : ∃ q', valV kvs (.inl u) = some (.ref q') ∧ H q' = some (.lst ((plcTo row u i).map V.int)) ∧ F q' := by
    rcases h3 u with g | ⟨g, _⟩
    · exact g
    · rw [hv] at g
      cases g
  obtain rfl : q' = q := by
    rw [hv] at g1
    injection g1 with z
    injection z with z
    exact z.symm
  have npq : pd ≠ q' := ne_of h1 g2 (by intro z; cases z)
  refine ⟨by rw [upd_ne npq]; exact h1, by omega, fun s => ?_, h4⟩
  by_cases hs : u = s
  · subst hs
    refine .inl ⟨q', hv, ?_, g3⟩
    rw [upd_same, plcTo_succ, isAt_eq hu, decide_eq_true rfl, if_pos rfl, List.map_append]
    rfl
  · have es : plcTo row s (i + 1) = plcTo row s i := by rw [plcTo_succ, isAt_eq hu, decide_eq_false hs, if_neg (by decide)]
    rw [es]
    rcases h3 s with ⟨r, k1, k2, k3⟩ | k
    · refine .inl ⟨r, k1, ?_, k3⟩
      rw [upd_ne (fun z => hs (h4 u s q' hv (by rw [← z]; exact k1)))]
      exact k2
    · exact .inr k
/-- .. a list for it made -/
theorem PlacesAt.make {H : Hp} {pd z : Addr} {row : List Int} {i : Nat} {u : Int} {kvs : List (Key × V)} {F : Addr → Prop} (p : PlacesAt H pd row i kvs F) (hu : row[i]? = some u) (hv : valV kvs (.inl u) = none) (hz : H z = some (.lst [])) (hF : F z) (hn : ∀ s, valV kvs (.inl s) ≠ some (.ref z)) :
    PlacesAt (upd (upd H pd (.dK (putK kvs (.inl u) (.ref z)))) z (.lst ([] ++ [V.int (i : Int)]))) pd row (i + 1) (putK kvs (.inl u) (.ref z)) F := by
  obtain ⟨h1, h2, h3, h4⟩ := p
  have npz : pd ≠ z := ne_of h1 hz (by intro q; cases q)
  have hl : (putK kvs (.inl u) (V.ref z)).length = kvs.length + 1 := by
    rw [putK_new _ hv, List.length_append]
    rfl
  have hval : ∀ s, valV (putK kvs (.inl u) (V.ref z)) (.inl s) = if s = u then some (.ref z) else valV kvs (.inl s) := fun s => by
    rw [valV_put]
    by_cases e : s = u
    · subst e
      rw [if_pos rfl, if_pos rfl]
    · rw [if_neg e, if_neg (fun q => e (Sum.inl.inj q))]
  refine ⟨by rw [upd_ne npz, upd_same], by omega, fun s => ?_, fun s t q a b => ?_⟩
  · rw [hval]
    by_cases hs : s = u
    · subst hs
      rw [if_pos rfl]
      have e0 : plcTo row s i = [] := by
        rcases h3 s with ⟨r, k1, _⟩ | ⟨_, k⟩
        · rw [hv] at k1
          cases k1
        · exact k
      refine .inl ⟨z, rfl, ?_, hF⟩
      rw [upd_same, plcTo_succ, isAt_eq hu, decide_eq_true rfl, if_pos rfl, e0]
      rfl
    · rw [if_neg hs]
      have es : plcTo row s (i + 1) = plcTo row s i := by rw [plcTo_succ, isAt_eq hu, decide_eq_false (Ne.symm hs), if_neg (by decide)]
      rw [es]
      rcases h3 s with ⟨r, k1, k2, k3⟩ | k
      · refine .inl ⟨r, k1, ?_, k3⟩
        rw [upd_ne (fun q => hn s (by rw [← q]; exact k1)), upd_ne (ne_of k2 h1 (by intro q; cases q))]
        exact k2
      · exact .inr k
  · rw [hval] at a b
    by_cases hs : s = u <;> by_cases ht : t = u
    · rw [hs, ht]
    · rw [if_pos hs] at a
      rw [if_neg ht] at b
      obtain rfl : z = q := by
        injection a with a
        injection a
      exact absurd b (hn t)
    · rw [if_neg hs] at a
      rw [if_pos ht] at b
      obtain rfl : z = q := by
        injection b with b
        injection b
      exact absurd a (hn s)
    · rw [if_neg hs] at a
      rw [if_neg ht] at b
      exact h4 s t q a b
def spPlaces (K : PySem.W.Frag) : Sp := fun vs H Q _ => ∃ (l : Addr) (row : List Int), vs = [.ref l] ∧ SqL K H l (row.map V.int) ∧ row.length ≤ 1000 ∧ ∀ pd kvs H', H pd = none → Ex H H' → PlacesAt H' pd row row.length kvs (fun q => H q = none) → Q (.ref pd) H'
section
variable {P : Program} {w : World} {K : PySem.W.Frag} {mg : Str → Option Value} {base : Heap}
theorem ok__places_by_symbol (T : TX K mg) : Can P w K mg base CX0 1 (He.fAd K at__places_by_symbol) ps__places_by_symbol [] (spPlaces K) := mk__places_by_symbol T fun fd F => def0 F sc__places_by_symbol (fun vs H Q E h => by
  obtain ⟨l, row, rfl, _⟩ := h
  rfl) fun cdv A outer s H vs Q E hr h => by
  obtain ⟨l, row, rfl, hS, hz, k⟩ := h
  have hlen : (row.map V.int).length = row.length := List.length_map ..
  refine ⟨_, (pss_cons (ps_set (i := 1) sc__places_by_symbol.nd rfl (Or.inl rfl) pe_dnewK)
  (pss_cons (ps_for PassesOwn.never rfl (iEnu K rfl (by rfl) T.n_enumerate (pa_cons (pv 0) pa_nil)) (pg_tup rfl (pgs_cons (pg_name (i := 2) sc__places_by_symbol.nd rfl (Or.inl rfl)) (pgs_cons (pg_name (i := 3) sc__places_by_symbol.nd rfl (Or.inl rfl)) pgs_nil)))
  (pss_one (ps_expr (eBm K rfl PySem.F.plainAttrs_list PySem.F.slot_list_append PySem.F.type_list_append mt_append (pe_dsetd (pv 1) (pv 3) (pe_lst pa_nil) ⟨rfl, rfl, rfl, rfl⟩) (pa_cons (pv 2) pa_nil)))))
  (pss_one (ps_ret (pv 1))))), ?_⟩
  intro pd hpd
  refine ⟨_, rfl, l, _, rfl, ex_l (Ex.new hpd) hS, for_it walk_enum (fun i σ H' => ∃ v1 v2 kvs, σ = [some (.ref l), some (.ref pd), v1, v2] ∧ Ex H H' ∧ PlacesAt H' pd row i kvs (fun q => H q = none)) ⟨none, none, [], rfl, Ex.new hpd, upd_same, Nat.le_refl _, fun s => .inr ⟨rfl, rfl⟩, fun s t q h => by cases h⟩ (fun i σ H' _ ⟨_, _, _, _, e, _⟩ => ex_l e hS) ?_ ?_⟩
  · rintro i x σ H1 H2 hi ⟨v1, v2, kvs, rfl, e, pa⟩ ⟨t, y, x', rfl, ht, rfl, e1, e2⟩
    obtain rfl := Option.some.inj e1
    obtain ⟨u, hu, rfl⟩ := int_at e2
    have hil : i < row.length := lt_of_at hu
    refine ⟨t, _, rfl, SqT.of upd_same, rfl, _, _, rfl, _, _, rfl, rfl, ?_⟩
    have e3 : Ex H1 (upd H1 t (.tup [.int (i : Int), .int u])) := Ex.new ht
    have eH := e.trans e3
    have pa2 := pa.keep e3
    generalize upd H1 t (.tup [.int (i : Int), .int u]) = H2 at eH pa2 ⊢
    refine ⟨_, rfl, pd, rfl, .inl ⟨_, Rd.of pa2.1⟩, _, rfl, by show 0 ≤ sizeLine; decide, fun z hz0 => ?_⟩
    have e4 : Ex H2 (upd H2 z (.lst [])) := Ex.new hz0
    have pa3 := pa2.keep e4
    have hz3 : (upd H2 z (.lst [])) z = some (.lst []) := upd_same
    have hzH : H z = none := fresh_back eH hz0
    have eH3 := eH.trans e4
    have hn : ∀ s, valV kvs (.inl s) ≠ some (.ref z) := fun s q => by
      rcases pa2.2.2.1 s with ⟨r, k1, k2, _⟩ | ⟨k1, _⟩
      · rw [k1] at q
        injection q with q
        injection q with q
        rw [q, hz0] at k2
        cases k2
      · rw [k1] at q
        cases q
    generalize upd H2 z (.lst []) = H3 at pa3 hz3 eH3 ⊢
    have hkl := pa3.2.1
    refine ⟨kvs, .inl u, pa3.1, rfl, small9 (by omega), fun v hv => ?_, fun hv => ?_⟩
    · rcases pa3.2.2.1 u with ⟨q, k1, k2, k3⟩ | ⟨k1, _⟩
      · rw [hv] at k1
        obtain rfl := Option.some.inj k1
        have h9 : (plcTo row u i).length ≤ i := plcTo_len row u i
        exact ⟨.inl ⟨rfl, _, SqL.of k2⟩, _, rfl, q, _, _, rfl, rfl, k2, small9 (by rw [List.length_map]; omega), _, _, kvs, rfl, eH3.mut k3, pa3.more hu hv⟩
      · rw [hv] at k1
        cases k1
    · have npz : z ≠ pd := ne_of hz3 pa3.1 (by intro q; cases q)
      have hz4 : (upd H3 pd (.dK (putK kvs (.inl u) (.ref z)))) z = some (.lst []) := by rw [upd_ne npz]; exact hz3
      exact ⟨.inl ⟨rfl, _, SqL.of hz4⟩, _, rfl, z, _, _, rfl, rfl, hz4, by show 0 < sizeLine; decide, _, _, _, rfl, (eH3.mut hpd).mut hzH, pa3.make hu hv hz3 hzH hn⟩
  · rintro σ H1 ⟨v1, v2, kvs, rfl, e, pa⟩
    rw [hlen] at pa
    exact st_ret (val_var rfl) (k pd kvs H1 hpd e pa)
end
/-- an object of a row of symbols; F: its parts -/
def WaveAt (C : Addr) (H : Hp) (p : Addr) (row : List Int) (size : Int) (F : Addr → Prop) : Prop := ∃ dx sy pd kvs, H p = some (.ins C dx (flds_Wave (.int size) (.int row.length) (.ref sy) (.ref pd))) ∧ F sy ∧ F pd ∧ H sy = some (.lst (row.map V.int)) ∧ PlacesAt H pd row row.length kvs F
theorem WaveAt.kp {C : Addr} {S : List Addr} {H H' : Hp} {p : Addr} {row : List Int} {size : Int} {F : Addr → Prop} (B : WaveAt C H p row size F) (e : Kp S H H') (h : p ∉ S) (hF : ∀ a, F a → a ∉ S) : WaveAt C H' p row size F := by
  obtain ⟨dx, sy, pd, kvs, h1, f1, f2, h2, h3⟩ := B
  exact ⟨dx, sy, pd, kvs, e.at h1 h, f1, f2, e.at h2 (hF _ f1), h3.kp e (hF _ f2) hF⟩
theorem WaveAt.keep {C : Addr} {H H' : Hp} {p : Addr} {row : List Int} {size : Int} {F : Addr → Prop} (B : WaveAt C H p row size F) (e : Ex H H') : WaveAt C H' p row size F := B.kp (S := []) (Kp.of e) (by simp) (fun _ _ => by simp)
def sym (size z : Int) : Prop := 0 ≤ z ∧ z < size
instance (size z : Int) : Decidable (sym size z) := by unfold sym; infer_instance
def okSize (size : Int) : Prop := 1 ≤ size ∧ size ≤ 65536
def spWave (K : PySem.W.Frag) : Sp := fun vs H Q E => ∃ (p dx l : Addr) (row : List Int) (size : Int), vs = [.ref p, .ref l, .int size] ∧ H p = some (.ins (He.ga K "Wave") dx []) ∧ SqL K H l (row.map V.int) ∧ row.length ≤ 1000 ∧
  (okSize size → (∀ z ∈ row, sym size z) → ∀ H', Kp [p] H H' → WaveAt (He.ga K "Wave") H' p row size (fun a => H a = none) → Q .non H') ∧
  (¬ okSize size → ∀ (d : Addr) (H' : Hp), H d = none → Ex H H' → H' d = some (.xd [("size", .int size)]) → E (.ref (He.ga K "InvalidSize")) (some d) H') ∧
  (okSize size → ∀ (i : Nat) (z : Int), row[i]? = some z → ¬ sym size z → (∀ (j : Nat) (u : Int), j < i → row[j]? = some u → sym size u) → ∀ (d : Addr) (H' : Hp), H d = none → Ex H H' → H' d = some (.xd [("place", .int (i : Int))]) → E (.ref (He.ga K "InvalidRow")) (some d) H')
section
variable {P : Program} {w : World} {K : PySem.W.Frag} {mg : Str → Option Value} {base : Heap}
theorem ok_Wave_init (T : TX K mg) : Can P w K mg base (L2.CX P w) 4 (He.fAd K at_Wave_init) ps_Wave_init [] (spWave K) := by
  obtain ⟨fd_InvalidRow_init, G_InvalidRow_init, ds_InvalidRow_init, v_InvalidRow_init, b_InvalidRow_init⟩ := ok_InvalidRow_init (P := P) (w := w) (base := base) T
  obtain ⟨fd_InvalidSize_init, G_InvalidSize_init, ds_InvalidSize_init, v_InvalidSize_init, b_InvalidSize_init⟩ := ok_InvalidSize_init (P := P) (w := w) (base := base) T
  obtain ⟨fd__places_by_symbol, G__places_by_symbol, ds__places_by_symbol, v__places_by_symbol, b__places_by_symbol⟩ := ok__places_by_symbol (P := P) (w := w) (base := base) T
  exact mk_Wave_init T fun fd F => defX F sc_Wave_init (fun vs H Q E h => by
    obtain ⟨p, dx, l, row, size, rfl, _⟩ := h
    rfl) fun cdv A outer s H vs Q E hr h => by
    obtain ⟨p, dx, l, row, size, rfl, hp, hS, hz, k, kS, kE⟩ := h
    refine ⟨_, (pss_cons (ps_if (pt_not (pt_chain op_le op_le pe_int (pv 2) (pe_glob (v := .int 65536) rfl T.c_LARGEST_SIZE.choose_spec ⟨_, rfl⟩))) (pss_one (ps_raise rfl (takes_of rfl rfl rfl rfl) (pmk_oex T.ox_InvalidSize T.oi_InvalidSize T.ot_InvalidSize G_InvalidSize_init (hr.mono (by first | decide | omega)) b_InvalidSize_init v_InvalidSize_init pass0 rfl T.g_InvalidSize (pa_cons (pv 2) pa_nil)))) pss_nil)
  (pss_cons (ps_for (passes_of rfl) rfl (iEnu K rfl (by rfl) T.n_enumerate (pa_cons (pv 1) pa_nil)) (pg_tup rfl (pgs_cons (pg_name (i := 3) sc_Wave_init.nd rfl (Or.inl rfl)) (pgs_cons (pg_name (i := 4) sc_Wave_init.nd rfl (Or.inl rfl)) pgs_nil)))
  (pss_one (ps_if (pt_not (pt_chain op_le op_lt pe_int (pv 4) (pv 2))) (pss_one (ps_raise rfl (takes_of rfl rfl rfl rfl) (pmk_oex T.ox_InvalidRow T.oi_InvalidRow T.ot_InvalidRow G_InvalidRow_init (hr.mono (by first | decide | omega)) b_InvalidRow_init v_InvalidRow_init pass0 rfl T.g_InvalidRow (pa_cons (pv 3) pa_nil)))) pss_nil)))
  (pss_cons (sFd K rfl (pv 0) (pv 2) rfl)
  (pss_cons (sFd K rfl (pv 0) (pe_callB (cLen K rfl) (by rfl) T.n_len PySem.boot_len (pa_cons (pv 1) pa_nil)) rfl)
  (pss_cons (sFd K rfl (pv 0) (pe_callTy (cList K rfl) (by rfl) T.n_list (by decide +kernel) (pa_cons (pv 1) pa_nil)) rfl)
  (pss_one (sFd K rfl (pv 0) (pe_call G__places_by_symbol (hr.mono (by first | decide | omega)) rfl T.g__places_by_symbol T.k__places_by_symbol b__places_by_symbol v__places_by_symbol pass0 (pa_cons (pv 1) pa_nil)) rfl))))))), ?_⟩
    have hlen : (row.map V.int).length = row.length := List.length_map ..
    refine st_seq (st_if (ans_not (ans_v (val_chain (g := fun i j => decide (i ≤ j)) (g' := fun i j => decide (i ≤ j)) val_c (val_var rfl) val_c))) (fun hb => ?_) (fun hb => ?_))
    · refine st_raise1 (W := fun cls d _ H => E cls d H) (y := .int size) T.ox_InvalidSize T.na_InvalidSize_size (val_var rfl) fun d hd => kS (fun hc => ?_) d _ hd (Ex.new hd) upd_same
      rw [decide_eq_true hc.1, decide_eq_true hc.2] at hb
      cases hb
    simp only [Bool.not_eq_false', Bool.and_eq_true, decide_eq_true_eq] at hb
    have hsz : okSize size := hb
    refine ⟨_, rfl, l, _, rfl, hS, for_it walk_enum (fun i σ H' => ∃ v1 v2, σ = [some (.ref p), some (.ref l), some (.int size), v1, v2] ∧ Ex H H' ∧ ∀ (j : Nat) (u : Int), j < i → row[j]? = some u → sym size u) ⟨none, none, rfl, Ex.refl H, fun j u h => absurd h (Nat.not_lt_zero _)⟩ (fun i σ H' _ ⟨_, _, _, e, _⟩ => ex_l e hS) ?_ ?_⟩
    · rintro i x σ H1 H2 hi ⟨v1, v2, rfl, e, hb⟩ ⟨t, y, x', rfl, ht, rfl, e1, e2⟩
      obtain rfl := Option.some.inj e1
      obtain ⟨u, hu, rfl⟩ := int_at e2
      have e3 : Ex H (upd H1 t (.tup [.int (i : Int), .int u])) := e.trans (Ex.new ht)
      refine ⟨t, _, rfl, SqT.of upd_same, rfl, _, _, rfl, _, _, rfl, rfl, ?_⟩
      refine st_if (ans_not (ans_v (val_chain (g := fun i j => decide (i ≤ j)) (g' := fun i j => decide (i < j)) val_c (val_var rfl) (val_var rfl)))) (fun hc => ?_) (fun hc => ?_)
      · refine st_raise1 (W := fun cls d _ H => E cls d H) (y := .int (i : Int)) T.ox_InvalidRow T.na_InvalidRow_place (val_var rfl) fun d hd => kE hsz i u hu (fun hs => ?_) hb d _ (fresh_back e3 hd) (e3.trans (Ex.new hd)) upd_same
        rw [decide_eq_true hs.1, decide_eq_true hs.2] at hc
        cases hc
      · simp only [Bool.not_eq_false', Bool.and_eq_true, decide_eq_true_eq] at hc
        refine ⟨_, _, rfl, e3, fun j v hj hv => ?_⟩
        by_cases hji : j < i
        · exact hb j v hji hv
        · obtain rfl : j = i := by omega
          rw [hu] at hv
          obtain rfl := Option.some.inj hv
          exact hc
    · rintro σ H1 ⟨v1, v2, rfl, e, hb⟩
      rw [hlen] at hb
      have hall : ∀ z ∈ row, sym size z := fun z hz' => by
        obtain ⟨j, hj, ej⟩ := List.mem_iff_getElem.mp hz'
        exact hb j z hj (by rw [List.getElem?_eq_getElem hj, ej])
      have p1 : H1 p = some (.ins (He.ga K "Wave") dx []) := e _ _ hp
      have f1 : Kp [p] H H1 := Kp.of e
      -- self.size = size; self.length = len(row)
      refine ⟨_, rfl, _, rfl, p, _, dx, _, rfl, p1, T.cl_Wave, T.na_Wave_size, by show 0 < 1000; decide, ?_⟩
      have f2 := f1.trans (Kp.up (p := p) (o := .ins (He.ga K "Wave") dx [("size", .int size)]))
      refine ⟨_, rfl, l, _, rfl, .inl (f2.sqL hp hS), _, rfl, p, _, dx, _, rfl, upd_same, T.cl_Wave, T.na_Wave_length, by show 1 < 1000; decide, ?_⟩
      rw [upd_upd, hlen, show putF "length" (V.int row.length) (putF "size" (V.int size) []) = _ from pf_Wave_length _ _]
      have f3 := f1.trans (Kp.up (p := p) (o := .ins (He.ga K "Wave") dx [("size", .int size), ("length", .int row.length)]))
      -- self._symbols = list(row)
      refine ⟨_, rfl, l, _, rfl, .inl (f3.sqL hp hS), fun sy hsy => ?_⟩
      have n1 : sy ≠ p := fun z => by rw [z, upd_same] at hsy; cases hsy
      refine ⟨_, rfl, p, _, dx, _, rfl, by rw [upd_ne (Ne.symm n1)]; exact upd_same, T.cl_Wave, T.na_Wave__symbols, by show 2 < 1000; decide, ?_⟩
      rw [pf_Wave__symbols]
      have hsy0 : H sy = none := by
        rw [upd_ne n1] at hsy
        exact fresh_back e hsy
      generalize hA : upd (upd (upd H1 p _) sy _) p _ = H4
      have f4 : Kp [p] H H4 := by rw [← hA]; exact ((f3.trans (Kp.new hsy)).trans Kp.up)
      have g4 : H4 p = some (.ins (He.ga K "Wave") dx [("size", .int size), ("length", .int row.length), ("_symbols", .ref sy)]) := by rw [← hA]; exact upd_same
      have d4 : H4 sy = some (.lst (row.map V.int)) := by rw [← hA, upd_ne n1]; exact upd_same
      have b4 : ∀ a, H4 a = none → H a = none := fun a q => f4.back (fun b hb => by rw [List.mem_singleton.mp hb, g4]; intro q; cases q) q
      -- self._places = _places_by_symbol(row)
      refine ⟨_, rfl, l, row, rfl, f4.sqL hp hS, hz, fun pd kvs H5 hpd e5 pa => ?_⟩
      have n2 : pd ≠ p := fun z => by rw [z, g4] at hpd; cases hpd
      refine ⟨_, rfl, p, _, dx, _, rfl, e5 _ _ g4, T.cl_Wave, T.na_Wave__places, by show 3 < 1000; decide, ?_⟩
      rw [pf_Wave__places]
      have pa' := pa.kp (Kp.up (p := p) (o := .ins (He.ga K "Wave") dx (flds_Wave (.int size) (.int row.length) (.ref sy) (.ref pd)))) (by simpa using n2) (fun a ha => by
        intro z
        rw [List.mem_singleton.mp z, g4] at ha
        cases ha)
      exact k hsz hall _ ((f4.trans (Kp.of e5)).trans Kp.up) ⟨dx, sy, pd, kvs, upd_same, hsy0, b4 _ hpd, by rw [upd_ne n1]; exact e5 _ _ d4, pa'.mono b4⟩
end
def BadSym (K : PySem.W.Frag) (H : Hp) (E : XK) (i : Int) : Prop := ∀ d H', H d = none → Ex H H' → H' d = some (.xd [("symbol", .int i)]) → E (.ref (He.ga K "InvalidSymbol")) (some d) H'
def spWRow (K : PySem.W.Frag) : Sp := fun vs H Q _ => ∃ (p : Addr) (row : List Int) (size : Int), vs = [.ref p] ∧ (∃ F, WaveAt (He.ga K "Wave") H p row size F) ∧ RetL (row.map V.int) H Q
def spWAt (K : PySem.W.Frag) : Sp := fun vs H Q E => ∃ (p : Addr) (i : Int) (row : List Int) (size : Int), vs = [.ref p, .int i] ∧ (∃ F, WaveAt (He.ga K "Wave") H p row size F) ∧ (∀ z, 0 ≤ i → row[i.toNat]? = some z → Q (.int z) H) ∧ (¬ (0 ≤ i ∧ i < row.length) → BadPlace K H E i)
/-- the list of a symbol's places, read only -/
def spOf (K : PySem.W.Frag) : Sp := fun vs H Q E => ∃ (p : Addr) (s : Int) (row : List Int) (size : Int), vs = [.ref p, .int s] ∧ (∃ F, WaveAt (He.ga K "Wave") H p row size F) ∧ (sym size s → ∀ q H', Ex H H' → H' q = some (.lst ((plc row s).map V.int)) → Q (.ref q) H') ∧ (¬ sym size s → BadSym K H E s)
def spWRank (K : PySem.W.Frag) : Sp := fun vs H Q E => ∃ (p : Addr) (s i : Int) (row : List Int) (size : Int), vs = [.ref p, .int s, .int i] ∧ (∃ F, WaveAt (He.ga K "Wave") H p row size F) ∧ row.length ≤ 1000 ∧ (sym size s → 0 ≤ i → i ≤ row.length → RetV (.int (plcTo row s i.toNat).length) H Q) ∧ (¬ sym size s → BadSym K H E s) ∧ (sym size s → ¬ (0 ≤ i ∧ i ≤ row.length) → BadPlace K H E i)
def spWSelect (K : PySem.W.Frag) : Sp := fun vs H Q E => ∃ (p : Addr) (s k : Int) (row : List Int) (size : Int), vs = [.ref p, .int s, .int k] ∧ (∃ F, WaveAt (He.ga K "Wave") H p row size F) ∧ (sym size s → 0 ≤ k → RetV (kth (plc row s) k) H Q) ∧ (¬ sym size s → BadSym K H E s) ∧ (sym size s → k < 0 → BadPlace K H E k)
/-- the first place from i on -/
def nextAt (row : List Int) (s i : Int) : V := kth (plc row s) (plcTo row s i.toNat).length
def spWNext (K : PySem.W.Frag) : Sp := fun vs H Q E => ∃ (p : Addr) (s i : Int) (row : List Int) (size : Int), vs = [.ref p, .int s, .int i] ∧ (∃ F, WaveAt (He.ga K "Wave") H p row size F) ∧ row.length ≤ 1000 ∧ (sym size s → 0 ≤ i → i ≤ row.length → RetV (nextAt row s i) H Q) ∧ (¬ sym size s → BadSym K H E s) ∧ (sym size s → ¬ (0 ≤ i ∧ i ≤ row.length) → BadPlace K H E i)
section
variable {P : Program} {w : World} {K : PySem.W.Frag} {mg : Str → Option Value} {base : Heap}
theorem ok_Wave_row (T : TX K mg) : Can P w K mg base CX0 1 (He.fAd K at_Wave_row) ps_Wave_row [] (spWRow K) := mk_Wave_row T fun fd F => def0 F sc_Wave_row (fun vs H Q E h => by
  obtain ⟨p, row, size, rfl, _⟩ := h
  rfl) fun cdv A outer s H vs Q E hr h => by
  obtain ⟨p, row, size, rfl, ⟨F, dx, sy, pd, kvs, hp, _, _, hsy, _⟩, k⟩ := h
  refine ⟨_, (pss_one (ps_ret (pe_callTy (cList K rfl) (by rfl) T.n_list (by decide +kernel) (pa_cons (eFld K rfl (pv 0) rfl) pa_nil)))), ?_⟩
  exact ⟨_, rfl, p, _, dx, _, _, rfl, hp, T.cl_Wave, T.na_Wave__symbols, fl_Wave__symbols .., sy, _, rfl, .inl (SqL.of hsy), fun l hl => k l _ hl (Ex.new hl) upd_same⟩
theorem ok_Wave_at (T : TX K mg) : Can P w K mg base (L2.CX P w) 4 (He.fAd K at_Wave_at) ps_Wave_at [] (spWAt K) := by
  obtain ⟨fd_InvalidPlace_init, G_InvalidPlace_init, ds_InvalidPlace_init, v_InvalidPlace_init, b_InvalidPlace_init⟩ := ok_InvalidPlace_init (P := P) (w := w) (base := base) T
  exact mk_Wave_at T fun fd F => defX F sc_Wave_at (fun vs H Q E h => by
    obtain ⟨p, i, row, size, rfl, _⟩ := h
    rfl) fun cdv A outer s H vs Q E hr h => by
    obtain ⟨p, i, row, size, rfl, ⟨F, dx, sy, pd, kvs, hp, _, _, hsy, _⟩, k, kE⟩ := h
    refine ⟨_, (pss_cons (ps_if (pt_not (pt_chain op_le op_lt pe_int (pv 1) (eFld K rfl (pv 0) rfl))) (pss_one (ps_raise rfl (takes_of rfl rfl rfl rfl) (pmk_oex T.ox_InvalidPlace T.oi_InvalidPlace T.ot_InvalidPlace G_InvalidPlace_init (hr.mono (by first | decide | omega)) b_InvalidPlace_init v_InvalidPlace_init pass0 rfl T.g_InvalidPlace (pa_cons (pv 1) pa_nil)))) pss_nil)
  (pss_one (ps_ret (pe_ix (ixL K rfl) (eFld K rfl (pv 0) rfl) (pv 1) (fun _ _ => rfl))))), ?_⟩
    refine st_seq (st_if (ans_not (ans_v (val_chain (g := fun i j => decide (i ≤ j)) (g' := fun i j => decide (i < j)) val_c (val_var rfl) (val_fld (val_var rfl) hp T.cl_Wave T.na_Wave_length (fl_Wave_length ..))))) (fun hb => ?_) (fun hb => ?_))
    · refine st_raise1 (W := fun cls d _ H => E cls d H) (y := .int i) T.ox_InvalidPlace T.na_InvalidPlace_place (val_var rfl) fun d hd => kE (fun hc => ?_) d _ hd (Ex.new hd) upd_same
      rw [decide_eq_true hc.1, decide_eq_true hc.2] at hb
      cases hb
    · simp only [Bool.not_eq_false', Bool.and_eq_true, decide_eq_true_eq] at hb
      have hi : i.toNat < row.length := by omega
      exact st_ret (val_ixL (val_fld (val_var rfl) hp T.cl_Wave T.na_Wave__symbols (fl_Wave__symbols ..)) (val_var rfl) (SqL.of hsy) (at_of (j := i.toNat) (by omega) (at_int (List.getElem?_eq_getElem hi)))) (k _ hb.1 (List.getElem?_eq_getElem hi))
theorem ok_Wave__places_of (T : TX K mg) : Can P w K mg base (L2.CX P w) 4 (He.fAd K at_Wave__places_of) ps_Wave__places_of [] (spOf K) := by
  obtain ⟨fd_InvalidSymbol_init, G_InvalidSymbol_init, ds_InvalidSymbol_init, v_InvalidSymbol_init, b_InvalidSymbol_init⟩ := ok_InvalidSymbol_init (P := P) (w := w) (base := base) T
  exact mk_Wave__places_of T fun fd F => defX F sc_Wave__places_of (fun vs H Q E h => by
    obtain ⟨p, i, row, size, rfl, _⟩ := h
    rfl) fun cdv A outer s H vs Q E hr h => by
    obtain ⟨p, i, row, size, rfl, ⟨F, dx, sy, pd, kvs, hp, _, _, hsy, pa⟩, k, kE⟩ := h
    refine ⟨_, (pss_cons (ps_if (pt_not (pt_chain op_le op_lt pe_int (pv 1) (eFld K rfl (pv 0) rfl))) (pss_one (ps_raise rfl (takes_of rfl rfl rfl rfl) (pmk_oex T.ox_InvalidSymbol T.oi_InvalidSymbol T.ot_InvalidSymbol G_InvalidSymbol_init (hr.mono (by first | decide | omega)) b_InvalidSymbol_init v_InvalidSymbol_init pass0 rfl T.g_InvalidSymbol (pa_cons (pv 1) pa_nil)))) pss_nil)
  (pss_one (ps_ret (pe_dget2 (hu_of hr) (eFld K rfl (pv 0) rfl) (pv 1) (pe_lst pa_nil) ⟨rfl, rfl, rfl, rfl⟩)))), ?_⟩
    refine st_seq (st_if (ans_not (ans_v (val_chain (g := fun i j => decide (i ≤ j)) (g' := fun i j => decide (i < j)) val_c (val_var rfl) (val_fld (val_var rfl) hp T.cl_Wave T.na_Wave_size (fl_Wave_size ..))))) (fun hb => ?_) (fun hb => ?_))
    · refine st_raise1 (W := fun cls d _ H => E cls d H) (y := .int i) T.ox_InvalidSymbol T.na_InvalidSymbol_symbol (val_var rfl) fun d hd => kE (fun hc => ?_) d _ hd (Ex.new hd) upd_same
      rw [decide_eq_true hc.1, decide_eq_true hc.2] at hb
      cases hb
    · simp only [Bool.not_eq_false', Bool.and_eq_true, decide_eq_true_eq] at hb
      have hk := k hb
      refine ⟨_, rfl, p, _, dx, _, _, rfl, hp, T.cl_Wave, T.na_Wave__places, fl_Wave__places .., pd, rfl, .inl ⟨_, Rd.of pa.1⟩, _, rfl, by show 0 ≤ sizeLine; decide, fun n hn => ⟨_, DGet.k (k := (Sum.inl i : Key)) (by rw [upd_ne (ne_of_none pa.1 hn)]; exact pa.1), ?_⟩⟩
      have e : Ex H (upd H n (.lst [])) := Ex.new hn
      rcases pa.2.2.1 i with ⟨q, g1, g2, _⟩ | ⟨g1, g2⟩
      · rw [g1]
        exact hk q _ e (e _ _ g2)
      · rw [g1]
        refine hk n _ e ?_
        rw [upd_same]
        show _ = some (HO.lst ((plcTo row i row.length).map V.int))
        rw [g2]
        rfl
theorem ok_Wave_rank (T : TX K mg) : Can P w K mg base (L2.CX P w) 6 (He.fAd K at_Wave_rank) ps_Wave_rank [] (spWRank K) := by
  obtain ⟨fd_InvalidPlace_init, G_InvalidPlace_init, ds_InvalidPlace_init, v_InvalidPlace_init, b_InvalidPlace_init⟩ := ok_InvalidPlace_init (P := P) (w := w) (base := base) T
  obtain ⟨fd_Wave__places_of, G_Wave__places_of, ds_Wave__places_of, v_Wave__places_of, b_Wave__places_of⟩ := ok_Wave__places_of (P := P) (w := w) (base := base) T
  obtain ⟨fd_count_below, G_count_below, ds_count_below, v_count_below, b_count_below⟩ := ok_count_below (P := P) (w := w) (base := base) T
  exact mk_Wave_rank T fun fd F => defX F sc_Wave_rank (fun vs H Q E h => by
    obtain ⟨p, s, i, row, size, rfl, _⟩ := h
    rfl) fun cdv A outer s H vs Q E hr h => by
    obtain ⟨p, sy0, i, row, size, rfl, ⟨F, W⟩, hz, k, kS, kE⟩ := h
    refine ⟨_, (pss_cons (ps_set (i := 3) sc_Wave_rank.nd rfl (Or.inl rfl) (pe_meth (pv 0) T.cl_Wave T.me_Wave__places_of G_Wave__places_of (hr.mono (by first | decide | omega)) b_Wave__places_of v_Wave__places_of (passes_call (takes_of rfl rfl rfl rfl) (fun _ _ _ _ h => h)) (pa_cons (pv 1) pa_nil)))
  (pss_cons (ps_if (pt_not (pt_chain op_le op_le pe_int (pv 2) (eFld K rfl (pv 0) rfl))) (pss_one (ps_raise rfl (takes_of rfl rfl rfl rfl) (pmk_oex T.ox_InvalidPlace T.oi_InvalidPlace T.ot_InvalidPlace G_InvalidPlace_init (hr.mono (by first | decide | omega)) b_InvalidPlace_init v_InvalidPlace_init pass0 rfl T.g_InvalidPlace (pa_cons (pv 2) pa_nil)))) pss_nil)
  (pss_one (ps_ret (pe_call G_count_below (hr.mono (by first | decide | omega)) rfl T.g_count_below T.k_count_below b_count_below v_count_below pass0 (pa_cons (pv 3) (pa_cons (pv 2) pa_nil))))))), ?_⟩
    obtain ⟨dx, sy, pd, kvs, hp, _⟩ := id W
    refine ⟨_, rfl, p, dx, _, rfl, hp, fn_Wave__places_of .., _, rfl, p, sy0, row, size, rfl, ⟨F, W⟩, fun hs q H1 e1 hq => ?_, kS⟩
    dsimp only [gName]
    refine st_seq (st_if (ans_not (ans_v (val_chain (g := fun i j => decide (i ≤ j)) (g' := fun i j => decide (i ≤ j)) val_c (val_var rfl) (val_fld (val_var rfl) (e1 _ _ hp) T.cl_Wave T.na_Wave_length (fl_Wave_length ..))))) (fun hb => ?_) (fun hb => ?_))
    · refine st_raise1 (W := fun cls d _ H => E cls d H) (y := .int i) T.ox_InvalidPlace T.na_InvalidPlace_place (val_var rfl) fun d hd => kE hs (fun hc => ?_) d _ (fresh_back e1 hd) (e1.trans (Ex.new hd)) upd_same
      rw [decide_eq_true hc.1, decide_eq_true hc.2] at hb
      cases hb
    · simp only [Bool.not_eq_false', Bool.and_eq_true, decide_eq_true_eq] at hb
      have hi : i.toNat ≤ row.length := by omega
      have h9 : (plc row sy0).length ≤ row.length := plcTo_len row sy0 row.length
      have hbl := below_plc (row := row) (s := sy0) hi
      refine ⟨_, rfl, _, rfl, q, plc row sy0, i, rfl, SqL.of hq, by omega, plcTo_lt row sy0 row.length, ?_⟩
      have ei : i = ((i.toNat : Nat) : Int) := by omega
      rw [show below (plc row sy0) i = (plcTo row sy0 i.toNat).length from by rw [ei]; exact hbl]
      exact k hs hb.1 hb.2 _ e1
theorem ok_Wave_select (T : TX K mg) : Can P w K mg base (L2.CX P w) 6 (He.fAd K at_Wave_select) ps_Wave_select [] (spWSelect K) := by
  obtain ⟨fd_InvalidPlace_init, G_InvalidPlace_init, ds_InvalidPlace_init, v_InvalidPlace_init, b_InvalidPlace_init⟩ := ok_InvalidPlace_init (P := P) (w := w) (base := base) T
  obtain ⟨fd_Wave__places_of, G_Wave__places_of, ds_Wave__places_of, v_Wave__places_of, b_Wave__places_of⟩ := ok_Wave__places_of (P := P) (w := w) (base := base) T
  exact mk_Wave_select T fun fd F => defX F sc_Wave_select (fun vs H Q E h => by
    obtain ⟨p, s, i, row, size, rfl, _⟩ := h
    rfl) fun cdv A outer s H vs Q E hr h => by
    obtain ⟨p, sy0, i, row, size, rfl, ⟨F, W⟩, k, kS, kE⟩ := h
    refine ⟨_, (pss_cons (ps_set (i := 3) sc_Wave_select.nd rfl (Or.inl rfl) (pe_meth (pv 0) T.cl_Wave T.me_Wave__places_of G_Wave__places_of (hr.mono (by first | decide | omega)) b_Wave__places_of v_Wave__places_of (passes_call (takes_of rfl rfl rfl rfl) (fun _ _ _ _ h => h)) (pa_cons (pv 1) pa_nil)))
  (pss_cons (ps_if (pt_cmpR op_lt (pv 2) pe_int (nomark _)) (pss_one (ps_raise rfl (takes_of rfl rfl rfl rfl) (pmk_oex T.ox_InvalidPlace T.oi_InvalidPlace T.ot_InvalidPlace G_InvalidPlace_init (hr.mono (by first | decide | omega)) b_InvalidPlace_init v_InvalidPlace_init pass0 rfl T.g_InvalidPlace (pa_cons (pv 2) pa_nil)))) pss_nil)
  (pss_one (ps_ret (pe_ifExp (pt_cmpR op_lt (pv 2) (pe_callB (cLen K rfl) (by rfl) T.n_len PySem.boot_len (pa_cons (pv 3) pa_nil)) (nomark _)) (pe_ix (ixL K rfl) (pv 3) (pv 2) (fun _ _ => rfl)) pe_non))))), ?_⟩
    obtain ⟨dx, sy, pd, kvs, hp, _⟩ := id W
    refine ⟨_, rfl, p, dx, _, rfl, hp, fn_Wave__places_of .., _, rfl, p, sy0, row, size, rfl, ⟨F, W⟩, fun hs q H1 e1 hq => ?_, kS⟩
    dsimp only [gName]
    refine st_seq (st_if (ans_v (val_I (g := fun i j => .bl (decide (i < j))) (val_var rfl) val_c)) (fun hb => ?_) (fun hb => ?_))
    · exact st_raise1 (W := fun cls d _ H => E cls d H) (y := .int i) T.ox_InvalidPlace T.na_InvalidPlace_place (val_var rfl) fun d hd => kE hs (of_decide_eq_true hb) d _ (fresh_back e1 hd) (e1.trans (Ex.new hd)) upd_same
    · have h0 : 0 ≤ i := by
        have := of_decide_eq_false hb
        omega
      refine st_ret (v := kth (plc row sy0) i) (val_if (ans_v (val_I (g := fun i j => .bl (decide (i < j))) (val_var rfl) (val_lenL (val_var rfl) (SqL.of hq)))) (fun h1 => ?_) (fun h1 => ?_)) (k hs h0 _ e1)
      · have h2 : i < (plc row sy0).length := by
          have := of_decide_eq_true h1
          rwa [List.length_map] at this
        obtain ⟨y, hy, hky⟩ := kth_lt h0 h2
        rw [hky]
        exact val_ixL (val_var rfl) (val_var rfl) (SqL.of hq) (at_of (j := i.toNat) (by omega) (at_int hy))
      · have h2 : ¬ i < (plc row sy0).length := by
          have := of_decide_eq_false h1
          rwa [List.length_map] at this
        rw [kth_ge h0 h2]
        exact val_c
end
/-! ### values that are data -/
theorem dp_ex {K : PySem.W.Frag} {H H' : Hp} (e : Ex H H') : ∀ {d : PyData} {v : V}, Dp K H v d → Dp K H' v d := by
  intro d v h
  refine Dp.rec (motive_1 := fun v d _ => Dp K H' v d) (motive_2 := fun vs ds _ => DpAll K H' vs ds) .non .bl .int .str (fun h _ ih => .lst (ex_l e h) ih) (fun h _ ih => .tup (ex_t e h) ih) .nil (fun _ _ a b => .cons a b) h
theorem dpAll_ex {K : PySem.W.Frag} {H H' : Hp} (e : Ex H H') : ∀ {ds : List PyData} {vs : List V}, DpAll K H vs ds → DpAll K H' vs ds
  | [], _, h => by
    cases h
    exact .nil
  | d :: ds, _, h => by
    cases h with
    | cons a b => exact .cons (dp_ex e a) (dpAll_ex e b)
theorem dpAll_snoc {K : PySem.W.Frag} {H : Hp} {v : V} {d : PyData} : ∀ {ds : List PyData} {vs : List V}, DpAll K H vs ds → Dp K H v d → DpAll K H (vs ++ [v]) (ds ++ [d])
  | [], _, h, h2 => by
    cases h
    exact .cons h2 .nil
  | c :: ds, _, h, h2 => by
    cases h with
    | cons a b => exact .cons a (dpAll_snoc b h2)
theorem dpa_at {K : PySem.W.Frag} {H : Hp} : ∀ {ds : List PyData} {xs : List V} {i : Nat} {x : V}, DpAll K H xs ds → xs[i]? = some x → ∃ d, ds[i]? = some d ∧ Dp K H x d
  | [], _, _, _, h, e => by
    cases h
    cases e
  | c :: ds, _, 0, _, h, e => by
    cases h with
    | cons a b =>
      cases e
      exact ⟨c, rfl, a⟩
  | c :: ds, _, i + 1, _, h, e => by
    cases h with
    | cons a b => exact dpa_at (i := i) b e
theorem dpa_len {K : PySem.W.Frag} {H : Hp} : ∀ {ds : List PyData} {xs : List V}, DpAll K H xs ds → xs.length = ds.length
  | [], _, h => by
    cases h
    rfl
  | c :: ds, _, h => by
    cases h with
    | cons a b => rw [List.length_cons, List.length_cons, dpa_len b]
section
variable {P : Program} {w : World} {K : PySem.W.Frag} {mg : Str → Option Value} {base : Heap}
theorem ok_InvalidStretch_init (T : TX K mg) : Can P w K mg base CX0 1 (He.fAd K at_InvalidStretch_init) ps_InvalidStretch_init [] (spX2 K (He.ga K "InvalidStretch") "first" "behind") := mk_InvalidStretch_init T fun fd F => def0 F sc_InvalidStretch_init (fun vs H Q E h => by
  obtain ⟨a, y, z, rfl, _⟩ := h
  rfl) fun cdv A outer s H vs Q E hr h => by
  obtain ⟨a, y, z, rfl, O, hf, hg, ha, k⟩ := h
  refine ⟨_, (pss_cons (ps_ost (pv 0) (pv 1))
  (pss_one (ps_ost (pv 0) (pv 2)))), ?_⟩
  exact ⟨_, rfl, _, rfl, a, _, rfl, O, hf, .inl ⟨ha, fun dx n1 n2 => ⟨_, rfl, _, rfl, a, _, rfl, O, hg, .inr ⟨dx, _, upd_same, by rw [upd_ne n2, upd_same], by show 1 ≤ 900; decide, k dx n1 n2⟩⟩⟩⟩
end
/-! ### the symbols of a stretch -/
/-- the pairs of the symbols of ks, how often each stands in l -/
def pairsD (l ks : List Int) : List PyData := ks.map fun s => .tuple [.int s, .int ((l.count s : Nat) : Int)]
/-- the ks that stand in l, each once, ascending -/
def kinds (l ks : List Int) : Prop := ks.Pairwise (· < ·) ∧ ∀ s, s ∈ ks ↔ s ∈ l
def few (l : List Int) : Prop := ∀ ks : List Int, ks.Nodup → (∀ s ∈ ks, s ∈ l) → ks.length < 64
def part (row : List Int) (i j : Int) : List Int := (row.drop i.toNat).take (j.toNat - i.toNat)
def spWPresent (K : PySem.W.Frag) : Sp := fun vs H Q E => ∃ (p : Addr) (i j : Int) (row : List Int) (size : Int), vs = [.ref p, .int i, .int j] ∧ (∃ F, WaveAt (He.ga K "Wave") H p row size F) ∧ row.length ≤ 1000 ∧
  (0 ≤ i → i ≤ j → j ≤ row.length → few (part row i j) ∧ ∀ (ks : List Int) (r : Addr) (H' : Hp), kinds (part row i j) ks → H r = none → Ex H H' → Dp K H' (.ref r) (.list (pairsD (part row i j) ks)) → Q (.ref r) H') ∧
  (¬ (0 ≤ i ∧ i ≤ j ∧ j ≤ row.length) → ∀ d H', H d = none → Ex H H' → H' d = some (.xd [("behind", .int j), ("first", .int i)]) → E (.ref (He.ga K "InvalidStretch")) (some d) H')
theorem dp_pair {K : PySem.W.Frag} {H : Hp} {x : V} {s c : Int} (h : Dp K H x (.tuple [.int s, .int c])) : ∃ t, x = .ref t ∧ SqT K H t [.int s, .int c] := by
  cases h with
  | tup h1 h2 =>
    cases h2 with
    | cons a b =>
      cases a
      cases b with
      | cons a b =>
        cases a
        cases b
        exact ⟨_, rfl, h1⟩
theorem few_size {l : List Int} {size : Int} (h : ∀ z ∈ l, 0 ≤ z ∧ z < size) (hs : size ≤ 63) : few l := fun ks hn hk => by
  have := nodup_le (m := (List.range 63).map fun (i : Nat) => (i : Int)) hn fun s hs' => by
    have := h s (hk s hs')
    exact List.mem_map.mpr ⟨s.toNat, List.mem_range.mpr (by omega), by omega⟩
  rw [List.length_map, List.length_range] at this
  omega
theorem take_snoc {l : List Int} {i : Nat} {z : Int} (h : l[i]? = some z) : l.take (i + 1) = l.take i ++ [z] := by
  rw [List.take_add_one, h]
  rfl
section
variable {P : Program} {w : World} {K : PySem.W.Frag} {mg : Str → Option Value} {base : Heap}
theorem ok_Wave_present (T : TX K mg) : Can P w K mg base (L2.CX P w) 4 (He.fAd K at_Wave_present) ps_Wave_present [] (spWPresent K) := by
  obtain ⟨fd_InvalidStretch_init, G_InvalidStretch_init, ds_InvalidStretch_init, v_InvalidStretch_init, b_InvalidStretch_init⟩ := ok_InvalidStretch_init (P := P) (w := w) (base := base) T
  exact mk_Wave_present T fun fd F => defX F sc_Wave_present (fun vs H Q E h => by
    obtain ⟨p, i, j, row, size, rfl, _⟩ := h
    rfl) fun cdv A outer s H vs Q E hr h => by
    obtain ⟨p, i, j, row, size, rfl, ⟨F, W⟩, hz, k, kE⟩ := h
    refine ⟨_, (pss_cons (ps_if (pt_not (pt_chain3 op_le op_le op_le pe_int (pv 1) (pv 2) (eFld K rfl (pv 0) rfl))) (pss_one (ps_raise rfl (takes_of rfl rfl rfl rfl) (pmk_oex T.ox_InvalidStretch T.oi_InvalidStretch T.ot_InvalidStretch G_InvalidStretch_init (hr.mono (by first | decide | omega)) b_InvalidStretch_init v_InvalidStretch_init pass0 rfl T.g_InvalidStretch (pa_cons (pv 1) (pa_cons (pv 2) pa_nil))))) pss_nil)
  (pss_cons (ps_set (i := 3) sc_Wave_present.nd rfl (Or.inr rfl) pe_dnewK)
  (pss_cons (ps_for (passes_of rfl) rfl (iLst K rfl (pe_slice (slL K rfl) (eFld K rfl (pv 0) rfl) (po_some (pv 1)) (po_some (pv 2)))) (pg_name (i := 4) sc_Wave_present.nd rfl (Or.inl rfl))
  (pss_one (ps_dput (hu_of hr) (pv 3) (pv 4) (pe_op op_add (pe_dget2 (hu_of hr) (pv 3) (pv 4) pe_int ⟨rfl, rfl, rfl, rfl⟩) pe_int) rfl)))
  (pss_one (ps_ret (by exact (pe_lc (own := [("symbol", 4)]) (g := gName 4) (tt := tYes) rfl sc_Wave_present.nd (iLst K rfl (pe_callB (call_sortedDI rfl) (by rfl) T.n_sorted (by decide +kernel) (pa_cons (pv 3) pa_nil))) (blkOk_by (own := [("symbol", 4)]) (N := N_Wave_present) (sc := defScope s_Wave_present) (by decide +kernel)) (fun _ _ _ _ _ => by exact (pg_name (i := 4) sc_Wave_present.nd rfl (Or.inl rfl))) (fun _ _ _ _ _ => by exact pts_nil) (fun _ _ _ _ _ => by exact (pe_tup (pa_cons (pv 4) (pa_cons (pe_dget (hu_of hr) (pv 3) (pv 4) (fun _ _ => rfl)) pa_nil))))))))))), ?_⟩
    obtain ⟨dx, sy, pd, kvs, hp, _, _, hsy, _⟩ := id W
    refine st_seq (st_if (ans_not (ans_v (val_chain3 (g := fun i j => decide (i ≤ j)) (g' := fun i j => decide (i ≤ j)) (g2 := fun i j => decide (i ≤ j)) val_c (val_var rfl) (val_var rfl) (val_fld (val_var rfl) hp T.cl_Wave T.na_Wave_length (fl_Wave_length ..))))) (fun hb => ?_) (fun hb => ?_))
    · refine st_raise2 (W := fun cls d _ H => E cls d H) (y := .int i) (z := .int j) T.ox_InvalidStretch T.na_InvalidStretch_first T.na_InvalidStretch_behind (val_var rfl) (val_var rfl) fun d hd => kE (fun hc => ?_) d _ hd (Ex.new hd) upd_same
      rw [decide_eq_true hc.1, decide_eq_true hc.2.1, decide_eq_true hc.2.2] at hb
      cases hb
    · simp only [Bool.not_eq_false', Bool.and_eq_true, decide_eq_true_eq] at hb
      obtain ⟨hfew, k⟩ := k hb.1 hb.2.1 hb.2.2
      intro td htd
      have e1 : Ex H (upd H td (.dK [])) := Ex.new htd
      dsimp only [gName]
      refine st_seq ?_
      refine ⟨_, rfl, p, _, dx, _, _, rfl, e1 _ _ hp, T.cl_Wave, T.na_Wave__symbols, fl_Wave__symbols .., _, rfl, i, rfl, _, rfl, j, rfl, sy, _, rfl, SqL.of (e1 _ _ hsy), fun c hc => ?_⟩
      have ecut : cutV (row.map V.int) (some i) (some j) = (part row i j).map V.int := by
        obtain ⟨i', rfl⟩ : ∃ i' : Nat, i = (i' : Int) := ⟨i.toNat, by omega⟩
        obtain ⟨j', rfl⟩ : ∃ j' : Nat, j = (j' : Int) := ⟨j.toNat, by omega⟩
        rw [cut_in (by rw [List.length_map]; omega) (by rw [List.length_map]; omega)]
        show _ = List.map V.int ((row.drop i').take (j' - i'))
        rw [List.map_take, List.map_drop]
      rw [ecut]
      have e2 : Ex H (upd (upd H td (.dK [])) c (.lst ((part row i j).map V.int))) := e1.trans (Ex.new hc)
      have hlen : (part row i j).length ≤ 1000 := by
        unfold part
        rw [List.length_take, List.length_drop]
        omega
      have ntc : td ≠ c := fun z => by rw [← z, upd_same] at hc; cases hc
      have hc2 : (upd (upd H td (.dK [])) c (.lst ((part row i j).map V.int))) c = some (.lst ((part row i j).map V.int)) := upd_same
      have ht2 : (upd (upd H td (.dK [])) c (.lst ((part row i j).map V.int))) td = some (.dK []) := by rw [upd_ne ntc, upd_same]
      generalize upd (upd H td (.dK [])) c (.lst ((part row i j).map V.int)) = H2 at e2 hc2 ht2 ⊢
      generalize part row i j = cut at hfew k hlen hc2 ⊢
      clear ecut hb
      refine ⟨c, rfl, ⟨_, SqL.of hc2⟩, for_list (fun n σ H' => ∃ v ks, σ = [some (.ref p), some (.int i), some (.int j), some (.ref td), v] ∧ Ex H H' ∧ H' c = some (.lst (cut.map V.int)) ∧ H' td = some (.dK (tk ks fun s => (((cut.take n).count s : Nat) : Int))) ∧ ks.Nodup ∧ ∀ s, s ∈ ks ↔ s ∈ cut.take n) ⟨none, [], rfl, e2, hc2, ht2, .nil, fun s => by simp⟩ (fun n σ H' _ ⟨_, _, _, _, h, _⟩ => SqL.of h) ?_ ?_⟩
      · rintro n x σ H' hn ⟨v, ks, rfl, e, h1, h2, h3, h4⟩
        obtain ⟨u, hu, rfl⟩ := int_at hn
        have hun : u ∈ cut.take n ↔ u ∈ ks := (h4 u).symm
        have hkl : ks.length ≤ cut.length := nodup_le h3 fun s hs => List.mem_of_mem_take ((h4 s).mp hs)
        have hl : (tk ks fun s => (((cut.take n).count s : Nat) : Int)).length < sizeLine := by rw [tk_len]; exact small9 (by omega)
        have hval : (valV (tk ks fun s => (((cut.take n).count s : Nat) : Int)) (.inl u)).getD (.int 0) = .int (((cut.take n).count u : Nat) : Int) := by
          rw [tk_val]
          by_cases hk : u ∈ ks
          · rw [if_pos hk]
            rfl
          · rw [if_neg hk, List.count_eq_zero.mpr (fun q => hk (hun.mp q))]
            rfl
        refine ⟨_, rfl, td, rfl, .inl ⟨_, Rd.of h2⟩, _, rfl, _, DGet.k (k := (Sum.inl u : Key)) h2, ((((cut.take n).count u : Nat) : Int)), 1, hval, rfl, ?_⟩
        refine ⟨_, rfl, _, rfl, td, _, rfl, DPut.k (k := (Sum.inl u : Key)) h2 hl, ?_⟩
        have et := take_snoc hu
        rw [tk_put (c' := fun s => (((cut.take (n + 1)).count s : Nat) : Int)) (by rw [et, List.count_append]; simp) (fun s hs => by rw [et, List.count_append]; simp [Ne.symm hs])]
        refine ⟨_, _, rfl, e.mut htd, by rw [upd_ne (Ne.symm ntc)]; exact h1, upd_same, ?_, fun s => ?_⟩
        · by_cases hk : u ∈ ks
          · rw [if_pos hk]
            exact h3
          · rw [if_neg hk]
            exact List.nodup_append.mpr ⟨h3, by simp, fun a ha b hb => by rw [List.mem_singleton.mp hb]; exact fun q => hk (q ▸ ha)⟩
        · rw [et, List.mem_append, List.mem_singleton, ← h4 s]
          by_cases hk : u ∈ ks
          · rw [if_pos hk]
            exact ⟨.inl, fun h => h.elim id fun e => e ▸ hk⟩
          · rw [if_neg hk, List.mem_append, List.mem_singleton]
      · rintro σ H' ⟨v, ks, rfl, e, h1, h2, h3, h4⟩
        rw [List.length_map, List.take_length] at h2 h4
        dsimp only [gName]
        refine go_ret ⟨_, rfl, td, _, ks, rfl, Rd.of h2, tk_keys _ _, hfew ks h3 (fun s hs => (h4 s).mp hs), fun ys q hperm hasc hq => ?_⟩
        have hn : ys.Nodup := hperm.nodup_iff.mpr h3
        have hk : kinds cut ys := ⟨asc_of hasc hn, fun s => (hperm.mem_iff).trans (h4 s)⟩
        have e3 : Ex H' (upd H' q (.lst (ys.map V.int))) := Ex.new hq
        have hq3 : (upd H' q (.lst (ys.map V.int))) q = some (.lst (ys.map V.int)) := upd_same
        have h23 := e3 _ _ h2
        have hmem : ∀ s ∈ ys, s ∈ ks := fun s hs => hperm.mem_iff.mp hs
        have hy64 : ys.length < 64 := by rw [hperm.length_eq]; exact hfew ks h3 (fun s hs => (h4 s).mp hs)
        have eH3 := e.trans e3
        generalize upd H' q (.lst (ys.map V.int)) = H3 at e3 hq3 h23 eH3 ⊢
        refine ⟨q, rfl, ⟨_, SqL.of hq3⟩, fun D hD => lc_list (xs := ys.map V.int) (fun n H4 => Ex H3 H4 ∧ ∃ acc, H4 D = some (.lst acc) ∧ acc.length = n ∧ ∀ H5, Kp [D] H4 H5 → DpAll K H5 acc (pairsD cut (ys.take n))) ⟨Ex.new hD, [], upd_same, rfl, fun _ _ => .nil⟩ (fun n H4 _ ⟨e4, _⟩ => SqL.of (e4 _ _ hq3)) ?_ ?_⟩
        · rintro n x H4 hn ⟨e4, acc, ha, hal, hdp⟩
          obtain ⟨u, hu, rfl⟩ := int_at hn
          have hu' : u ∈ ks := hmem u (List.mem_of_getElem? hu)
          have hg : DGet H4 td (.int u) (some (.int ((cut.count u : Nat) : Int))) := by
            have := DGet.k (k := (Sum.inl u : Key)) (e4 _ _ h23)
            rw [tk_val, if_pos hu'] at this
            exact this
          refine ⟨rfl, ⟨_, rfl, _, rfl, _, rfl, td, _, rfl, hg, by show 2 ≤ sizeLine; decide, fun t ht => ?_⟩⟩
          have ntD : D ≠ t := fun z => by rw [← z, ha] at ht; cases ht
          have e5 : Ex H4 (upd H4 t (.tup [.int u, .int ((cut.count u : Nat) : Int)])) := Ex.new ht
          have nD : H3 D = none := hD
          refine ⟨acc, e5 _ _ ha, small9 (by have := lt_of_at hu; omega), ?_, _, upd_same, by rw [List.length_append, hal]; rfl, ?_⟩
          · exact fun a o h => by
              have hne : a ≠ D := fun z => by rw [z, nD] at h; cases h
              rw [upd_ne hne]
              exact e5 _ _ (e4 _ _ h)
          · rw [show pairsD cut (ys.take (n + 1)) = pairsD cut (ys.take n) ++ [.tuple [.int u, .int ((cut.count u : Nat) : Int)]] from by unfold pairsD; rw [take_snoc hu, List.map_append]; rfl]
            exact fun H5 k5 => dpAll_snoc (hdp H5 (((Kp.of e5).trans (Kp.put (List.mem_singleton.mpr rfl))).trans k5)) (.tup (SqT.of (k5.at (by rw [upd_ne (Ne.symm ntD), upd_same]) (by simpa using Ne.symm ntD))) (.cons (.int _) (.cons (.int _) .nil)))
        · rintro H4 ⟨e4, acc, ha, hal, hdp⟩
          rw [List.length_map, List.take_length] at hdp
          exact k ys D H4 hk (fresh_back eH3 hD) (eH3.trans e4) (.lst (SqL.of ha) (hdp H4 Kp.refl))
end
/-! ### drawn rows of symbols -/
def spSymbols : Sp := fun vs H Q _ => ∃ (d s : Addr) (size m : Int), vs = [.ref d, .int size, .int m] ∧ 0 < size ∧ size ≤ 65536 ∧ 0 ≤ m ∧ m < 1000 ∧ Deck H d s ∧ ∀ (p : Addr) (row : List Int) (H' : Hp), H p = none → (∀ z ∈ row, sym size z) → row.length ≤ m → Deck H' d s → Kp [d] H H' → H' p = some (.lst (row.map V.int)) → Q (.ref p) H'
section
variable {P : Program} {w : World} {K : PySem.W.Frag} {mg : Str → Option Value} {base : Heap}
theorem ok__law_symbols (T : TX K mg) : Can P w K mg base CX0 2 (He.fAd K at__law_symbols) ps__law_symbols [] spSymbols := by
  obtain ⟨fd__law_draw, G__law_draw, ds__law_draw, v__law_draw, b__law_draw⟩ := ok__law_draw (P := P) (w := w) (base := base) T
  exact mk__law_symbols T fun fd F => def0 F sc__law_symbols (fun vs H Q E h => by
    obtain ⟨d, sc, size, m, rfl, _⟩ := h
    rfl) fun cdv A outer s H vs Q E hr h => by
    obtain ⟨d, sc, size, m, rfl, s0, s1, m0, m1, D, k⟩ := h
    refine ⟨_, (pss_cons (ps_set (i := 3) sc__law_symbols.nd rfl (Or.inr rfl) (by exact (pe_lc (own := [("k", 5)]) (g := gName 5) (tt := tYes) rfl sc__law_symbols.nd (pi_range1 rfl T.n_range (pa_cons pe_int pa_nil)) (blkOk_by (own := [("k", 5)]) (N := N__law_symbols) (sc := defScope s__law_symbols) (by decide +kernel)) (fun _ _ _ _ _ => by exact (pg_name (i := 5) sc__law_symbols.nd rfl (Or.inl rfl))) (fun _ _ _ _ _ => by exact pts_nil) (fun _ _ _ _ _ => by exact (pe_call G__law_draw (hr.mono (by first | decide | omega)) rfl T.g__law_draw T.k__law_draw b__law_draw v__law_draw pass0 (pa_cons (pv 0) (pa_cons (pv 1) pa_nil)))))))
  (pss_cons (ps_set (i := 4) sc__law_symbols.nd rfl (Or.inr rfl) (pe_call G__law_draw (hr.mono (by first | decide | omega)) rfl T.g__law_draw T.k__law_draw b__law_draw v__law_draw pass0 (pa_cons (pv 0) (pa_cons pe_int pa_nil))))
  (pss_one (ps_ret (by exact (pe_lc (own := [("k", 5)]) (g := gName 5) (tt := tYes) rfl sc__law_symbols.nd (pi_range1 rfl T.n_range (pa_cons (pe_call G__law_draw (hr.mono (by first | decide | omega)) rfl T.g__law_draw T.k__law_draw b__law_draw v__law_draw pass0 (pa_cons (pv 0) (pa_cons (pe_op op_add (pv 2) pe_int) pa_nil))) pa_nil)) (blkOk_by (own := [("k", 5)]) (N := N__law_symbols) (sc := defScope s__law_symbols) (by decide +kernel)) (fun _ _ _ _ _ => by exact (pg_name (i := 5) sc__law_symbols.nd rfl (Or.inl rfl))) (fun _ _ _ _ _ => by exact pts_nil) (fun _ _ _ _ _ => by exact (pe_ix (ixL K rfl) (pe_lst (pa_cons (pe_call G__law_draw (hr.mono (by first | decide | omega)) rfl T.g__law_draw T.k__law_draw b__law_draw v__law_draw pass0 (pa_cons (pv 0) (pa_cons (pv 1) pa_nil))) (pa_cons (pe_ix (ixL K rfl) (pv 3) (pe_call G__law_draw (hr.mono (by first | decide | omega)) rfl T.g__law_draw T.k__law_draw b__law_draw v__law_draw pass0 (pa_cons (pv 0) (pa_cons pe_int pa_nil))) (fun _ _ => rfl)) pa_nil))) (pv 4) (fun _ _ => rfl))))))))), ?_⟩
    refine st_seq (go_asg (lc_drawn (d := d) (sc := sc) (Pn := fun n => n = 3) (Pz := sym size) (fun n h => by omega) ?_ ?_ ?_ fun fe few H1 hfe hfew hl1 D1 e1 h1 => ?_))
    · intro R q
      exact q 3 H rfl D Kp.refl
    · intro y
      rfl
    · intro y H1 e1 D1 R q
      exact rd_draw rfl (val_var rfl) s0 (by omega) D1 fun v H2 v0 v1 D2 e2 => q v H2 ⟨v0, v1⟩ D2 e2
    refine rd_draw rfl val_c (by decide) (by decide) D1 fun kind H2 k0 k1 D2 e2 => ?_
    have nfe : fe ∉ [d] := by simpa using D.ne_new hfe
    have h2 := e2.at h1 nfe
    dsimp only [gName]
    refine go_ret (lc_drawn (d := d) (sc := sc) (Pn := fun n => (n : Int) ≤ m) (Pz := sym size) (fun n h => by omega) ?_ ?_ ?_ fun p row H3 hp hrow hl3 D3 e3 h3 => ?_)
    · intro R q
      refine rd_draw rfl (val_I (g := fun i j => .int (i + j)) (val_var rfl) val_c) (by omega) (by omega) D2 fun n H3 n0 n1 D3 e3 => ?_
      obtain ⟨n', rfl⟩ : ∃ n' : Nat, n = (n' : Int) := ⟨n.toNat, by omega⟩
      exact q n' H3 (by omega) D3 e3
    · intro y
      rfl
    · intro y H3 e3 D3 R q
      -- [draw(deck, size), few[draw(deck, 3)]][kind]
      refine rd_draw rfl (val_var rfl) s0 (by omega) D3 fun x1 H4 a0 a1 D4 e4 => ?_
      refine ⟨_, rfl, ?_⟩
      refine rd_draw rfl val_c (by decide) (by decide) D4 fun x2 H5 b0 b1 D5 e5 => ?_
      have h5 := (e4.trans e5).at (e3.at h2 nfe) nfe
      have hx2 : x2.toNat < few.length := by omega
      refine ⟨fe, _, x2, _, rfl, rfl, SqL.of h5, at_of (j := x2.toNat) (by omega) (at_int (List.getElem?_eq_getElem hx2)), by show 2 ≤ sizeLine; decide, fun q2 hq2 => ?_⟩
      obtain ⟨z, hz, ez⟩ : ∃ z : Int, sym size z ∧ atI [V.int x1, V.int few[x2.toNat]] kind = some (.int z) := by
        rcases (show kind = 0 ∨ kind = 1 by omega) with rfl | rfl
        · exact ⟨x1, ⟨a0, a1⟩, rfl⟩
        · exact ⟨_, hfew _ (List.getElem_mem hx2), rfl⟩
      exact ⟨_, rfl, q2, _, kind, _, rfl, rfl, SqL.of upd_same, ez, q z _ hz (D5.put hq2) ((e4.trans e5).trans (Kp.new hq2))⟩
    · refine k p row H3 ?_ hrow hl3 D3 ((e1.trans e2).trans e3) h3
      exact (e1.trans e2).back (fun a ha => by rw [List.mem_singleton.mp ha]; exact D2.lst) hp
end
theorem WaveAt.apart {C : Addr} {H : Hp} {p : Addr} {row : List Int} {size : Int} {F : Addr → Prop} {d s : Addr} (B : WaveAt C H p row size F) (D : Deck H d s) : p ≠ d := by
  obtain ⟨dx, sy, pd, kvs, h1, _⟩ := B
  obtain ⟨ms, i, c, x, g1, _⟩ := D
  intro e
  rw [e, g1] at h1
  cases h1
theorem plc_at {row : List Int} {s : Int} {i : Nat} (h : row[i]? = some s) : (plc row s)[(plcTo row s i).length]? = some (i : Int) ∧ (plcTo row s (i + 1)).length = (plcTo row s i).length + 1 := by
  have hi : i < row.length := lt_of_at h
  have e1 : plcTo row s (i + 1) = plcTo row s i ++ [(i : Int)] := by rw [plcTo_succ, isAt_eq h, if_pos (decide_eq_true rfl)]
  obtain ⟨r, h1, _⟩ := plcTo_split (row := row) (s := s) (i := i + 1) (n := row.length) hi
  refine ⟨?_, by rw [e1, List.length_append]; rfl⟩
  unfold plc
  rw [h1, e1, List.append_assoc, List.getElem?_append_right (Nat.le_refl _), Nat.sub_self]
  rfl
theorem plc_back {row : List Int} {s : Int} {k : Nat} {p : Int} (h : (plc row s)[k]? = some p) : ∃ i : Nat, p = (i : Int) ∧ row[i]? = some s ∧ (plcTo row s i).length = k ∧ (plcTo row s (i + 1)).length = k + 1 := by
  obtain ⟨i, rfl, hi, hs⟩ := plcTo_mem.mp (List.mem_of_getElem? h)
  obtain ⟨h1, h2⟩ := plc_at hs
  have ha : (plc row s).Pairwise (· < ·) := plcTo_lt row s row.length
  have e : (plcTo row s i).length = k := by
    rcases Nat.lt_trichotomy (plcTo row s i).length k with q | q | q
    · have := asc_at ha q h1 h
      omega
    · exact q
    · have := asc_at ha q h h1
      omega
  exact ⟨i, rfl, hs, e, by rw [h2, e]⟩
theorem pre_plc {row : List Int} (hb : ∀ z ∈ row, bit z) : ∀ i : Nat, i ≤ row.length → pre row i = ((plcTo row 1 i).length : Int)
  | 0, _ => rfl
  | i + 1, h => by
    have e := List.getElem?_eq_getElem (show i < row.length from h)
    rw [pre_succ e, pre_plc hb i (by omega), plcTo_succ, isAt_eq e]
    rcases hb _ (List.getElem_mem (show i < row.length from h)) with q | q
    · rw [q, if_neg (by decide)]
      omega
    · rw [q, if_pos (by decide), List.length_append]
      simp
theorem plc_mono {row : List Int} {s : Int} {i j : Nat} (h : i ≤ j) : (plcTo row s i).length ≤ (plcTo row s j).length := by
  obtain ⟨r, e, _⟩ := plcTo_split (row := row) (s := s) h
  rw [e, List.length_append]
  omega
/-! ### the law -/
def spLaw (K : PySem.W.Frag) : Sp := fun vs H Q _ => ∃ (a : Addr) (ns : List Int), vs = [.ref a] ∧ SqL K H a (ns.map V.int) ∧ ∀ H', Q (.bl true) H'
theorem law_start {K : PySem.W.Frag} {H : Hp} {a : Addr} {ns : List Int} (_ : ns.length ≤ 63) (_ : ∀ z ∈ ns, Builtin.Int.intBits z ≤ 1048576) (_ : Only H) (hS : SqL K H a (ns.map V.int)) : spLaw K [.ref a] H (fun v _ => v = .bl true) fun _ _ _ => False := ⟨a, ns, rfl, hS, fun _ => rfl⟩
section
variable {P : Program} {w : World} {K : PySem.W.Frag} {mg : Str → Option Value} {base : Heap}
theorem ok_law (T : TX K mg) (fd : FuncData) (F : FunD K "law" "law" (defArgs s_law) (defBody s_law) (defScope s_law) [] [] (He.fAd K at_law) fd) : FnOk P w K mg base CX0 12 (He.fAd K at_law) fd ps_law (spLaw K) := by
  obtain ⟨fd__law_deck, G__law_deck, ds__law_deck, v__law_deck, b__law_deck⟩ := ok__law_deck (P := P) (w := w) (base := base) T
  obtain ⟨fd__law_bits, G__law_bits, ds__law_bits, v__law_bits, b__law_bits⟩ := ok__law_bits (P := P) (w := w) (base := base) T
  obtain ⟨fd__law_symbols, G__law_symbols, ds__law_symbols, v__law_symbols, b__law_symbols⟩ := ok__law_symbols (P := P) (w := w) (base := base) T
  obtain ⟨fd__law_draw, G__law_draw, ds__law_draw, v__law_draw, b__law_draw⟩ := ok__law_draw (P := P) (w := w) (base := base) T
  obtain ⟨fd_Bits_init, G_Bits_init, ds_Bits_init, v_Bits_init, b_Bits_init⟩ := ok_Bits_init (P := P) (w := w) (base := base) T
  obtain ⟨fd_Bits_at, G_Bits_at, ds_Bits_at, v_Bits_at, b_Bits_at⟩ := ok_Bits_at (P := P) (w := w) (base := base) T
  obtain ⟨fd_Bits_rank, G_Bits_rank, ds_Bits_rank, v_Bits_rank, b_Bits_rank⟩ := ok_Bits_rank (P := P) (w := w) (base := base) T
  obtain ⟨fd_Bits_rank_1, G_Bits_rank_1, ds_Bits_rank_1, v_Bits_rank_1, b_Bits_rank_1⟩ := ok_Bits_rank_1 (P := P) (w := w) (base := base) T
  obtain ⟨fd_Bits_select_1, G_Bits_select_1, ds_Bits_select_1, v_Bits_select_1, b_Bits_select_1⟩ := ok_Bits_select_1 (P := P) (w := w) (base := base) T
  obtain ⟨fd_Wave_init, G_Wave_init, ds_Wave_init, v_Wave_init, b_Wave_init⟩ := ok_Wave_init (P := P) (w := w) (base := base) T
  obtain ⟨fd_Wave_at, G_Wave_at, ds_Wave_at, v_Wave_at, b_Wave_at⟩ := ok_Wave_at (P := P) (w := w) (base := base) T
  obtain ⟨fd_Wave_rank, G_Wave_rank, ds_Wave_rank, v_Wave_rank, b_Wave_rank⟩ := ok_Wave_rank (P := P) (w := w) (base := base) T
  obtain ⟨fd_Wave_select, G_Wave_select, ds_Wave_select, v_Wave_select, b_Wave_select⟩ := ok_Wave_select (P := P) (w := w) (base := base) T
  obtain ⟨fd_Wave_present, G_Wave_present, ds_Wave_present, v_Wave_present, b_Wave_present⟩ := ok_Wave_present (P := P) (w := w) (base := base) T
  refine def0 F sc_law (fun vs H Q E h => by
    obtain ⟨a, ns, rfl, _⟩ := h
    rfl) fun cdv A outer s H vs Q E hr h => ?_
  obtain ⟨a, ns, rfl, hS, k⟩ := h
  refine ⟨_, (pss_cons (ps_set (i := 1) sc_law.nd rfl (Or.inl rfl) (pe_call G__law_deck (hr.mono (by first | decide | omega)) rfl T.g__law_deck T.k__law_deck b__law_deck v__law_deck pass0 (pa_cons (pv 0) pa_nil)))
  (pss_cons (ps_set (i := 2) sc_law.nd rfl (Or.inl rfl) (pe_call G__law_bits (hr.mono (by first | decide | omega)) rfl T.g__law_bits T.k__law_bits b__law_bits v__law_bits pass0 (pa_cons (pv 1) (pa_cons pe_int pa_nil))))
  (pss_cons (ps_set (i := 3) sc_law.nd rfl (Or.inl rfl) (pe_make T.m_Bits G_Bits_init (hr.mono (by first | decide | omega)) rfl T.g_Bits b_Bits_init v_Bits_init passL (pa_cons (pv 2) pa_nil)))
  (pss_cons (ps_set (i := 4) sc_law.nd rfl (Or.inl rfl) (pe_make T.m_Wave G_Wave_init (hr.mono (by first | decide | omega)) rfl T.g_Wave b_Wave_init v_Wave_init passL (pa_cons (pv 2) (pa_cons pe_int pa_nil))))
  (pss_cons (ps_set (i := 5) sc_law.nd rfl (Or.inl rfl) pe_int)
  (pss_cons (ps_for PassesOwn.never rfl (pi_range3 rfl T.n_range (pa_cons pe_int (pa_cons (pe_op op_add (pe_callB (cLen K rfl) (by rfl) T.n_len PySem.boot_len (pa_cons (pv 2) pa_nil)) pe_int) (pa_cons pe_int pa_nil)))) (pg_name (i := 6) sc_law.nd rfl (Or.inl rfl))
  (pss_cons (ps_set (i := 12) sc_law.nd rfl (Or.inl rfl) (pe_meth (pv 3) T.cl_Bits T.me_Bits_rank G_Bits_rank_1 (hr.mono (by first | decide | omega)) b_Bits_rank_1 v_Bits_rank_1 passL (pa_cons (pv 6) pa_nil)))
  (pss_cons (ps_if (PW.pt (pw_or (pt_cmpR op_ne (pe_op op_add (pv 12) (pe_meth (pv 3) T.cl_Bits T.me_Bits_rank G_Bits_rank (hr.mono (by first | decide | omega)) b_Bits_rank v_Bits_rank passL (pa_cons (pv 6) (pa_cons pe_int pa_nil)))) (pv 6) (nomark _)) (pw_or (pt_cmpR op_ne (pe_meth (pv 4) T.cl_Wave T.me_Wave_rank G_Wave_rank (hr.mono (by first | decide | omega)) b_Wave_rank v_Wave_rank passL (pa_cons pe_int (pa_cons (pv 6) pa_nil))) (pv 12) (nomark _)) (pw_or1 (pt_cmpR op_lt (pv 12) (pv 5) (nomark _)))))) (pss_one (ps_ret pe_bl)) pss_nil)
  (pss_one (ps_set (i := 5) sc_law.nd rfl (Or.inl rfl) (pv 12))))))
  (pss_cons (ps_for PassesOwn.never rfl (pi_range3 rfl T.n_range (pa_cons pe_int (pa_cons (eFld K rfl (pv 3) rfl) (pa_cons pe_int pa_nil)))) (pg_name (i := 7) sc_law.nd rfl (Or.inl rfl))
  (pss_cons (ps_set (i := 13) sc_law.nd rfl (Or.inl rfl) (pe_meth (pv 3) T.cl_Bits T.me_Bits_select G_Bits_select_1 (hr.mono (by first | decide | omega)) b_Bits_select_1 v_Bits_select_1 passL (pa_cons (pv 7) pa_nil)))
  (pss_one (ps_if (PW.pt (pw_or (pt_cmpR op_ne (pe_meth (pv 3) T.cl_Bits T.me_Bits_rank G_Bits_rank_1 (hr.mono (by first | decide | omega)) b_Bits_rank_1 v_Bits_rank_1 passL (pa_cons (pv 13) pa_nil)) (pv 7) (nomark _)) (pw_or (pt_cmpR op_ne (pe_meth (pv 3) T.cl_Bits T.me_Bits_rank G_Bits_rank_1 (hr.mono (by first | decide | omega)) b_Bits_rank_1 v_Bits_rank_1 passL (pa_cons (pe_op op_add (pv 13) pe_int) pa_nil)) (pe_op op_add (pv 7) pe_int) (nomark _)) (pw_or (pt_cmpR op_ne (pe_meth (pv 3) T.cl_Bits T.me_Bits_at G_Bits_at (hr.mono (by first | decide | omega)) b_Bits_at v_Bits_at passL (pa_cons (pv 13) pa_nil)) pe_int (nomark _)) (pw_or1 (pt_cmpR op_ne (pe_meth (pv 4) T.cl_Wave T.me_Wave_select G_Wave_select (hr.mono (by first | decide | omega)) b_Wave_select v_Wave_select passL (pa_cons pe_int (pa_cons (pv 7) pa_nil))) (pv 13) (nomark _))))))) (pss_one (ps_ret pe_bl)) pss_nil))))
  (pss_cons (ps_set (i := 8) sc_law.nd rfl (Or.inl rfl) (pe_op op_add pe_int (pe_call G__law_draw (hr.mono (by first | decide | omega)) rfl T.g__law_draw T.k__law_draw b__law_draw v__law_draw pass0 (pa_cons (pv 1) (pa_cons pe_int pa_nil)))))
  (pss_cons (ps_set (i := 9) sc_law.nd rfl (Or.inl rfl) (pe_call G__law_symbols (hr.mono (by first | decide | omega)) rfl T.g__law_symbols T.k__law_symbols b__law_symbols v__law_symbols pass0 (pa_cons (pv 1) (pa_cons (pv 8) (pa_cons pe_int pa_nil)))))
  (pss_cons (ps_set (i := 10) sc_law.nd rfl (Or.inl rfl) (pe_make T.m_Wave G_Wave_init (hr.mono (by first | decide | omega)) rfl T.g_Wave b_Wave_init v_Wave_init passL (pa_cons (pv 9) (pa_cons (pv 8) pa_nil))))
  (pss_cons (ps_for PassesOwn.never rfl (pi_range1 rfl T.n_range (pa_cons (eFld K rfl (pv 10) rfl) pa_nil)) (pg_name (i := 7) sc_law.nd rfl (Or.inl rfl))
  (pss_cons (ps_set (i := 14) sc_law.nd rfl (Or.inl rfl) (pe_meth (pv 10) T.cl_Wave T.me_Wave_at G_Wave_at (hr.mono (by first | decide | omega)) b_Wave_at v_Wave_at passL (pa_cons (pv 7) pa_nil)))
  (pss_one (ps_if (PW.pt (pw_or (pt_cmpR op_ne (pe_meth (pv 10) T.cl_Wave T.me_Wave_select G_Wave_select (hr.mono (by first | decide | omega)) b_Wave_select v_Wave_select passL (pa_cons (pv 14) (pa_cons (pe_meth (pv 10) T.cl_Wave T.me_Wave_rank G_Wave_rank (hr.mono (by first | decide | omega)) b_Wave_rank v_Wave_rank passL (pa_cons (pv 14) (pa_cons (pv 7) pa_nil))) pa_nil))) (pv 7) (nomark _)) (pw_or1 (pt_cmpR op_ne (pe_meth (pv 10) T.cl_Wave T.me_Wave_rank G_Wave_rank (hr.mono (by first | decide | omega)) b_Wave_rank v_Wave_rank passL (pa_cons (pv 14) (pa_cons (pe_op op_add (pv 7) pe_int) pa_nil))) (pe_op op_add (pe_meth (pv 10) T.cl_Wave T.me_Wave_rank G_Wave_rank (hr.mono (by first | decide | omega)) b_Wave_rank v_Wave_rank passL (pa_cons (pv 14) (pa_cons (pv 7) pa_nil))) pe_int) (nomark _))))) (pss_one (ps_ret pe_bl)) pss_nil))))
  (pss_cons (ps_set (i := 11) sc_law.nd rfl (Or.inl rfl) (pe_call G__law_draw (hr.mono (by first | decide | omega)) rfl T.g__law_draw T.k__law_draw b__law_draw v__law_draw pass0 (pa_cons (pv 1) (pa_cons (pe_op op_add (pe_callB (cLen K rfl) (by rfl) T.n_len PySem.boot_len (pa_cons (pv 9) pa_nil)) pe_int) pa_nil))))
  (pss_one (ps_ret (pe_cmpR op_eq (pe_callB (cSum K rfl rfl) (by rfl) T.n_sum (by decide +kernel) (pa_cons (by exact (pe_lc (own := [("pair", 15)]) (g := gName 15) (tt := tYes) rfl sc_law.nd (iLst K rfl (pe_meth (pv 10) T.cl_Wave T.me_Wave_present G_Wave_present (hr.mono (by first | decide | omega)) b_Wave_present v_Wave_present passL (pa_cons (pv 11) (pa_cons (pe_callB (cLen K rfl) (by rfl) T.n_len PySem.boot_len (pa_cons (pv 9) pa_nil)) pa_nil)))) (blkOk_by (own := [("pair", 15)]) (N := N_law) (sc := defScope s_law) (by decide +kernel)) (fun _ _ _ _ _ => by exact (pg_name (i := 15) sc_law.nd rfl (Or.inl rfl))) (fun _ _ _ _ _ => by exact pts_nil) (fun _ _ _ _ _ => by exact (pe_ix (ixT K rfl) (pv 15) pe_int (fun _ _ => rfl))))) pa_nil)) (pe_op op_sub (pe_callB (cLen K rfl) (by rfl) T.n_len PySem.boot_len (pa_cons (pv 9) pa_nil)) (pv 11)) (nomark _)))))))))))))))), ?_⟩
  -- deck, row
  refine ⟨_, rfl, a, ns, rfl, hS, fun d sc H1 hd hsc D1 e1 => ?_⟩
  refine ⟨_, rfl, d, sc, 200, rfl, by decide, by decide, D1, fun rp row H2 hrp hb hlen D2 e2 hrow => ?_⟩
  have hlen' : row.length ≤ 200 := by omega
  -- bits = Bits(row)
  refine ⟨_, rfl, fun x dx hx hdx hne => ?_⟩
  have em : Ex H2 (upd (upd H2 dx (.own x)) x (.ins (He.ga K "Bits") dx [])) := (Ex.new hdx).trans (Ex.new (by rw [upd_ne (Ne.symm hne)]; exact hx))
  refine ⟨x, dx, rp, row, rfl, upd_same, SqL.of (em _ _ hrow), by omega, fun hall F H4 e4 fF B4 => ⟨rfl, ?_⟩, fun i z hi hz => absurd (hb z (List.mem_of_getElem? hi)) hz⟩
  have e24 : Ex H2 H4 := fun a o ha => e4.at (em _ _ ha) (fun z => by rw [List.mem_singleton.mp z, hx] at ha; cases ha)
  have r4 := e24 _ _ hrow
  have D4 := D2.keep e24
  clear em e4 fF
  -- wave = Wave(row, 2)
  refine ⟨_, rfl, fun y dy hy hdy hney => ?_⟩
  have em : Ex H4 (upd (upd H4 dy (.own y)) y (.ins (He.ga K "Wave") dy [])) := (Ex.new hdy).trans (Ex.new (by rw [upd_ne (Ne.symm hney)]; exact hy))
  have hsy : ∀ z ∈ row, sym 2 z := fun z hz => by
    have := hb z hz
    unfold bit at this
    unfold sym
    omega
  refine ⟨y, dy, rp, row, 2, rfl, upd_same, SqL.of (em _ _ r4), by omega, fun hos hall2 H5 e5 W5 => ⟨rfl, ?_⟩, fun hn => absurd ⟨by omega, by omega⟩ hn, fun _ i z hi hz => absurd (hsy z (List.mem_of_getElem? hi)) hz⟩
  have e45 : Ex H4 H5 := fun a o ha => e5.at (em _ _ ha) (fun z => by rw [List.mem_singleton.mp z, hy] at ha; cases ha)
  have r5 := e45 _ _ r4
  have D5 := D4.keep e45
  have B5 := B4.keep e45
  clear em e5 hall2 hos
  obtain ⟨bx, dg, ct, pl, pz, po, _, hbx, _⟩ := id B5
  obtain ⟨wx, sy, pd, kvs, hwx, _⟩ := id W5
  have hpre := pre_plc hb
  have sum_ones : row.sum = ((plc row 1).length : Int) := by rw [← pre_all]; exact hpre _ (Nat.le_refl _)
  have ones_le : (plc row 1).length ≤ row.length := plcTo_len row 1 row.length
  have rk1 : ∀ i : Int, rk row i 1 = pre row i.toNat := fun _ => rfl
  have rk0 : ∀ i : Int, rk row i 0 = i - pre row i.toNat := fun _ => rfl
  have bR1 : ∀ {σ : L2.St} {H' : Hp} {ti : TE} {i : Int}, Ex H5 H' → σ[3]? = some (some (.ref x)) → Ev ti σ H' (.int i) → 0 ≤ i → i ≤ row.length → Ev (tMeth (He.ga K "Bits") "rank" (spRank K) [.int 1] E0 (tVar 3) (tCons ti tNil)) σ H' (.int (rk row i 1)) :=
    fun e h3 hi h0 h1 => ev_meth (ev_var h3) (e _ _ hbx) (fn_Bits_rank ..) (ea_cons hi ea_nil) fun H1 e1 Q q E => ⟨x, _, 1, row, rfl, ⟨F, B5.keep (e.trans e1)⟩, fun _ _ => q H1 (Ex.refl _), fun h => absurd ⟨h0, h1⟩ h⟩
  have bR : ∀ {σ : L2.St} {H' : Hp} {ti tg : TE} {i g : Int}, Ex H5 H' → σ[3]? = some (some (.ref x)) → Ev ti σ H' (.int i) → Ev tg σ H' (.int g) → 0 ≤ i → i ≤ row.length → Ev (tMeth (He.ga K "Bits") "rank" (spRank K) [] E0 (tVar 3) (tCons ti (tCons tg tNil))) σ H' (.int (rk row i g)) :=
    fun e h3 hi hg h0 h1 => ev_meth (ev_var h3) (e _ _ hbx) (fn_Bits_rank ..) (ea_cons hi (ea_cons hg ea_nil)) fun H1 e1 Q q E => ⟨x, _, _, row, rfl, ⟨F, B5.keep (e.trans e1)⟩, fun _ _ => q H1 (Ex.refl _), fun h => absurd ⟨h0, h1⟩ h⟩
  have bS : ∀ {σ : L2.St} {H' : Hp} {ti : TE} {i : Int}, Ex H5 H' → σ[3]? = some (some (.ref x)) → Ev ti σ H' (.int i) → 0 ≤ i → Ev (tMeth (He.ga K "Bits") "select" (spSelect K) [.int 1] E0 (tVar 3) (tCons ti tNil)) σ H' (kth (plc row 1) i) :=
    fun e h3 hi h0 => ev_meth (ev_var h3) (e _ _ hbx) (fn_Bits_select ..) (ea_cons hi ea_nil) fun H1 e1 Q q E => ⟨x, _, 1, row, rfl, ⟨F, B5.keep (e.trans e1)⟩, .inr rfl, fun _ => q, fun h => absurd h (by omega)⟩
  have bA : ∀ {σ : L2.St} {H' : Hp} {ti : TE} {i : Nat} {z : Int}, Ex H5 H' → σ[3]? = some (some (.ref x)) → Ev ti σ H' (.int (i : Int)) → row[i]? = some z → Ev (tMeth (He.ga K "Bits") "at" (spAt K) [] E0 (tVar 3) (tCons ti tNil)) σ H' (.int z) :=
    fun {σ H' ti i z} e h3 hi hz => ev_meth (ev_var h3) (e _ _ hbx) (fn_Bits_at ..) (ea_cons hi ea_nil) fun H1 e1 Q q E => ⟨x, _, row, rfl, ⟨F, B5.keep (e.trans e1)⟩, fun u _ hu => by
      have : u = z := by
        rw [Int.toNat_natCast, hz] at hu
        exact (Option.some.inj hu).symm
      rw [this]
      exact q H1 (Ex.refl _), fun h => absurd ⟨by omega, by have := lt_of_at hz; omega⟩ h⟩
  have wR : ∀ {C : Addr → Prop} {o : Nat} {σ : L2.St} {H' : Hp} {ts ti : TE} {i s : Int} {p : Addr} {rw_ : List Int} {size : Int}, WaveAt (He.ga K "Wave") H' p rw_ size C → rw_.length ≤ 1000 → σ[o]? = some (some (.ref p)) → Ev ts σ H' (.int s) → Ev ti σ H' (.int i) → sym size s → 0 ≤ i → i ≤ rw_.length →
      Ev (tMeth (He.ga K "Wave") "rank" (spWRank K) [] E0 (tVar o) (tCons ts (tCons ti tNil))) σ H' (.int ((plcTo rw_ s i.toNat).length : Int)) :=
    fun W hz h3 hs hi hsy h0 h1 => by
      obtain ⟨_, _, _, _, hp, _⟩ := id W
      exact ev_meth (ev_var h3) hp (fn_Wave_rank ..) (ea_cons hs (ea_cons hi ea_nil)) fun H1 e1 Q q E => ⟨_, _, _, _, _, rfl, ⟨_, W.keep e1⟩, hz, fun _ _ _ => q, fun h => absurd hsy h, fun _ h => absurd ⟨h0, h1⟩ h⟩
  have wS : ∀ {C : Addr → Prop} {o : Nat} {σ : L2.St} {H' : Hp} {ts ti : TE} {i s : Int} {p : Addr} {rw_ : List Int} {size : Int}, WaveAt (He.ga K "Wave") H' p rw_ size C → σ[o]? = some (some (.ref p)) → Ev ts σ H' (.int s) → Ev ti σ H' (.int i) → sym size s → 0 ≤ i →
      Ev (tMeth (He.ga K "Wave") "select" (spWSelect K) [] E0 (tVar o) (tCons ts (tCons ti tNil))) σ H' (kth (plc rw_ s) i) :=
    fun W h3 hs hi hsy h0 => by
      obtain ⟨_, _, _, _, hp, _⟩ := id W
      exact ev_meth (ev_var h3) hp (fn_Wave_select ..) (ea_cons hs (ea_cons hi ea_nil)) fun H1 e1 Q q E => ⟨_, _, _, _, _, rfl, ⟨_, W.keep e1⟩, fun _ _ => q, fun h => absurd hsy h, fun _ h => absurd h (by omega)⟩
  have no : ∀ {z z' : Int}, z = z' → V.bl (!decide (V.int z = V.int z')) = V.bl false := fun h => by
    subst h
    rw [decide_eq_true rfl]
    rfl
  have s21 : sym 2 1 := ⟨by decide, by decide⟩
  dsimp only [gName]
  -- last = 0; for i in range(0, len(row) + 1, 3)
  refine st_seq (go_asg ?_)
  refine q_forR3 (m := (row.length : Int) + 1) (c := 3) (ea_cons ev_c (ea_cons (ev_op (ev_is (ev_lenV (ev_var rfl) (SqL.of r5)) (by rw [List.length_map])) ev_c (rv_I0 (g := fun i j => .int (i + j)))) (ea_cons ev_c ea_nil))) (.inr rfl) (by omega)
    (fun i σ H' => ∃ last v6 v12, σ = [some (.ref a), some (.ref d), some (.ref rp), some (.ref x), some (.ref y), some (.int last), v6, none, none, none, none, none, v12, none, none, none] ∧ Ex H5 H' ∧ ∀ j : Nat, i ≤ j → j ≤ row.length → last ≤ pre row j)
    (fun H6 e6 => ⟨0, none, none, rfl, e6, fun j _ hj => by rw [hpre j hj]; omega⟩) ?_ ?_
  · rintro i σ H6 h0 h1 ⟨last, v6, v12, rfl, e6, hl⟩
    obtain ⟨i', rfl⟩ : ∃ i' : Nat, i = (i' : Int) := ⟨i.toNat, by omega⟩
    have hi : i' ≤ row.length := by omega
    refine q_asg (bR1 e6 rfl (ev_var rfl) h0 (by omega)) fun H7 e7 => ?_
    rw [rk1, Int.toNat_natCast]
    refine q_when (b := false) (et_or (a := false) (et_test (ev_is (ev_op (ev_op (ev_var rfl) (bR (e6.trans e7) rfl (ev_var rfl) ev_c h0 (by omega)) (rv_I0 (g := fun i j => .int (i + j)))) (ev_var rfl) (rv_ne rfl)) (no (by rw [rk0, Int.toNat_natCast]; omega)))) fun _ =>
      et_or (a := false) (et_test (ev_is (ev_op (wR (W5.keep (e6.trans e7)) (by omega) rfl ev_c (ev_var rfl) s21 h0 (by omega)) (ev_var rfl) (rv_ne rfl)) (no (by rw [hpre i' hi, Int.toNat_natCast])))) fun _ =>
        et_test (ev_is (ev_op (ev_var rfl) (ev_var rfl) (rv_I0 (g := fun i j => .bl (decide (i < j))))) (by rw [decide_eq_false (by have := hl i' (Int.le_refl _) hi; omega)]))) (fun z => by cases z) fun _ H8 e8 => ?_
    exact s_asg (ev_var rfl) fun H9 e9 => ⟨_, _, _, rfl, ((e6.trans e7).trans e8).trans e9, fun j hj hj2 => by rw [hpre i' hi, hpre j hj2]; have := plc_mono (row := row) (s := 1) (show i' ≤ j by omega); omega⟩
  rintro _ σ H6 ⟨last, v6, v12, rfl, e6, _⟩
  -- for k in range(0, bits.ones, 2)
  refine q_forR3 (m := row.sum) (c := 2) (ea_cons ev_c (ea_cons (ev_fld (ev_var rfl) (e6 _ _ hbx) T.cl_Bits T.na_Bits_ones (fl_Bits_ones ..)) (ea_cons ev_c ea_nil))) (.inl rfl) (by rw [sum_ones]; omega)
    (fun _ σ H' => ∃ v7 v13, σ = [some (.ref a), some (.ref d), some (.ref rp), some (.ref x), some (.ref y), some (.int last), v6, v7, none, none, none, none, v12, v13, none, none] ∧ Ex H5 H')
    (fun H7 e7 => ⟨none, none, rfl, e6.trans e7⟩) ?_ ?_
  · rintro i σ H7 h0 h1 ⟨v7, v13, rfl, e7⟩
    rw [sum_ones] at h1
    obtain ⟨z, hz, ek⟩ := kth_lt (l := plc row 1) h0 h1
    obtain ⟨j, rfl, g1, g2, g3⟩ := plc_back hz
    have hj := lt_of_at g1
    refine q_asg (ev_is (bS e7 rfl (ev_var rfl) h0) ek) fun H8 e8 => ?_
    have e78 := e7.trans e8
    refine s_when (b := false) (et_or (a := false) (et_test (ev_is (ev_op (bR1 e78 rfl (ev_var rfl) (by omega) (by omega)) (ev_var rfl) (rv_ne rfl)) (no (by rw [rk1, Int.toNat_natCast, hpre j (by omega), g2]; omega)))) fun _ =>
      et_or (a := false) (et_test (ev_is (ev_op (bR1 e78 rfl (ev_op (ev_var rfl) ev_c (rv_I0 (g := fun i j => .int (i + j)))) (by omega) (by omega)) (ev_op (ev_var rfl) ev_c (rv_I0 (g := fun i j => .int (i + j)))) (rv_ne rfl)) (no (by rw [rk1, show ((j : Int) + 1).toNat = j + 1 from by omega, hpre (j + 1) (by omega), g3]; omega)))) fun _ =>
        et_or (a := false) (et_test (ev_is (ev_op (bA e78 rfl (ev_var rfl) g1) ev_c (rv_ne rfl)) (no rfl))) fun _ =>
          et_test (ev_is (ev_op (ev_is (wS (W5.keep e78) rfl ev_c (ev_var rfl) s21 h0) ek) (ev_var rfl) (rv_ne rfl)) (no rfl))) (fun z => by cases z) fun _ H9 e9 => ⟨_, _, rfl, e78.trans e9⟩
  rintro _ σ H7 ⟨v7, v13, rfl, e7⟩
  have D7 := D5.keep e7
  clear bR1 bR bS bA hpre sum_ones rk1 rk0
  -- size
  refine st_seq (go_asg ?_)
  refine rd_draw rfl val_c (by decide) (by decide) D7 fun sz H8 s0 s1 D8 e8 => ?_
  refine ⟨2, sz, rfl, rfl, ?_⟩
  obtain ⟨size, hsize⟩ : ∃ size : Int, 2 + sz = size := ⟨_, rfl⟩
  dsimp only [gName]
  rw [hsize]
  have q0 : 0 < size := by omega
  have q1 : size ≤ 40 := by omega
  clear hsize
  -- symbols, other
  refine ⟨_, rfl, _, rfl, d, sc, size, 80, rfl, q0, by omega, by decide, by decide, D8, fun sp syms H9 hsp hss hsl D9 e9 hsym => ?_⟩
  have hsl' : syms.length ≤ 80 := by omega
  refine ⟨_, rfl, _, rfl, fun o od ho hod hneo => ?_⟩
  have em : Ex H9 (upd (upd H9 od (.own o)) o (.ins (He.ga K "Wave") od [])) := (Ex.new hod).trans (Ex.new (by rw [upd_ne (Ne.symm hneo)]; exact ho))
  refine ⟨o, od, sp, syms, size, rfl, upd_same, SqL.of (em _ _ hsym), by omega, fun hos hall3 H10 e10 W10 => ⟨rfl, ?_⟩, fun hn => absurd ⟨by omega, by omega⟩ hn, fun _ i z hi hz => absurd (hss z (List.mem_of_getElem? hi)) hz⟩
  have e910 : Ex H9 H10 := fun a o ha => e10.at (em _ _ ha) (fun z => by rw [List.mem_singleton.mp z, ho] at ha; cases ha)
  have r10 := e910 _ _ hsym
  have D10 := D9.keep e910
  have hFd : ∀ a, (upd (upd H9 od (.own o)) o (.ins (He.ga K "Wave") od [])) a = none → a ∉ [d] := fun a h1 hz => by
    obtain ⟨_, _, _, _, g, _⟩ := D9
    rw [List.mem_singleton.mp hz, em _ _ g] at h1
    cases h1
  obtain ⟨ox, osy, opd, okv, hwo, _⟩ := id W10
  have nod : o ∉ [d] := by simpa using W10.apart D10
  clear em e10 hall3 hos
  dsimp only [gName]
  -- for k in range(other.length)
  refine q_forR1 (n := (syms.length : Int)) (ea_cons (ev_fld (ev_var rfl) hwo T.cl_Wave T.na_Wave_length (fl_Wave_length ..)) ea_nil) (by omega)
    (fun i σ H' => ∃ u7 u14, σ = [some (.ref a), some (.ref d), some (.ref rp), some (.ref x), some (.ref y), some (.int last), v6, u7, some (.int size), some (.ref sp), some (.ref o), none, v12, v13, u14, none] ∧ Ex H10 H') (fun H11 e11 => ⟨_, _, rfl, e11⟩) ?_ ?_
  · rintro i σ H11 hi ⟨u7, u14, rfl, e11⟩
    have hi' : i < syms.length := by omega
    obtain ⟨s, hs⟩ : ∃ s, syms[i]? = some s := ⟨_, List.getElem?_eq_getElem hi'⟩
    have hss' := hss s (List.mem_of_getElem? hs)
    obtain ⟨p1, p2⟩ := plc_at hs
    refine q_asg (v := .int s) (ev_meth (ev_var rfl) (e11 _ _ hwo) (fn_Wave_at ..) (ea_cons (ev_var rfl) ea_nil) fun H1 e1 Q q E => ⟨o, _, syms, size, rfl, ⟨_, W10.keep (e11.trans e1)⟩, fun z _ hz => by
      have : z = s := by
        rw [Int.toNat_natCast, hs] at hz
        exact (Option.some.inj hz).symm
      rw [this]
      exact q H1 (Ex.refl _), fun h => absurd ⟨by omega, by omega⟩ h⟩) fun H12 e12 => ?_
    have W12 := W10.keep (e11.trans e12)
    refine s_when (b := false) (et_or (a := false) (et_test (ev_is (ev_op (ev_is (wS W12 rfl (ev_var rfl) (wR W12 (by omega) rfl (ev_var rfl) (ev_var rfl) hss' (by omega) (by omega)) hss' (by omega)) (w := .int (i : Int)) (by
        unfold kth
        rw [Int.toNat_natCast, Int.toNat_natCast, p1])) (ev_var rfl) (rv_ne rfl)) (no rfl))) fun _ =>
      et_test (ev_is (ev_op (wR W12 (by omega) rfl (ev_var rfl) (ev_op (ev_var rfl) ev_c (rv_I0 (g := fun i j => .int (i + j)))) hss' (by omega) (by omega)) (ev_op (wR W12 (by omega) rfl (ev_var rfl) (ev_var rfl) hss' (by omega) (by omega)) ev_c (rv_I0 (g := fun i j => .int (i + j)))) (rv_ne rfl)) (no (by rw [show ((i : Int) + 1).toNat = i + 1 from by omega, p2, Int.toNat_natCast]; omega)))) (fun z => by cases z) fun _ H13 e13 => ⟨_, _, rfl, (e11.trans e12).trans e13⟩
  rintro σ H11 ⟨u7, u14, rfl, e11⟩
  -- first
  have W11 := W10.keep e11
  have D11 := D10.keep e11
  have r11 := e11 _ _ r10
  have el : (syms.map V.int).length = syms.length := List.length_map ..
  refine st_seq (go_asg ?_)
  refine rd_draw rfl (val_I (g := fun i j => .int (i + j)) (val_lenL (val_var rfl) (SqL.of r11)) val_c) (by omega) (by omega) D11 fun u H12 u0 u1 D12 e12 => ?_
  rw [el] at u1
  have nsd : sp ∉ [d] := fun z => by
    obtain ⟨_, _, _, _, g, _⟩ := D11
    rw [List.mem_singleton.mp z, g] at r11
    cases syms <;> cases r11
  have W12 := W11.kp e12 nod hFd
  have r12 := e12.at r11 nsd
  obtain ⟨ox2, osy2, opd2, okv2, hwo2, _⟩ := id W12
  dsimp only [gName]
  refine go_ret ?_
  have hcut : ∀ z ∈ part syms u ((syms.map V.int).length : Int), sym size z := fun z hz => hss z (List.mem_of_mem_drop (List.mem_of_mem_take hz))
  refine ⟨_, rfl, o, ox2, _, rfl, hwo2, fn_Wave_present .., _, rfl, _, rfl, sp, _, rfl, .inl (SqL.of r12), o, u, _, syms, size, rfl, ⟨_, W12⟩, by omega, fun _ _ _ => ⟨few_size hcut (by omega), fun ks r H13 hk hr e13 hdp => ?_⟩, fun h => absurd ⟨u0, by omega, by omega⟩ h⟩
  have hcl : (part syms u ((syms.map V.int).length : Int)).length = syms.length - u.toNat := by
    unfold part
    rw [List.length_take, List.length_drop]
    omega
  have hcut2 := hcut
  generalize part syms u ((syms.map V.int).length : Int) = cut at hk hdp hcl hcut2
  have hsum := counts_sum cut ks (asc_nodup hk.1) (fun z hz => (hk.2 z).mpr hz)
  obtain ⟨cs, hcs⟩ : ∃ cs : List Int, ks.map (fun s => ((cut.count s : Nat) : Int)) = cs := ⟨_, rfl⟩
  rw [hcs] at hsum
  have r13 := e13 _ _ r12
  obtain ⟨xs, hS, hA⟩ : ∃ xs, SqL K H13 r xs ∧ DpAll K H13 xs (pairsD cut ks) := by
    cases hdp with
    | lst hS hA => exact ⟨_, hS, hA⟩
  have hks : ks.length < 64 := by
    have := nodup_le (m := (List.range 63).map fun (i : Nat) => (i : Int)) (asc_nodup hk.1) fun s hs' => by
      have := hcut2 s ((hk.2 s).mp hs')
      unfold sym at this
      exact List.mem_map.mpr ⟨s.toNat, List.mem_range.mpr (by omega), by omega⟩
    rw [List.length_map, List.length_range] at this
    omega
  have hcl2 : cs.length = ks.length := by rw [← hcs, List.length_map]
  refine ⟨r, rfl, ⟨_, hS⟩, fun L hL => lc_list (xs := xs) (fun n H14 => Ex H13 H14 ∧ H14 L = some (.lst ((cs.take n).map V.int))) ⟨Ex.new hL, upd_same⟩ (fun n H14 _ ⟨e14, _⟩ => ex_l e14 hS) ?_ ?_⟩
  · rintro n z H14 hn ⟨e14, hacc⟩
    obtain ⟨dt, hdt, hz⟩ := dpa_at hA hn
    unfold pairsD at hdt
    rw [List.getElem?_map] at hdt
    obtain ⟨s, hs, rfl⟩ := Option.map_eq_some_iff.mp hdt
    obtain ⟨t, rfl, ht⟩ := dp_pair hz
    have hcn : cs[n]? = some ((cut.count s : Nat) : Int) := by rw [← hcs, List.getElem?_map, hs]; rfl
    refine ⟨rfl, ⟨_, rfl, t, _, 1, _, rfl, rfl, ex_t e14 ht, rfl, _, hacc, small9 (by rw [List.length_map, List.length_take]; omega), ?_, ?_⟩⟩
    · exact fun q w h => by
        have hne : q ≠ L := fun z => by rw [z, hL] at h; cases h
        rw [upd_ne hne]
        exact e14 _ _ h
    · rw [upd_same, take_snoc hcn, List.map_append]
      rfl
  · rintro H14 ⟨e14, hacc⟩
    have hxl : xs.length = cs.length := by
      rw [hcl2]
      have := dpa_len hA
      unfold pairsD at this
      rw [List.length_map] at this
      exact this
    rw [hxl, List.take_length] at hacc
    have r14 := e14 _ _ r13
    refine ⟨L, cs, rfl, SqL.of hacc, _, rfl, sp, _, rfl, .inl (SqL.of r14), _, rfl, _, _, rfl, rfl, rfl, ?_⟩
    rw [show decide (V.int cs.sum = V.int (((syms.map V.int).length : Int) - u)) = true from decide_eq_true (by rw [hsum, hcl, el]; congr 1; omega)]
    exact k _
end

/-! ### the head and the end -/
abbrev R : PySem.W.OpenRow := PySem.W.OpenLaw.row PySem.Challenge.rw_topiary_k05_whole_ranks_and_places_agree
abbrev hk : PySem.W.Hook := hook 5 fa fn fx
def obs (s : PySem.W.SharedT) : Seen := lookAt 5 fa fn fx (HandSHeadRun.getT s)
theorem obs_eq (s : PySem.W.SharedT) : obs s = hk.obs s.abs := look_eq (HandSHeadRun.getT_eq s)
def names : List Str := ["_wall", "TopiaryError", "InvalidStretch", "InvalidRow", "InvalidPlace", "InvalidSize", "InvalidSymbol", "_running_ones", "Bits", "_places_by_symbol", "count_below", "Wave", "_law_deck", "_law_draw", "_law_bits", "_law_symbols", "LARGEST_SIZE"]
theorem run (w : World) : HandSHeadRun.RunEq R (PySem.W.view R.prog [21]) hk obs 3000 names w := by
  intro os
  kernel_rfl
theorem facts {w : World} {K : PySem.W.Frag} {h : Heap} {mg : Str → Option Value} {f : Addr} (X : K.In h) (G : h.Ns mainGlobals mg) (hfa : mg ("law" : Str) = some (.ref f)) (c : seen fa fn fx K = told fn) :
    ∃ fd : FuncData, (∀ (s : Shared) (v : Value), BindsTo s fd ⟨[v], []⟩ [("script", v)]) ∧ ∀ base : Heap, K.In base → base.Ns mainGlobals mg → FnOk (PySem.Challenge.rw_topiary_k05_whole_ranks_and_places_agree).prog w K mg base (L2.CX0) 12 f fd ["script"] (spLaw K) := by
  have T : TX K mg := txt_of X G c
  obtain ⟨fd, F⟩ := T.d 26 _ rfl
  have e := hfa.symm.trans T.g_law
  cases e
  exact ⟨fd, fun s v => FunD.bindsA (ps := ["script"]) F (fun _ _ _ _ _ _ us hl => match us, hl with | [_], _ => rfl) s [v] rfl, fun base _ _ => ok_law T fd F⟩
end Tp
open PySem PySem.W PySem.Calls PyProof.Rows
set_option maxRecDepth 100000 in
set_option maxHeartbeats 0 in
theorem PySem.Challenge.cw_topiary_k05_whole_ranks_and_places_agree_holds : PySem.Challenge.rw_topiary_k05_whole_ranks_and_places_agree.Holds := by
  w_on; o_law
  refine HandSHeadRun.head_any (r := OpenLaw.row PySem.Challenge.rw_topiary_k05_whole_ranks_and_places_agree) (q := view (OpenLaw.row PySem.Challenge.rw_topiary_k05_whole_ranks_and_places_agree).prog [21]) (H := Tp.hk) (ob := Tp.obs) (M := 3000) (loose := Tp.names) (d := HandSHeadRun.topDef (OpenLaw.row PySem.Challenge.rw_topiary_k05_whole_ranks_and_places_agree).prog 21) (kwd := []) Tp.obs_eq
    (by kernel_rfl) (fun s => by kernel_rfl) Tp.run (by kernel_rfl) (by kernel_rfl) (by kernel_rfl) (by rfl) (by first | assumption | decide +kernel) (by decide +kernel) ⟨rfl, rfl, rfl, rfl, rfl, by decide +kernel⟩ ?hw ?hc
  case hw => w_witness2
  case hc =>
    refine Tp.ends (l := PySem.Challenge.rw_topiary_k05_whole_ranks_and_places_agree) (n := 63) (k := 12) (x := "script") (CX := fun _ => L2.CX0) rfl (by decide) (by kernel_rfl) ⟨rfl, by decide, by decide⟩ ?F (fun _ _ _ _ _ z => z)
    intro w mg fa h Y G hmg0
    obtain ⟨K, KX, c⟩ := Y
    have hmg : mg ("law" : PySem.Str) = some (.ref fa) := by
      have e : (HandSHeadRun.topDef (OpenLaw.row PySem.Challenge.rw_topiary_k05_whole_ranks_and_places_agree).prog 21).name = ("law" : PySem.Str) := by kernel_rfl
      rw [← e]
      exact hmg0
    obtain ⟨fd, hb, hF⟩ := Tp.facts (w := w) KX G hmg c
    exact ⟨K, fd, Tp.spLaw K, KX, hb, fun H a ns hl hz hO hS => Tp.law_start hl hz hO hS, hF⟩
