import PyProof.Rows.All
import Wide.All
import OpenK.AllK
import Wide.FinOn
import KE.KStateDown
import HandS.ForMost
import HandS.Exc
import HandS.WordsExc
import HandS.ExcInit
import HandS.ExcField
import KE.KExcIs
import HandS.ExcIs
import HandS.Star
import HandS.DictComp
import HandS.Wide
import HandS.IsInst
import HandS.EndBits
import HandS.Evl
import HandS.Defaults
import HandS.Zip
import HandS.Steps
import HandS.Walk
import HandS.SortInts
import HandS.More
import HandS.SetKeys
import HandS.Head0
import HandS.Head1
import HandS.Head2
import HandS.HeadEnd
import HandS.HeadHook1
import HandS.HeadHook2
import HandS.Rev
import HandS.RevTup
import PyProof.ListNew
import HandS.ReplaceList
import HandS.ReplaceLit
import HandS.ReplaceDef
import HandS.FStr
import HandS.Text
import HandS.StrMore
import PySem.Challenge.RW_topiary_k18_documents_written_and_read
set_option Elab.async false
set_option linter.all false
set_option maxRecDepth 100000
set_option maxHeartbeats 4000000
/-! Words of my own over the hand layer: what the head tells (facts, defs, own exceptions), ends, heaps that change at few places. -/
namespace Tp
open PySem PySem.Spec PyProof.Rows L2

/-! ### own exceptions as the head tells them -/
def excShape (C : Addr) : Obj → Bool
  | ⟨.type t, _, .cls cd, sl⟩ => decide (t = "type") && (cd.hasDict && (!cd.hasDel && (match cd.mro, sl.toList with
    | .ref C' :: bm, [_, _, _, _, some (.builtin n), _] => decide (C' = C) && (decide (n = "ValueError.__new__") && PySem.HandSPX.refsVE bm)
    | _, _ => false)))
  | _ => false
theorem two {a b : Bool} (h : (a && b) = true) : a = true ∧ b = true := Bool.and_eq_true_iff.mp h
theorem excShape_ok {C : Addr} {o : Obj} (h : excShape C o = true) : ∃ nm q N bs bm sn sub ab col dd k0 k1 k2 k3 k5, o = excClassObj nm q C N bs bm true sn sub ab col dd k0 k1 k2 k3 k5 "ValueError.__new__" ∧ PySem.HandSPX.refsVE bm = true := by
  obtain ⟨oc, od, dt, sl⟩ := o
  cases oc with
  | type t =>
    cases dt with
    | cls cd =>
      obtain ⟨h1, h⟩ := two h
      obtain ⟨h2, h⟩ := two h
      obtain ⟨h3, h⟩ := two h
      obtain ⟨nm, bs, mro, ns, qn, hd, sn, sb, ab, col, del⟩ := cd
      obtain ⟨sl⟩ := sl
      have e1 : t = "type" := of_decide_eq_true h1
      subst e1
      cases del with
      | true => cases h3
      | false =>
        have e2 : hd = true := h2
        subst e2
        match mro, sl, h with
        | .ref C' :: bm, [k0, k1, k2, k3, some (.builtin n), k5], h =>
          obtain ⟨h4, h⟩ := two h
          obtain ⟨h5, h6⟩ := two h
          have e3 : C' = C := of_decide_eq_true h4
          have e4 : n = "ValueError.__new__" := of_decide_eq_true h5
          subst e3 e4
          exact ⟨nm, qn, ns, bs, bm, sn, sb, ab, col, od, k0, k1, k2, k3, k5, rfl, h6⟩
    | _ => cases h
  | _ => cases dt <;> cases h
/-- the class x of the module: an own exception -/
def excB (K : PySem.W.Frag) (x : Str) : Bool := (match K.lookup (He.ga K x) with
  | some o => excShape (He.ga K x) o
  | none => false) && (decide (PySem.W.findIn K (.ref (He.ga K x)) "__setattr__" = some (some (.builtin "object.__setattr__"))) && (decide (PySem.W.subIn K (.ref (He.ga K x)) (.type "BaseException") = some true) &&
  (decide (PySem.W.typeIn K (.ref (He.ga K x)) = some (.type "type")) && PySem.W.keepIn K (.ref (He.ga K x)))))
theorem excB_ok {K : PySem.W.Frag} {x : Str} (h : excB K x = true) : OexC K (He.ga K x) := by
  obtain ⟨h1, h⟩ := two h
  obtain ⟨h2, h⟩ := two h
  obtain ⟨h3, h⟩ := two h
  obtain ⟨h4, h5⟩ := two h
  refine ⟨?_, of_decide_eq_true h2, of_decide_eq_true h3, of_decide_eq_true h4, h5⟩
  cases q : K.lookup (He.ga K x) with
  | none =>
    rw [q] at h1
    cases h1
  | some o =>
    rw [q] at h1
    obtain ⟨nm, qn, N, bs, bm, sn, sub, ab, col, dd, k0, k1, k2, k3, k5, e, r⟩ := excShape_ok h1
    exact ⟨nm, qn, N, bs, bm, sn, sub, ab, col, dd, k0, k1, k2, k3, k5, by rw [e], r⟩
/-- its own __init__ -/
def iniB (K : PySem.W.Frag) (x : Str) : Bool := decide (PySem.W.findIn K (.ref (He.ga K x)) "__init__" = some (some (.ref (He.ma K (He.ga K x) "__init__")))) && decide (PySem.W.typeIn K (.ref (He.ma K (He.ga K x) "__init__")) = some (.type "function"))
theorem iniB_ok {K : PySem.W.Frag} {x : Str} (h : iniB K x = true) : PySem.W.findIn K (.ref (He.ga K x)) "__init__" = some (some (.ref (He.ma K (He.ga K x) "__init__"))) ∧ PySem.W.typeIn K (.ref (He.ma K (He.ga K x) "__init__")) = some (.type "function") := by
  obtain ⟨h1, h2⟩ := two h
  exact ⟨of_decide_eq_true h1, of_decide_eq_true h2⟩
/-- what isinstance of a caught own error asks of its class -/
def excCB (K : PySem.W.Frag) (D : Addr) : Bool := decide (PySem.W.findIn K (.ref D) "__getattribute__" = some (some (.builtin "BaseException.__getattribute__"))) && (decide (PySem.W.findIn K (.ref D) "__getattr__" = some none) && (decide (PySem.W.subIn K (.ref D) (.type "BaseException") = some true) && (PySem.W.hasDictIn K D &&
  (decide (PySem.W.findIn K (.ref D) "__class__" = some (some (.builtin "object.__class__"))) && (decide (PySem.W.specialIn K (.builtin "object.__class__") "__get__" = some (some (.builtin "getset_descriptor.__get__"))) && (decide (PySem.W.takesIn K (.builtin "object.__class__") = some true) && decide (PySem.W.mroIn K D (.type "object") = some true)))))))
theorem excCB_ok {K : PySem.W.Frag} {D : Addr} (h : excCB K D = true) : ExcC K D := by
  obtain ⟨h1, h⟩ := two h
  obtain ⟨h2, h⟩ := two h
  obtain ⟨h3, h⟩ := two h
  obtain ⟨h4, h⟩ := two h
  obtain ⟨h5, h⟩ := two h
  obtain ⟨h6, h⟩ := two h
  obtain ⟨h7, h8⟩ := two h
  exact ⟨of_decide_eq_true h1, of_decide_eq_true h2, of_decide_eq_true h3, h4, of_decide_eq_true h5, of_decide_eq_true h6, of_decide_eq_true h7, of_decide_eq_true h8⟩
/-- isinstance(e, t), e the caught error of the own class C with its dict -/
def rIsX (a : Addr) (cls : Value) (d : Option Addr) (C : Addr) (t : String) (b : Bool) : List V → Hp → VK → Prop := fun xs H Q => xs = [.ref a, .ty t] ∧ cls = .ref C ∧ (∃ (dd : Addr) (fs : List (Str × V)), d = some dd ∧ H dd = some (.xd fs)) ∧ Q (.bl b) H
theorem call_isX {X : Cx} {a C : Addr} {oe : Obj} {cls : Value} {d : Option Addr} {pn : List (Addr × Obj)} {t : String} {b : Bool} (T : ExcC X.K C) (e : PySem.W.kitOne X.K (.ref C) (.type t) = some b) (hz : Zc cls d oe) (hf : ∃ vs, oe.data = .fields vs) : CallR (X.suite a ((a, oe) :: pn)) (.builtin "isinstance") (rIsX a cls d C t b) := by
  intro pins s σ H xs us Q I r h
  obtain ⟨rfl, ec, ⟨dd, fs, ed, ea⟩, q⟩ := h
  subst ec
  subst ed
  cases r with
  | cons rx rr =>
    cases rr with
    | cons rt rr =>
      cases rr
      cases rx
      cases rt
      obtain ⟨ha, _⟩ := I.pin (a, oe) (List.mem_append_left _ List.mem_cons_self)
      obtain ⟨vs, hd⟩ := hf
      have hx : ObjOk X.prog X.w H s.heap dd (.xd fs) := I.hok dd _ ea
      obtain ⟨mA, hns, hr⟩ := hx
      obtain ⟨od, ho, hl⟩ := lookIn_ns hns
      have J : PySem.W.InstAt s.heap a oe C (some od) := ⟨ha, hz.1, by unfold PySem.W.notCls; rw [hd] <;> rfl, by rw [hz.2]; exact ho⟩
      have hcl : (PySem.W.clsIn X.K C).isSome = true := by
        obtain ⟨cd, hc, _⟩ := PySem.W.any_some T.hd
        rw [hc] <;> rfl
      exact PySem.W.kia_one (PySem.W.kitx_exc hcl T.hg T.hk T.hs T.ha T.hn T.ht T.hm) I.kIn J e (fun z => nomatch z) fun tk => ⟨.bl b, H, I.kept (t' := tk) fun _ _ z => z, rfl, q⟩
/-- a tuple of texts in the written part -/
def strV : Value → Option Str
  | .str z _ => some z
  | _ => none
def strsB (K : PySem.W.Frag) (a : Addr) (zs : List Str) : Bool := match K.lookup a with
  | some ⟨.type "tuple", _, .seq its _, _⟩ => decide (its.size ≤ 1000) && decide (its.toList.map strV = zs.map some)
  | _ => false
def refV : Value → Option Addr
  | .ref a => some a
  | _ => none
def tupsB (K : PySem.W.Frag) (a : Addr) (zs : List (List Str)) : Bool := match K.lookup a with
  | some ⟨.type "tuple", _, .seq its _, _⟩ => decide (its.size ≤ 1000) && decide (its.size = zs.length) && (its.toList.zip zs).all fun p => match refV p.1 with
    | some b => strsB K b p.2
    | none => false
  | _ => false
theorem vals_strs : ∀ {us : List Value} {zs : List Str}, us.map strV = zs.map some → Vals (zs.map V.str) us
  | [], [], _ => .nil
  | [], _ :: _, h => by cases h
  | _ :: _, [], h => by cases h
  | u :: us, z :: zs, h => by
    rw [List.map_cons, List.map_cons] at h
    obtain ⟨h1, h2⟩ := List.cons.inj h
    refine .cons ?_ (vals_strs h2)
    cases u with
    | str y t =>
      cases h1
      exact ⟨t, rfl⟩
    | _ => cases h1
theorem strsB_ok {K : PySem.W.Frag} {a : Addr} {zs : List Str} (h : strsB K a zs = true) (H : Hp) : SqT K H a (zs.map V.str) := by
  unfold strsB at h
  split at h
  · rename_i its n sl e
    have h' := Bool.and_eq_true_iff.mp h
    exact .inr ⟨_, its, n, e, rfl, rfl, Nat.le_trans (of_decide_eq_true h'.1) (by decide), vals_strs (of_decide_eq_true h'.2)⟩
  · cases h
theorem tups_refs {K : PySem.W.Frag} : ∀ {us : List Value} {zs : List (List Str)}, us.length = zs.length → ((us.zip zs).all fun p => match refV p.1 with
    | some b => strsB K b p.2
    | none => false) = true → ∃ as : List Addr, Vals (as.map V.ref) us ∧ as.length = zs.length ∧ ∀ (i : Nat) (a : Addr) (z : List Str), as[i]? = some a → zs[i]? = some z → strsB K a z = true
  | [], [], _, _ => ⟨[], .nil, rfl, fun i a z h => by cases h⟩
  | [], _ :: _, h, _ => by cases h
  | _ :: _, [], h, _ => by cases h
  | u :: us, z :: zs, hl, h => by
    rw [List.zip_cons_cons, List.all_cons] at h
    obtain ⟨h1, h2⟩ := Bool.and_eq_true_iff.mp h
    obtain ⟨as, g1, g2, g3⟩ := tups_refs (Nat.succ.inj hl) h2
    cases u with
    | ref a =>
      refine ⟨a :: as, .cons rfl g1, by rw [List.length_cons, List.length_cons, g2], fun i b y e1 e2 => ?_⟩
      cases i with
      | zero =>
        cases e1
        cases e2
        exact h1
      | succ i => exact g3 i b y e1 e2
    | _ => cases h1
/-- a tuple of tuples of texts -/
def TupsC (K : PySem.W.Frag) (a : Addr) (zs : List (List Str)) : Prop := ∃ as : List Addr, as.length = zs.length ∧ (∀ H, SqT K H a (as.map V.ref)) ∧ ∀ (i : Nat) (b : Addr) (z : List Str), as[i]? = some b → zs[i]? = some z → ∀ H, SqT K H b (z.map V.str)
theorem tupsB_ok {K : PySem.W.Frag} {a : Addr} {zs : List (List Str)} (h : tupsB K a zs = true) : TupsC K a zs := by
  unfold tupsB at h
  split at h
  · rename_i its n sl e
    obtain ⟨h', h3⟩ := Bool.and_eq_true_iff.mp h
    obtain ⟨h1, h2⟩ := Bool.and_eq_true_iff.mp h'
    obtain ⟨as, g1, g2, g3⟩ := tups_refs (us := its.toList) (by rw [Array.length_toList]; exact of_decide_eq_true h2) h3
    exact ⟨as, g2, fun H => .inr ⟨_, its, n, e, rfl, rfl, Nat.le_trans (of_decide_eq_true h1) (by decide), g1⟩, fun i b z e1 e2 H => strsB_ok (g3 i b z e1 e2) H⟩
  · cases h
/-- one more fact of the head: an exception's class; one whose fields are read; a sub-question of two classes -/
inductive Fx where
  | tups (x : Str) (zs : List (List Str))
  | exc (x : Str)
  | ini (x : Str)
  | xf (x : Str)
  | sub (x y : Str) (b : Bool)
  | isC (x : Str)
  | isx (x : Str) (t : String) (b : Bool)
def Fx.ok (K : PySem.W.Frag) : Fx → Bool
  | .tups x zs => tupsB K (He.ga K x) zs
  | .exc x => excB K x
  | .ini x => iniB K x
  | .xf x => xfB K (He.ga K x)
  | .sub x y b => decide (PySem.W.exmOne K (.ref (He.ga K x)) (.ref (He.ga K y)) = some b)
  | .isC x => PySem.W.isClsIn K (He.ga K x)
  | .isx x t b => excCB K (He.ga K x) && decide (PySem.W.kitOne K (.ref (He.ga K x)) (.type t) = some b)

/-! ### the head's Hook -/
abbrev Seen : Type := He.AlD × Bool
def seen (fa : List He.Fa) (fn : List He.DefD) (fx : List Fx) (K : PySem.W.Frag) : Seen := (He.obsD fa fn K, fx.all fun f => f.ok K)
def told (fn : List He.DefD) : Seen := (He.valD fn, true)
def lookAt (n : Nat) (fa : List He.Fa) (fn : List He.DefD) (fx : List Fx) (g : Addr → Option Obj) : Seen := seen fa fn fx (He.frG g (He.asD g n))
def hook (n : Nat) (fa : List He.Fa) (fn : List He.DefD) (fx : List Fx) : PySem.W.Hook where
  α := Seen
  obs := fun s => lookAt n fa fn fx s.heap.get?
  val := fun _ => told fn
  says := fun _ h => ∃ K : PySem.W.Frag, K.In h ∧ seen fa fn fx K = told fn
  of := fun _ _ e => ⟨_, He.frG_in, e⟩
  keeps := fun _ _ _ ⟨K, hK, c⟩ k => ⟨K, PySem.W.Frag.In.keeps hK k, c⟩
theorem look_eq {n : Nat} {fa : List He.Fa} {fn : List He.DefD} {fx : List Fx} {g : Addr → Option Obj} {s : Shared} (h : ∀ a, g a = s.heap.get? a) : lookAt n fa fn fx g = (hook n fa fn fx).obs s := by
  have e : g = s.heap.get? := funext h
  subst e
  rfl
/-- what the walk leans on, by places in the lists -/
structure Txt (fa : List He.Fa) (fn : List He.DefD) (fx : List Fx) (K : PySem.W.Frag) (mg : Str → Option Value) : Prop where
  f : ∀ (i : Nat) (f : He.Fa), fa[i]? = some f → f.ok K = true
  d : ∀ (i : Nat) (d : He.DefD), fn[i]? = some d → ∃ fd, FunD K d.name d.qual d.params d.body d.scope (d.dvs K) (d.kws K) (He.fAd K d.at_) fd
  x : ∀ (i : Nat) (f : Fx), fx[i]? = some f → f.ok K = true
  gl : ∀ (i : Nat) (x : Str), fa[i]? = some (.glo x) → mg x = some (.ref (He.ga K x))
  no : ∀ (i : Nat) (x : Str), fa[i]? = some (.free x) → mg x = none
  int : ∀ (i : Nat) (x : Str) (n : Int), fa[i]? = some (.int x n) → ∃ t, mg x = some (.int n t)
  str : ∀ (i : Nat) (x z : Str), fa[i]? = some (.str x z) → ∃ t, mg x = some (.str z t)
theorem txt_of {fa : List He.Fa} {fn : List He.DefD} {fx : List Fx} {K : PySem.W.Frag} {mg : Str → Option Value} {h : Heap} (X : K.In h) (G : h.Ns mainGlobals mg) (c : seen fa fn fx K = told fn) : Txt fa fn fx K mg := by
  have c1 : He.SaysD fa fn K := congrArg (fun z : Seen => z.1) c
  have c2 : (fx.all fun f => f.ok K) = true := congrArg (fun z : Seen => z.2) c
  exact ⟨fun i f e => c1.fact i e, fun i d e => c1.def_ i e, fun i f e => List.all_eq_true.mp c2 f (List.mem_of_getElem? e), fun i x e => He.glo_ok X G (c1.fact i e), fun i x e => He.free_ok X G (c1.fact i e),
    fun i x n e => He.int_ok X G (c1.fact i e), fun i x z e => He.str_ok X G (c1.fact i e)⟩

/-! ### defs -/
/-- a def that lets nothing out -/
theorem def0 {P : Program} {w : World} {K : PySem.W.Frag} {mg : Str → Option Value} {base : Heap} {x qual : Str} {params : Arguments} {body : List Stmt} {scope : Scope} {dvs : List V} {kws : List (Str × V)} {f : Addr} {fd : FuncData} {N ps : List Str} {k : Nat} {sp : Sp}
    (F : FunD K x qual params body scope dvs kws f fd) (S : FnScope N ps scope) (len : ∀ vs H Q E, sp vs H Q E → vs.length = ps.length)
    (hb : ∀ (cdv : Value) (A : Around) (outer : List Env) (s : Shared) (H : Hp) (vs : List V) (Q : VK) (E : XK), Room k (A.deeper (envOfC qual scope s.heap.objs.size f cdv)) → sp vs H Q E →
      ∃ t, PSs (cxOf CX0 P w K mg base N qual scope f cdv A outer s H E).nox body t ∧ t { nx := fun _ H' => Q .non H', rt := Q } (start N vs) H) : FnOk P w K mg base CX0 (k + 1) f fd ps sp :=
  F.ok S len fun cdv A outer s H vs Q E hr h => by
    obtain ⟨t, ht, q⟩ := hb cdv A outer s H vs Q E hr h
    exact ⟨t, PSs.nox ht, q⟩
/-- a def that may let out errors -/
theorem defX {P : Program} {w : World} {K : PySem.W.Frag} {mg : Str → Option Value} {base : Heap} {x qual : Str} {params : Arguments} {body : List Stmt} {scope : Scope} {dvs : List V} {kws : List (Str × V)} {f : Addr} {fd : FuncData} {N ps : List Str} {k : Nat} {sp : Sp}
    (F : FunD K x qual params body scope dvs kws f fd) (S : FnScope N ps scope) (len : ∀ vs H Q E, sp vs H Q E → vs.length = ps.length)
    (hb : ∀ (cdv : Value) (A : Around) (outer : List Env) (s : Shared) (H : Hp) (vs : List V) (Q : VK) (E : XK), Room k (A.deeper (envOfC qual scope s.heap.objs.size f cdv)) → sp vs H Q E →
      ∃ t, PSs (cxOf (L2.CX P w) P w K mg base N qual scope f cdv A outer s H E) body t ∧ t { nx := fun _ H' => Q .non H', rt := Q } (start N vs) H) : FnOk P w K mg base (L2.CX P w) (k + 1) f fd ps sp :=
  F.ok S len hb
/-- a def as callers want it: dvs the defaults that fill up -/
def Can (P : Program) (w : World) (K : PySem.W.Frag) (mg : Str → Option Value) (base : Heap) (CX : CXT) (k : Nat) (f : Addr) (ps : List Str) (dvs : List V) (sp : Sp) : Prop := ∃ fd, FnOk P w K mg base CX k f fd ps sp ∧ ∃ ds, Vals dvs ds ∧ Binds K fd ps ds

/-! ### the law's end -/
theorem ends {l : PySem.W.OpenLaw} {n k : Nat} {q : Program} {loose : List Str} {XP : (Str → Option Value) → Heap → Prop} {YP : World → Heap → Prop} {d : DefRec} {CX : World → CXT} {x : Str}
    (hn : l.most = some n) (hn2 : n ≤ sizeLine) (hdf : d.params.defaults = []) (hr : Room k callerA)
    (F : ∀ (w : World) (mg : Str → Option Value) (fa : Addr) (h : Heap), YP w h → h.Ns mainGlobals mg → mg d.name = some (.ref fa) →
      ∃ (K : PySem.W.Frag) (fd : FuncData) (sp : Sp), K.In h ∧ (∀ (s : Shared) (u : Value), BindsTo s fd ⟨[u], []⟩ [(x, u)]) ∧
        (∀ (H : Hp) (a : Addr) (ns : List Int), ns.length ≤ n → (∀ z ∈ ns, Builtin.Int.intBits z ≤ 1048576) → Only H → SqL K H a (ns.map V.int) → sp [.ref a] H (fun v _ => v = .bl true) fun _ _ _ => False) ∧
        ∀ base : Heap, K.In base → base.Ns mainGlobals mg → FnOk l.prog w K mg base (CX w) k fa fd [x] sp)
    (hCX : ∀ (w : World) (H : Hp) (s : Shared) (e : Value) (s' : Shared), CX w [] H s (fun _ _ _ => False) e s' → False) :
    PySem.W.WalkO q loose XP YP l.row.toRowW d [] (fun f vs => PySem.call f vs) := by
  refine Att.attach_callB hn hdf fun w s₀ s₁ mg mb fa o pm cd doc a vs ns G Y ho hd hcd hmg hobj hints hlen hbits hg => ?_
  obtain ⟨K, fd, sp, KX, hb, hsp, hF⟩ := F w mg fa _ Y G.T.g hmg
  exact law_call KX G.T.g G.T.b G.T.builtins G.T.nolimit hg hobj hints (Nat.le_trans hlen hn2) hr hF hb (fun H hO hS => hsp H a ns hlen hbits hO hS) fun H e s' => hCX w H s₁ e s'
theorem no_leak {P : Program} {w : World} {H : Hp} {s : Shared} {e : Value} {s' : Shared} (h : L2.CX P w [] H s (fun _ _ _ => False) e s') : False := by
  obtain ⟨_, _, _, _, _, _, _, _, _, _, _, _, z⟩ := h
  exact z.elim

/-! ### heaps: all but some places stay -/
/-- what H tracks but at the places of S stays -/
def Kp (S : List Addr) (H H' : Hp) : Prop := ∀ a o, a ∉ S → H a = some o → H' a = some o
theorem Kp.refl {S : List Addr} {H : Hp} : Kp S H H := fun _ _ _ e => e
theorem Kp.trans {S : List Addr} {H H1 H2 : Hp} (a : Kp S H H1) (b : Kp S H1 H2) : Kp S H H2 := fun x o n e => b x o n (a x o n e)
theorem Kp.new {S : List Addr} {H : Hp} {p : Addr} {o : HO} (h : H p = none) : Kp S H (upd H p o) := fun a u _ e => by
  rw [upd_ne (ne_of_none e h)]
  exact e
theorem Kp.put {S : List Addr} {H : Hp} {p : Addr} {o : HO} (h : p ∈ S) : Kp S H (upd H p o) := fun a u n e => by
  rw [upd_ne (fun z => n (by rw [z]; exact h))]
  exact e
/-- an object that H does not know may change -/
theorem Kp.mut {S : List Addr} {H H' : Hp} {p : Addr} {o : HO} (e : Kp S H H') (h : H p = none) : Kp S H (upd H' p o) := fun a u n ha => by
  rw [upd_ne (ne_of_none ha h)]
  exact e a u n ha
theorem Kp.mono {S S' : List Addr} {H H' : Hp} (e : Kp S H H') (h : ∀ a ∈ S, a ∈ S') : Kp S' H H' := fun a o n ha => e a o (fun z => n (h a z)) ha
theorem Kp.ex {H H' : Hp} (e : Kp [] H H') : Evl.Ex H H' := fun a o h => e a o (by simp) h
theorem Kp.of {S : List Addr} {H H' : Hp} (e : Evl.Ex H H') : Kp S H H' := fun a o _ h => e a o h
theorem Kp.of' {S : List Addr} {H H' : Hp} (e : Same H H') : Kp S H H' := fun a o _ h => e a o h
theorem Kp.fresh {H H' : Hp} {p : Addr} (e : Kp [] H H') (h : H' p = none) : H p = none := Evl.fresh_back e.ex h
/-- fresh behind, fresh ahead, where the places of S are known -/
theorem Kp.back {S : List Addr} {H H' : Hp} {p : Addr} (e : Kp S H H') (hs : ∀ a ∈ S, H' a ≠ none) (h : H' p = none) : H p = none := by
  cases q : H p with
  | none => rfl
  | some o =>
    by_cases hp : p ∈ S
    · exact absurd h (hs p hp)
    · rw [e p o hp q] at h
      cases h
theorem Kp.up {H : Hp} {p : Addr} {o : HO} : Kp [p] H (upd H p o) := fun a u n e => by
  rw [upd_ne (fun z => n (by rw [z]; exact List.mem_singleton.mpr rfl))]
  exact e
theorem Kp.at {S : List Addr} {H H' : Hp} {a : Addr} {o : HO} (e : Kp S H H') (ha : H a = some o) (n : a ∉ S := by simp) : H' a = some o := e a o n ha

theorem Kp.sqL {K : PySem.W.Frag} {H H' : Hp} {p l C dx : Addr} {fs : List (Str × V)} {xs : List V} (e : Kp [p] H H') (hp : H p = some (.ins C dx fs)) (h : SqL K H l xs) : SqL K H' l xs := by
  rcases h with (h | ⟨o, h⟩) | h
  · exact .inl (.inl (e.at h fun z => by rw [List.mem_singleton.mp z, hp] at h; cases h))
  · exact .inl (.inr ⟨o, e.at h fun z => by rw [List.mem_singleton.mp z, hp] at h; cases h⟩)
  · exact .inr h

/-! ### own exceptions made -/
theorem exo_end {H : Hp} {a d : Addr} {o1 o2 o3 u : HO} (hn : H a = none) (hd : d ≠ a) : upd (L2.del (upd (upd (upd H a o1) d o2) a o3) a) d u = upd H d u := by
  funext b
  by_cases h1 : b = d
  · subst h1
    rw [upd_same, upd_same]
  · rw [upd_ne h1, upd_ne h1]
    by_cases h2 : b = a
    · subst h2
      rw [del_same, hn]
    · rw [del_ne h2, upd_ne h2, upd_ne h1, upd_ne h2]
theorem exo_end2 {H : Hp} {a d : Addr} {o1 o2 o3 o4 u : HO} (hn : H a = none) (hd : d ≠ a) : upd (L2.del (upd (upd (upd (upd H a o1) d o2) a o3) d o4) a) d u = upd H d u := by
  funext b
  by_cases h1 : b = d
  · subst h1
    rw [upd_same, upd_same]
  · rw [upd_ne h1, upd_ne h1]
    by_cases h2 : b = a
    · subst h2
      rw [del_same, hn]
    · rw [del_ne h2, upd_ne h1, upd_ne h2, upd_ne h1, upd_ne h2]
/-- the __init__ of an own exception with one field -/
def spX1 (K : PySem.W.Frag) (C : Addr) (f : Str) : Sp := fun vs H Q _ => ∃ (a : Addr) (y : V), vs = [.ref a, y] ∧ OexC K C ∧ PySem.W.findIn K (.ref C) f = some none ∧ H a = some (exo a C none) ∧
  ∀ dx, H dx = none → dx ≠ a → Q .non (upd (upd H dx (exd dx [(f, y)])) a (exo a C (some dx)))
/-- .. with two fields -/
def spX2 (K : PySem.W.Frag) (C : Addr) (f g : Str) : Sp := fun vs H Q _ => ∃ (a : Addr) (y z : V), vs = [.ref a, y, z] ∧ OexC K C ∧ PySem.W.findIn K (.ref C) f = some none ∧ PySem.W.findIn K (.ref C) g = some none ∧ H a = some (exo a C none) ∧
  ∀ dx, H dx = none → dx ≠ a → Q .non (upd (upd (upd H dx (exd dx [(f, y)])) a (exo a C (some dx))) dx (exd dx [(g, z), (f, y)]))
/-- C(e) is made, to be raised -/
theorem made1 {K : PySem.W.Frag} {C : Addr} {f : Str} {y : V} {H : Hp} {Q : XK} (T : OexC K C) (hno : PySem.W.findIn K (.ref C) f = some none) (h : ∀ d, H d = none → Q (.ref C) (some d) (upd H d (.xd [(f, y)]))) :
    [y].length ≤ 1000 ∧ ∀ a, H a = none → spX1 K C f (.ref a :: ([y] ++ [])) (upd H a (exo a C none)) (fun v H2 => v = .non ∧ ∃ (d : Addr) (fs : List (Str × V)), H2 a = some (exo a C (some d)) ∧ H2 d = some (exd d fs) ∧ H d = none ∧ Q (.ref C) (some d) (upd (L2.del H2 a) d (.xd fs))) (fun _ _ _ => False) := by
  refine ⟨by show 1 ≤ 1000; decide, fun a hn => ⟨a, y, rfl, T, hno, upd_same, fun dx hd ne => ⟨rfl, dx, _, upd_same, by rw [upd_ne ne, upd_same], ?_, ?_⟩⟩⟩
  · rw [upd_ne ne] at hd
    exact hd
  · rw [exo_end hn ne]
    rw [upd_ne ne] at hd
    exact h dx hd
theorem made2 {K : PySem.W.Frag} {C : Addr} {f g : Str} {y z : V} {H : Hp} {Q : XK} (T : OexC K C) (hf : PySem.W.findIn K (.ref C) f = some none) (hg : PySem.W.findIn K (.ref C) g = some none) (h : ∀ d, H d = none → Q (.ref C) (some d) (upd H d (.xd [(g, z), (f, y)]))) :
    [y, z].length ≤ 1000 ∧ ∀ a, H a = none → spX2 K C f g (.ref a :: ([y, z] ++ [])) (upd H a (exo a C none)) (fun v H2 => v = .non ∧ ∃ (d : Addr) (fs : List (Str × V)), H2 a = some (exo a C (some d)) ∧ H2 d = some (exd d fs) ∧ H d = none ∧ Q (.ref C) (some d) (upd (L2.del H2 a) d (.xd fs))) (fun _ _ _ => False) := by
  refine ⟨by show 2 ≤ 1000; decide, fun a hn => ⟨a, y, z, rfl, T, hf, hg, upd_same, fun dx hd ne => ⟨rfl, dx, _, by rw [upd_ne (Ne.symm ne), upd_same], upd_same, ?_, ?_⟩⟩⟩
  · rw [upd_ne ne] at hd
    exact hd
  · rw [exo_end2 hn ne]
    rw [upd_ne ne] at hd
    exact h dx hd

/-! ### fields -/
theorem putF_app : ∀ {fs : List (Str × V)} {f : Str} {v : V} {ks : List Str}, fs.map (·.1) = ks → ks.all (fun k => !decide (k = f)) = true → putF f v fs = fs ++ [(f, v)]
  | [], f, v, ks, _, _ => rfl
  | (g, x) :: r, f, v, ks, e, h => by
    subst e
    rw [List.map_cons, List.all_cons] at h
    obtain ⟨h1, h2⟩ := Bool.and_eq_true_iff.mp h
    have ne : ¬ g = f := fun z => by
      have h3 : (!decide (g = f)) = true := h1
      rw [decide_eq_true z] at h3
      cases h3
    show (if g = f then (g, v) :: r else (g, x) :: putF f v r) = (g, x) :: (r ++ [(f, v)])
    rw [if_neg ne, putF_app rfl h2]
theorem fld_at : ∀ {fs : List (Str × V)} {f : Str} {v : V} {ks : List Str} (i : Nat), fs.map (·.1) = ks → fs[i]? = some (f, v) → (ks.take i).all (fun k => !decide (k = f)) = true → fs.lookup f = some v
  | [], f, v, ks, i, _, e, _ => by cases i <;> cases e
  | (g, x) :: r, f, v, ks, 0, _, e, _ => by
    have e1 : (g, x) = (f, v) := Option.some.inj e
    cases e1
    show (match g == g with | true => some x | false => r.lookup g) = some x
    rw [beq_self_eq_true]
  | (g, x) :: r, f, v, ks, i + 1, hk, e, h => by
    subst hk
    rw [List.map_cons, List.take_succ_cons, List.all_cons] at h
    obtain ⟨h1, h2⟩ := Bool.and_eq_true_iff.mp h
    have ne : ¬ f = g := fun z => by
      have h3 : (!decide (g = f)) = true := h1
      rw [decide_eq_true z.symm] at h3
      cases h3
    show (match f == g with | true => some x | false => r.lookup f) = some v
    rw [beq_eq_false_iff_ne.mpr ne]
    exact fld_at i rfl e h2
theorem fld_no : ∀ {fs : List (Str × V)} {f : Str} {ks : List Str}, fs.map (·.1) = ks → ks.all (fun k => !decide (k = f)) = true → fs.lookup f = none
  | [], f, ks, _, _ => rfl
  | (g, x) :: r, f, ks, e, h => by
    subst e
    rw [List.map_cons, List.all_cons] at h
    obtain ⟨h1, h2⟩ := Bool.and_eq_true_iff.mp h
    have ne : ¬ f = g := fun z => by
      have h3 : (!decide (g = f)) = true := h1
      rw [decide_eq_true z.symm] at h3
      cases h3
    show (match f == g with | true => some x | false => r.lookup f) = none
    rw [beq_eq_false_iff_ne.mpr ne]
    exact fld_no rfl h2

/-! ### the rules by the written part's own name -/
def rLn (K : PySem.W.Frag) : List V → Hp → VK → Prop := fun xs H Q => ∃ p ys, xs = [.ref p] ∧ (SqL K H p ys ∨ SqT K H p ys) ∧ Q (.int ys.length) H
def rLs (K : PySem.W.Frag) : List V → Hp → VK → Prop := fun xs H Q => ∃ p ys, xs = [.ref p] ∧ (SqL K H p ys ∨ SqT K H p ys) ∧ ∀ l, H l = none → Q (.ref l) (upd H l (.lst ys))
def tTr (K : PySem.W.Frag) (ta : TE) : TT := fun σ H Q => ta σ H fun x H' => ∃ k, TruV K x H' k ∧ Q k H'
section
variable {X : Cx} (K : PySem.W.Frag)
theorem ixL (h : X.K = K) : IxR X (rIxL K) := h ▸ ix_list
theorem ixT (h : X.K = K) : IxR X (rIxT K) := h ▸ ix_tup
theorem ixS (h : X.K = K) : IxR X (rIx K) := h ▸ ix_seq
theorem slL (h : X.K = K) : SlR X (rSlL K) := h ▸ sl_list
theorem slT (h : X.K = K) : SlR X (rSlT K) := h ▸ sl_tup
theorem cLen (h : X.K = K) : CallR X (.builtin "len") (rLn K) := h ▸ call_len_seq
theorem cList (h : X.K = K) : CallR X (.type "list") (rLs K) := h ▸ call_list_of
theorem cSum (h : X.K = K) (hc : X.calm = true) : CallR X (.builtin "sum") (rSum K) := h ▸ cr_sum hc
theorem cMax (h : X.K = K) (hc : X.calm = true) : CallR X (.builtin "max") (rMax K) := h ▸ cr_max hc
theorem cMin (h : X.K = K) (hc : X.calm = true) : CallR X (.builtin "min") (rMin K) := h ▸ cr_min hc
theorem cAny (h : X.K = K) (hc : X.calm = true) : CallR X (.builtin "any") (rAny K) := h ▸ cr_any hc
theorem cAll (h : X.K = K) (hc : X.calm = true) : CallR X (.builtin "all") (rAll K) := h ▸ cr_all hc
theorem cIsi (h : X.K = K) : CallR X (.builtin "isinstance") (rIsi K) := h ▸ call_isi
theorem cSorted (h : X.K = K) : CallR X (.builtin "sorted") (rSortedI K) := h ▸ cr_sortedI
theorem oIn (h : X.K = K) : OpR X (compareOp .In) (rIn K false) := h ▸ op_in_seq
theorem oNotIn (h : X.K = K) : OpR X (compareOp .NotIn) (rIn K true) := h ▸ op_notIn_seq
theorem oEqD (h : X.K = K) (hu : X.A.units + 64 < cLine) : OpR X (compareOp .Eq) (rEqD K) := h ▸ op_eqD hu
theorem oNeD (h : X.K = K) (hu : X.A.units + 64 < cLine) : OpR X (compareOp .NotEq) (rNeD K) := h ▸ op_neD hu
theorem eFld (h : X.K = K) {e : Expr} {f : Str} {pos : Pos} {ta : TE} (he : PE X e ta) (hb : attributeBase e f X.env (eval e X.env) = eval e X.env := by rfl) : PE X (.Attribute e f pos) (tFld K ta f) := h ▸ pe_fld he hb
theorem tTruth (h : X.K = K) {a : Expr} {ta : TE} (ha : PE X a ta) (he : ∀ whole, isTrue a X.env whole = (do let v ← whole; standAt a.pos; holding [v] (truthy v)) := by intro _; rfl) : PT X a (tTr K ta) := h ▸ pt_truth ha he
theorem iLst (h : X.K = K) {tg l : Expr} {tl : TE} (hl : PE X l tl) : PI X tg l (iList K tl) := h ▸ pi_list hl
theorem iTpl (h : X.K = K) {tg l : Expr} {tl : TE} (hl : PE X l tl) : PI X tg l (iTup K tl) := h ▸ pi_tup hl
theorem iEnu (h : X.K = K) {e : Expr} {ta : TA} {p pos tpos : Pos} {elts : List Expr} {kk : Nat} (hg : Gl X "enumerate") (hm : X.mg "enumerate" = none) (ha : PA X [e] ta) (hs : starEach [e] X.env = [(false, eval e X.env)] := by rfl) :
    PI X (.Tuple elts kk tpos) (.Call (.Name "enumerate" p) [e] [] pos) (iEnum K ta) := h ▸ pi_enum hg hm ha hs
theorem iRvs (h : X.K = K) {tg e : Expr} {ta : TA} {p pos : Pos} (hg : Gl X "reversed") (hm : X.mg "reversed" = none) (ha : PA X [e] ta) (hs : starEach [e] X.env = [(false, eval e X.env)] := by rfl) :
    PI X tg (.Call (.Name "reversed" p) [e] [] pos) (iRev K ta) := h ▸ pi_reversed hg hm ha hs
theorem iZp (h : X.K = K) {e e2 : Expr} {ta : TA} {p pos tpos : Pos} {elts : List Expr} {kk : Nat} (hg : Gl X "zip") (hm : X.mg "zip" = none) (ha : PA X [e, e2] ta)
    (hs : starEach [e, e2] X.env = (false, eval e X.env) :: starEach [e2] X.env := by rfl) (hpl : (backTo pos (starEach [e2] X.env)).any (·.1) = false := by rfl) : PI X (.Tuple elts kk tpos) (.Call (.Name "zip" p) [e, e2] [] pos) (iZip K ta) := h ▸ pi_zip hg hm ha hs hpl
theorem sFd (h : X.K = K) {o value : Expr} {f : Str} {pos pos' : Pos} {ta tv : TE} (ha : PE X o ta) (hv : PE X value tv) (hs : swapsWith value (some (.Attribute o f pos')) pos.line X.env = pure false) : PS X (.Assign [.Attribute o f pos'] value pos) (sFld K ta tv f) := h ▸ ps_fld ha hv hs
theorem sFdAug (h : X.K = K) {o value : Expr} {f : Str} {pos tpos : Pos} {ta tv : TE} {op : Operator} {rd : V → V → Hp → VK → Prop} (hop : InOp X op rd) (ha : PE X o ta) (hv : PE X value tv) : PS X (.AugAssign (.Attribute o f tpos) op value pos) (sFldAug K ta tv rd f) := h ▸ ps_fldaug ha hv hop
theorem eBm (h : X.K = K) {T id : String} {name : Str} {o e : Expr} {es : List Expr} {to : TE} {t : TA} {r : V → List V → Hp → VK → Prop} {apos cpos : Pos} (pa : PlainAttrs T) (slot : Slot T name id) (hty : typeOf (.builtin id) = pure (.type "method_descriptor")) (hm : MtR X id r) (ho : PE X o to) (ha : PA X (e :: es) t)
    (hbase : attributeBase o name X.env (eval o X.env) = eval o X.env := by rfl)
    (hfew : ((backTo cpos (starEach (e :: es) X.env)).all (fun x => !x.1) && (backToKw cpos (keywordEach [] X.env)).all (fun x => x.1.isSome) && decide ((e :: es).length + ([] : List Keyword).length + (if ([] : List Keyword).isEmpty then 0 else 1) < 30)) = true := by rfl)
    (hline : (apos.endLine == cpos.line) = true := by rfl) (hs : starEach (e :: es) X.env = (false, eval e X.env) :: starEach es X.env := by rfl) (hplain : (backTo cpos (starEach es X.env)).any (·.1) = false := by rfl) :
    PE X (.Call (.Attribute o name apos) (e :: es) [] cpos) (tBM K T r to t) := h ▸ pe_bm pa slot hty hm ho ha hbase hfew hline hs hplain
theorem eBm0 (h : X.K = K) {T id : String} {name : Str} {o : Expr} {to : TE} {r : V → List V → Hp → VK → Prop} {apos cpos : Pos} (pa : PlainAttrs T) (slot : Slot T name id) (hty : typeOf (.builtin id) = pure (.type "method_descriptor")) (hm : MtR X id r) (ho : PE X o to)
    (hbase : attributeBase o name X.env (eval o X.env) = eval o X.env := by rfl) (hline : (apos.endLine == cpos.line) = true := by rfl) : PE X (.Call (.Attribute o name apos) [] [] cpos) (tBM0 K T r to) := h ▸ pe_bm0 pa slot hty hm ho hbase hline
end

/-! ### readings that leave the heap as it is -/
def ValA (ta : TA) (σ : L2.St) (H : Hp) (vs : List V) : Prop := ∀ Q : List V → Hp → Prop, Q vs H → ta σ H Q
section
variable {K : PySem.W.Frag} {σ : L2.St} {H : Hp} {ta tb te : TE} {x y v : V} {p : Addr} {xs : List V}
theorem va_nil : ValA tNil σ H [] := fun _ q => q
theorem va_cons {tr : TA} {vs : List V} (h : Val ta σ H x) (hr : ValA tr σ H vs) : ValA (tCons ta tr) σ H (x :: vs) := fun _ q => h _ (hr _ q)
theorem va_one (h : Val ta σ H x) : ValA (tCons ta tNil) σ H [x] := va_cons h va_nil
theorem va_two (h : Val ta σ H x) (h' : Val tb σ H y) : ValA (tCons ta (tCons tb tNil)) σ H [x, y] := va_cons h (va_one h')
theorem val_cb {r : List V → Hp → VK → Prop} {tl : TA} {vs : List V} (h : ValA tl σ H vs) (hr : ∀ Q : VK, Q v H → r vs H Q) : Val (tCB r tl) σ H v := fun Q q => h _ (hr Q q)
theorem val_isi {t n : String} {b : Bool} (h : Val ta σ H x) (ty : TyX K H x (.type t)) (e : kitB t n = some b) : Val (tCB (rIsi K) (tCons ta (tCons (tC (.ty n)) tNil))) σ H (.bl b) :=
  val_cb (va_two h val_c) fun _ q => ⟨x, .ty n, .type t, .type n, b, rfl, .ty n, ty, kit_ty e, q⟩
theorem val_lenL (h : Val ta σ H (.ref p)) (hs : SqL K H p xs) : Val (tCB (rLn K) (tCons ta tNil)) σ H (.int (xs.length : Int)) :=
  val_cb (va_one h) fun _ q => ⟨p, xs, rfl, .inl hs, q⟩
theorem val_lenT (h : Val ta σ H (.ref p)) (hs : SqT K H p xs) : Val (tCB (rLn K) (tCons ta tNil)) σ H (.int (xs.length : Int)) :=
  val_cb (va_one h) fun _ q => ⟨p, xs, rfl, .inr hs, q⟩
theorem val_ixL {i : Int} (h : Val ta σ H (.ref p)) (hi : Val tb σ H (.int i)) (hs : SqL K H p xs) (e : atI xs i = some v) : Val (tOp (rIxL K) ta tb) σ H v := val_op h hi fun _ q => ⟨p, xs, i, v, rfl, rfl, hs, e, q⟩
theorem val_ixT {i : Int} (h : Val ta σ H (.ref p)) (hi : Val tb σ H (.int i)) (hs : SqT K H p xs) (e : atI xs i = some v) : Val (tOp (rIxT K) ta tb) σ H v := val_op h hi fun _ q => ⟨p, xs, i, v, rfl, rfl, hs, e, q⟩
theorem val_ixSL {i : Int} (h : Val ta σ H (.ref p)) (hi : Val tb σ H (.int i)) (hs : SqL K H p xs) (e : atI xs i = some v) : Val (tOp (rIx K) ta tb) σ H v := val_op h hi fun _ q => .inl ⟨p, xs, i, v, rfl, rfl, hs, e, q⟩
theorem val_ixST {i : Int} (h : Val ta σ H (.ref p)) (hi : Val tb σ H (.int i)) (hs : SqT K H p xs) (e : atI xs i = some v) : Val (tOp (rIx K) ta tb) σ H v := val_op h hi fun _ q => .inr (.inl ⟨p, xs, i, v, rfl, rfl, hs, e, q⟩)
theorem val_I {g : Int → Int → V} {i j : Int} (h : Val ta σ H (.int i)) (h' : Val tb σ H (.int j)) : Val (tOp (rI0 g) ta tb) σ H (g i j) := val_op h h' fun _ q => ⟨i, j, rfl, rfl, q⟩
theorem val_IC {C : Int → Int → Prop} {g : Int → Int → V} {i j : Int} (h : Val ta σ H (.int i)) (h' : Val tb σ H (.int j)) (c : C i j) : Val (tOp (rI C g) ta tb) σ H (g i j) := val_op h h' fun _ q => ⟨i, j, rfl, rfl, c, q⟩
theorem val_eq (h : Val ta σ H x) (h' : Val tb σ H y) (s : scal x y = true) : Val (tOp rEq ta tb) σ H (.bl (decide (x = y))) := val_op h h' fun _ q => ⟨s, q⟩
theorem val_ne (h : Val ta σ H x) (h' : Val tb σ H y) (s : scal x y = true) : Val (tOp rNe ta tb) σ H (.bl (!decide (x = y))) := val_op h h' fun _ q => ⟨s, q⟩
theorem val_is {w : V} (h : Val ta σ H v) (e : v = w) : Val ta σ H w := e ▸ h
theorem val_and {a b : Bool} (h : Val ta σ H (.bl a)) (h' : a = true → Val tb σ H (.bl b)) : Val (tAndV ta tb) σ H (.bl (a && b)) := fun Q q => h _ ⟨a, rfl, by
  cases a with
  | true => exact iteT (h' rfl Q q)
  | false => exact iteF q⟩
theorem val_or {a b : Bool} (h : Val ta σ H (.bl a)) (h' : a = false → Val tb σ H (.bl b)) : Val (tOrV ta tb) σ H (.bl (a || b)) := fun Q q => h _ ⟨a, rfl, by
  cases a with
  | true => exact iteT q
  | false => exact iteF (h' rfl Q q)⟩
theorem val_not {a : Bool} (h : Val ta σ H (.bl a)) : Val (tNotV ta) σ H (.bl (!a)) := fun Q q => h _ ⟨a, rfl, q⟩
theorem val_if {t : TT} {b : Bool} (h : Ans t σ H b) (h1 : b = true → Val ta σ H v) (h2 : b = false → Val tb σ H v) : Val (tIf t ta tb) σ H v := fun Q q => h _ (by
  cases b with
  | true => exact iteT (h1 rfl Q q)
  | false => exact iteF (h2 rfl Q q))
theorem val_isN (h : Val ta σ H x) : Val (tOp rIsN ta (tC .non)) σ H (.bl (decide (x = .non))) := val_op h val_c fun _ q => ⟨rfl, q⟩
theorem ans_is {t : TT} {a b : Bool} (h : Ans t σ H a) (e : a = b) : Ans t σ H b := e ▸ h
theorem ans_v {b : Bool} (h : Val te σ H (.bl b)) : Ans (tTest te) σ H b := fun _ q => h _ ⟨b, rfl, q⟩
theorem ans_or2 {t u : TT} {a b : Bool} (h : Ans t σ H a) (h' : a = false → Ans u σ H b) : Ans (tOr t u) σ H (a || b) := by
  cases a with
  | true => exact ans_or1 h
  | false => exact ans_or h (h' rfl)
theorem ans_and3 {t u : TT} {a b : Bool} (h : Ans t σ H a) (h' : a = true → Ans u σ H b) : Ans (tAnd t u) σ H (a && b) := by
  cases a with
  | true => exact ans_and h (h' rfl)
  | false => exact ans_and0 h
/-- a call whose promise leaves the heap -/
theorem val_call {sp : Sp} {dvs vs : List V} {E : XK} {tl : TA} (h : ValA tl σ H vs) (hs : ∀ Q : VK, Q v H → sp (vs ++ dvs) H Q E) : Val (tCall sp dvs E tl) σ H v := fun Q q => h _ (hs Q q)
theorem val_ev (h : Val te σ H v) : ∀ Q : VK, Q v H → te σ H Q := h
/-- x in a written pair of ints -/
theorem val_chain {tc : TE} {g g' : Int → Int → Bool} {a b c : Int} (h1 : Val ta σ H (.int a)) (h2 : Val tb σ H (.int b)) (h3 : Val tc σ H (.int c)) : Val (tChain (rI0 fun i j => .bl (g i j)) (rI0 fun i j => .bl (g' i j)) ta tb tc) σ H (.bl (g a b && g' b c)) := fun Q q => by
  refine h1 _ (h2 _ ⟨a, b, rfl, rfl, g a b, rfl, ?_⟩)
  cases e : g a b with
  | true => exact iteT (h3 _ ⟨b, c, rfl, rfl, by rw [e] at q; exact q⟩)
  | false => exact iteF (by rw [e] at q; exact q)
theorem go_asg {D : Ends} {g : TG} (h : te σ H fun x H1 => g x σ H1 D.nx) : tAsg te g D σ H := h
theorem go_ret {D : Ends} (h : te σ H D.rt) : tRet te D σ H := h
theorem go_drop {D : Ends} (h : te σ H fun _ H1 => D.nx σ H1) : tDrop te D σ H := h
/-- raise C(e), C of one field -/
theorem st_raise1 {W : WX} {C : Addr} {f : Str} {y : V} (T : OexC K C) (hno : PySem.W.findIn K (.ref C) f = some none) (h : Val te σ H y) (q : ∀ d, H d = none → W (.ref C) (some d) σ (upd H d (.xd [(f, y)]))) :
    tMkO C (spX1 K C f) [] (tCons te tNil) σ H (fun cls d H' => W cls d σ H') := h _ (made1 (Q := fun cls d H' => W cls d σ H') T hno q)
theorem st_raise2 {W : WX} {C : Addr} {f g : Str} {y z : V} (T : OexC K C) (hf : PySem.W.findIn K (.ref C) f = some none) (hg : PySem.W.findIn K (.ref C) g = some none) (h : Val ta σ H y) (h' : Val tb σ H z) (q : ∀ d, H d = none → W (.ref C) (some d) σ (upd H d (.xd [(g, z), (f, y)]))) :
    tMkO C (spX2 K C f g) [] (tCons ta (tCons tb tNil)) σ H (fun cls d H' => W cls d σ H') := h _ (h' _ (made2 (Q := fun cls d H' => W cls d σ H') T hf hg q))
theorem val_un {r : V → Hp → VK → Prop} {z : V} (h : Val ta σ H x) (hr : ∀ Q : VK, Q z H → r x H Q) : Val (tUn r ta) σ H z := fun Q q => h _ (hr Q q)
theorem val_neg {i : Int} (h : Val ta σ H (.int i)) : Val (tUn (rU fun i => .int (-i)) ta) σ H (.int (-i)) := val_un h fun _ q => ⟨i, rfl, q⟩
theorem st_app {D : Ends} {l : Addr} (hl : H l = some (.lst xs)) (ha : Val ta σ H (.ref l)) (h : Val te σ H v) (hz : xs.length < sizeLine) (k : D.nx σ (upd H l (.lst (xs ++ [v])))) : tDrop (tBM K "list" rAppend ta (tCons te tNil)) D σ H :=
  ha _ ⟨Or.inl ⟨rfl, xs, Evl.sq_of hl⟩, h _ ⟨l, xs, v, rfl, rfl, hl, hz, k⟩⟩
theorem st_if {c : TT} {t u : TS} {D : Ends} {b : Bool} (h : Ans c σ H b) (h1 : b = true → t D σ H) (h2 : b = false → u D σ H) : tIfS c t u D σ H := by
  cases b with
  | true => exact st_yes h (h1 rfl)
  | false => exact st_no h (h2 rfl)
theorem st_forR {D : Ends} {tl : TA} {t : TS} {j n : Nat} (h : ValA tl σ H [.int (n : Int)]) (hn : n < 2 ^ 62) (Pv : Nat → L2.St → Hp → Prop) (h0 : Pv 0 σ H)
    (hs : ∀ i σ' H', i < n → Pv i σ' H' → t { D with nx := Pv (i + 1), ct := Pv (i + 1), bk := D.nx } (σ'.set j (some (.int (i : Int)))) H') (hd : ∀ σ' H', Pv n σ' H' → D.nx σ' H') : tFor (iRng1 tl) (gName j) t D σ H :=
  h _ ⟨(n : Int), rfl, by omega, by omega, for_range (lo := 0) (n := n) Pv h0 (fun i σ' H' hi p => by
    show t _ (σ'.set j (some (.int (0 + (i : Int))))) H'
    rw [Int.zero_add]
    exact hs i σ' H' hi p) hd⟩
theorem st_forL {D : Ends} {tl : TE} {t : TS} {j : Nat} (h : Val tl σ H (.ref p)) (hx : SqL K H p xs) (Pv : Nat → L2.St → Hp → Prop) (h0 : Pv 0 σ H) (hl : ∀ i σ' H', i ≤ xs.length → Pv i σ' H' → SqL K H' p xs)
    (hs : ∀ i x σ' H', xs[i]? = some x → Pv i σ' H' → t { D with nx := Pv (i + 1), ct := Pv (i + 1), bk := D.nx } (σ'.set j (some x)) H') (hd : ∀ σ' H', Pv xs.length σ' H' → D.nx σ' H') : tFor (iList K tl) (gName j) t D σ H :=
  h _ ⟨p, rfl, ⟨xs, hx⟩, for_list Pv h0 hl hs hd⟩
end

/-! ### readings that may make new things -/
section
open Evl
variable {K : PySem.W.Frag} {σ : L2.St} {H : Hp} {ta tb te : TE} {x y v : V} {p : Addr} {xs ys : List V}
theorem ev_val (h : ∀ H1, Ex H H1 → Val te σ H1 v) : Ev te σ H v := fun H1 e Q q => h H1 e Q (q H1 (Ex.refl _))
theorem et_ans {t : TT} {b : Bool} (h : ∀ H1, Ex H H1 → Ans t σ H1 b) : EvT t σ H b := fun H1 e Q q => h H1 e Q (q H1 (Ex.refl _))
theorem ev_meth {C a : Addr} {m : Str} {sp : Sp} {dvs vs : List V} {E : XK} {tl : TA} {dx : Addr} {fs : List (Str × V)} (h : Ev ta σ H (.ref a)) (ho : H a = some (.ins C dx fs)) (hn : fs.lookup m = none) (hv : EvA tl σ H vs)
    (hs : SpV sp (.ref a :: (vs ++ dvs)) H v) : Ev (tMeth C m sp dvs E ta tl) σ H v := fun H1 e Q q => h H1 e _ fun H2 e2 => ⟨a, dx, fs, rfl, e2 _ _ (e _ _ ho), hn, hv H2 (e.trans e2) _ fun H3 e3 => hs H3 ((e.trans e2).trans e3) Q (fun H4 e4 => q H4 ((e2.trans e3).trans e4)) E⟩
theorem el_meth {C a : Addr} {m : Str} {sp : Sp} {dvs vs : List V} {E : XK} {tl : TA} {dx : Addr} {fs : List (Str × V)} (h : Ev ta σ H (.ref a)) (ho : H a = some (.ins C dx fs)) (hn : fs.lookup m = none) (hv : EvA tl σ H vs)
    (hs : SpL sp (.ref a :: (vs ++ dvs)) H xs) : EvL (tMeth C m sp dvs E ta tl) σ H xs := fun H1 e Q q => h H1 e _ fun H2 e2 => ⟨a, dx, fs, rfl, e2 _ _ (e _ _ ho), hn, hv H2 (e.trans e2) _ fun H3 e3 => hs H3 ((e.trans e2).trans e3) Q (fun p H4 hp e4 h4 => q p H4 (fresh_back (e2.trans e3) hp) ((e2.trans e3).trans e4) h4) E⟩
/-- a call one of whose arguments is a new list: the value by what the list holds -/
theorem ev_callL {sp : Sp} {dvs : List V} {E : XK} {tr : TA} {vs : List V} (h : EvL te σ H xs) (hr : EvA tr σ H vs) (hs : ∀ p H1, H1 p = some (.lst xs) → Ex H H1 → SpV sp (.ref p :: (vs ++ dvs)) H1 v) : Ev (tCall sp dvs E (tCons te tr)) σ H v := fun H1 e Q q =>
  h H1 e _ fun p H2 _ e2 h2 => hr H2 (e.trans e2) _ fun H3 e3 => hs p H3 (e3 _ _ h2) ((e.trans e2).trans e3) H3 (Ex.refl _) Q (fun H4 e4 => q H4 ((e2.trans e3).trans e4)) E
/-- a built-in of a new list -/
theorem ev_cbL {r : List V → Hp → VK → Prop} (h : EvL te σ H xs) (hs : ∀ p H1, H1 p = some (.lst xs) → Ex H H1 → RC r [.ref p] H1 v) : Ev (tCB r (tCons te tNil)) σ H v := fun H1 e Q q =>
  h H1 e _ fun p H2 _ e2 h2 => hs p H2 h2 (e.trans e2) H2 (Ex.refl _) Q (fun H3 e3 => q H3 (e2.trans e3))
theorem rc_of {r : List V → Hp → VK → Prop} {vs : List V} (h : ∀ H1, Ex H H1 → ∀ Q : VK, Q v H1 → r vs H1 Q) : RC r vs H v := fun H1 e Q q => h H1 e Q (q H1 (Ex.refl _))
theorem ev_sum {ns : List Int} (h : EvL te σ H (ns.map V.int)) : Ev (tCB (rSum K) (tCons te tNil)) σ H (.int ns.sum) := ev_cbL h fun p H1 h1 _ => rc_of fun H2 e _ q => ⟨p, ns, rfl, ex_l e (sq_of h1), q⟩
theorem ev_sumV {ns : List Int} (h : Ev te σ H (.ref p)) (hs : SqL K H p (ns.map V.int)) : Ev (tCB (rSum K) (tCons te tNil)) σ H (.int ns.sum) := fun H1 e Q q =>
  h H1 e _ fun H2 e2 => ⟨p, ns, rfl, ex_l (e.trans e2) hs, q H2 e2⟩
theorem ev_lenV (h : Ev te σ H (.ref p)) (hs : SqL K H p xs) : Ev (tCB (rLn K) (tCons te tNil)) σ H (.int (xs.length : Int)) := fun H1 e Q q =>
  h H1 e _ fun H2 e2 => ⟨p, xs, rfl, .inl (ex_l (e.trans e2) hs), q H2 e2⟩
theorem ev_fld {C dx a : Addr} {fs : List (Str × V)} {f : Str} (h : Ev ta σ H (.ref a)) (ho : H a = some (.ins C dx fs)) (hc : Cls K C) (hn : NoAttr K C f) (hl : fs.lookup f = some v) : Ev (tFld K ta f) σ H v := fun H1 e Q q =>
  h H1 e _ fun H2 e2 => ⟨a, C, dx, fs, v, rfl, e2 _ _ (e _ _ ho), hc, hn, hl, q H2 e2⟩
/-- xs + ys, both new -/
theorem el_cat (h : EvL ta σ H xs) (h' : EvL tb σ H ys) (hz : xs.length + ys.length ≤ 100000) : EvL (tOp rCat ta tb) σ H (xs ++ ys) := fun H1 e Q q =>
  h H1 e _ fun p H2 _ e2 h2 => h' H2 (e.trans e2) _ fun r H3 _ e3 h3 => ⟨p, r, xs, ys, rfl, rfl, e3 _ _ h2, h3, sz_of hz, fun u hu => q u _ (fresh_back (e2.trans e3) hu) ((e2.trans e3).trans (Ex.new hu)) upd_same⟩
theorem el_lst0 : EvL (tLst tNil) σ H [] := el_lst ea_nil (by decide)
/-- an item of a new list -/
theorem ev_ixN {i : Int} (h : EvL ta σ H xs) (hi : ∀ H1, Ex H H1 → Ev tb σ H1 (.int i)) (e : atI xs i = some v) : Ev (tOp (rIxL K) ta tb) σ H v := ev_opL1 h hi fun p H1 h1 _ => rv_ixL (sq_of h1) e
end

/-! ### slices -/
theorem cut_to {xs : List V} {j : Nat} (h : j ≤ xs.length) : cutV xs none (some (j : Int)) = xs.take j := by
  show (xs.drop (HT.sIx xs.length 0 none)).take (HT.sIx xs.length xs.length (some (j : Int)) - HT.sIx xs.length 0 none) = _
  rw [HT.sIx_none, HT.sIx_nat, Nat.min_eq_left h]
  rfl
theorem cut_from {xs : List V} {j : Nat} (h : j ≤ xs.length) : cutV xs (some (j : Int)) none = xs.drop j := by
  show (xs.drop (HT.sIx xs.length 0 (some (j : Int)))).take (HT.sIx xs.length xs.length none - HT.sIx xs.length 0 (some (j : Int))) = _
  rw [HT.sIx_none, HT.sIx_nat, Nat.min_eq_left h]
  exact List.take_of_length_le (by rw [List.length_drop]; omega)
theorem cut_in {xs : List V} {i j : Nat} (hi : i ≤ xs.length) (h : j ≤ xs.length) : cutV xs (some (i : Int)) (some (j : Int)) = (xs.drop i).take (j - i) := by
  show (xs.drop (HT.sIx xs.length 0 (some (i : Int)))).take (HT.sIx xs.length xs.length (some (j : Int)) - HT.sIx xs.length 0 (some (i : Int))) = _
  rw [HT.sIx_nat, HT.sIx_nat, Nat.min_eq_left h, Nat.min_eq_left hi]
/-! ### a op1 b op2 c op3 d -/
section
open PyProof PyProof.Rows
variable {X : Cx} {a b c d : Expr} {pos : Pos} {ta tb tc td : TE}
def tChain3 (r r' r2 : R2) (ta tb tc td : TE) : TE := fun σ H Q => ta σ H fun x H1 => tb σ H1 fun y H2 => r x y H2 fun z H3 => ∃ k, z = .bl k ∧
  (if k = true then tc σ H3 fun w' H4 => r' y w' H4 fun z2 H5 => ∃ k2, z2 = .bl k2 ∧ (if k2 = true then td σ H5 fun u H6 => r2 w' u H6 Q else Q (.bl false) H5) else Q (.bl false) H3)
theorem pt_chain3 {op op' op2 : CmpOp} {r r' r2 : R2} (ho : OpR X (compareOp op) r) (ho' : OpR X (compareOp op') r') (ho2 : OpR X (compareOp op2) r2) (ha : PE X a ta) (hb : PE X b tb) (hc : PE X c tc) (hd : PE X d td)
    (hm : lastMarks [op, op', op2] [b, c, d] = false := by with_unfolding_all rfl) : PT X (.Compare a [op, op', op2] [b, c, d] pos) (tTest (tChain3 r r' r2 ta tb tc td)) := by
  refine ⟨fun pins s σ H Q I h => ?_⟩
  refine isTrue_chain (thn (ha.run pins s σ H _ I h) fun v s1 ⟨x, H1, I1, r1, q1⟩ => test_link (thn (hb.run pins s1 σ H1 _ I1 q1) fun u s2 ⟨y, H2, I2, r2, q2⟩ =>
    thn (ho pins s2 σ H2 x y v u _ I2 r1 r2 q2) fun d s3 ⟨z, H3, I3, r3, k, e, q3⟩ => ?_)) hm
  subst e
  cases r3
  refine wpAny_truthy_bool ?_
  cases k with
  | false =>
    obtain ⟨k', e', q'⟩ := q3
    cases e'
    exact ite_ff ⟨H3, I3, q'⟩
  | true =>
    refine ite_tt (test_link (thn (hc.run pins s3 σ H3 _ I3 q3) fun w' s4 ⟨z', H4, I4, r4, q4⟩ => thn (ho' pins s4 σ H4 y z' u w' _ I4 r2 r4 q4) fun d' s5 ⟨z2, H5, I5, r5, k2, e2, q5⟩ => ?_))
    subst e2
    cases r5
    refine wpAny_truthy_bool ?_
    cases k2 with
    | false =>
      obtain ⟨k', e', q'⟩ := q5
      cases e'
      exact ite_ff ⟨H5, I5, q'⟩
    | true =>
      refine ite_tt (test_last (thn (hd.run pins s5 σ H5 _ I5 q5) fun w2 s6 ⟨z3, H6, I6, r6, q6⟩ => thn (ho2 pins s6 σ H6 z' z3 w' w2 _ I6 r4 r6 q6) fun d2 s7 ⟨z4, H7, I7, r7, k3, e3, q7⟩ => ?_))
      subst e3
      cases r7
      exact wpAny_truthy_bool ⟨H7, I7, q7⟩
theorem val_chain3 {σ : L2.St} {H : Hp} {g g' g2 : Int → Int → Bool} {a b c d : Int} (h1 : Val ta σ H (.int a)) (h2 : Val tb σ H (.int b)) (h3 : Val tc σ H (.int c)) (h4 : Val td σ H (.int d)) :
    Val (tChain3 (rI0 fun i j => .bl (g i j)) (rI0 fun i j => .bl (g' i j)) (rI0 fun i j => .bl (g2 i j)) ta tb tc td) σ H (.bl (g a b && (g' b c && g2 c d))) := fun Q q => by
  refine h1 _ (h2 _ ⟨a, b, rfl, rfl, g a b, rfl, ?_⟩)
  cases e : g a b with
  | true =>
    refine iteT (h3 _ ⟨b, c, rfl, rfl, g' b c, rfl, ?_⟩)
    cases e2 : g' b c with
    | true => exact iteT (h4 _ ⟨c, d, rfl, rfl, by rw [e, e2] at q; exact q⟩)
    | false => exact iteF (by rw [e, e2] at q; exact q)
  | false => exact iteF (by rw [e] at q; exact q)
end

/-! ### a dict of ints under ints -/
def tk (ks : List Int) (c : Int → Int) : List (Key × V) := ks.map fun s => ((Sum.inl s : Key), V.int (c s))
theorem tk_keys (ks : List Int) (c : Int → Int) : (tk ks c).map (·.1) = ks.map Sum.inl := by
  unfold tk
  rw [List.map_map] <;> rfl
theorem tk_len (ks : List Int) (c : Int → Int) : (tk ks c).length = ks.length := by unfold tk; rw [List.length_map]
theorem tk_val (ks : List Int) (c : Int → Int) (u : Int) : valV (tk ks c) (.inl u) = if u ∈ ks then some (.int (c u)) else none := by
  induction ks with
  | nil => rfl
  | cons s r ih =>
    unfold tk valV at ih ⊢
    rw [List.map_cons, List.find?_cons]
    by_cases h : s = u
    · subst h
      rw [decide_eq_true rfl, if_pos (List.mem_cons_self ..)]
      rfl
    · rw [decide_eq_false (fun q => h (Sum.inl.inj q))]
      show Option.map _ (List.find? _ (List.map _ r)) = _
      rw [ih]
      by_cases h2 : u ∈ r
      · rw [if_pos h2, if_pos (List.mem_cons_of_mem _ h2)]
      · rw [if_neg h2, if_neg (fun q => by
          rcases List.mem_cons.mp q with q | q
          · exact h q.symm
          · exact h2 q)]
theorem tk_congr {ks : List Int} {c c' : Int → Int} (h : ∀ s ∈ ks, c s = c' s) : tk ks c = tk ks c' := List.map_congr_left fun s hs => by rw [h s hs]
theorem tk_put {ks : List Int} {c c' : Int → Int} {u y : Int} (hy : c' u = y) (h : ∀ s, s ≠ u → c s = c' s) : putK (tk ks c) (.inl u) (.int y) = tk (if u ∈ ks then ks else ks ++ [u]) c' := by
  by_cases hu : u ∈ ks
  · rw [if_pos hu]
    unfold putK
    rw [valV_any, tk_val, if_pos hu, if_pos (show (some (V.int (c u))).isSome = true from rfl)]
    unfold tk
    rw [List.map_map]
    refine List.map_congr_left fun s _ => ?_
    show (if (Sum.inl s : Key) = Sum.inl u then ((Sum.inl s : Key), V.int y) else (Sum.inl s, V.int (c s))) = _
    by_cases e : s = u
    · subst e
      rw [if_pos rfl, hy]
    · rw [if_neg (fun q => e (Sum.inl.inj q)), h s e]
  · rw [if_neg hu, putK_new _ (by rw [tk_val, if_neg hu])]
    unfold tk
    rw [List.map_append, List.map_cons, List.map_nil, hy]
    congr 1
    refine List.map_congr_left fun s hs => ?_
    rw [h s (fun e => hu (e ▸ hs))]

/-! ### rows of different ints -/
theorem nodup_le : ∀ {l m : List Int}, l.Nodup → (∀ x ∈ l, x ∈ m) → l.length ≤ m.length
  | [], _, _, _ => Nat.zero_le _
  | x :: r, m, h, hs => by
    have hx := hs x (List.mem_cons_self ..)
    have h1 := List.nodup_cons.mp h
    have := nodup_le (l := r) (m := m.erase x) h1.2 fun y hy => (List.mem_erase_of_ne (fun e : y = x => h1.1 (by rw [← e]; exact hy))).mpr (hs y (List.mem_cons_of_mem _ hy))
    rw [List.length_erase_of_mem hx] at this
    have := List.length_pos_of_mem hx
    rw [List.length_cons]
    omega
theorem asc_eq : ∀ {l m : List Int}, l.Pairwise (· < ·) → m.Pairwise (· < ·) → (∀ x, x ∈ l ↔ x ∈ m) → l = m
  | [], [], _, _, _ => rfl
  | [], y :: m, _, _, h => absurd ((h y).mpr (List.mem_cons_self ..)) (by simp)
  | x :: l, [], _, _, h => absurd ((h x).mp (List.mem_cons_self ..)) (by simp)
  | x :: l, y :: m, hl, hm, h => by
    obtain ⟨hl1, hl2⟩ := List.pairwise_cons.mp hl
    obtain ⟨hm1, hm2⟩ := List.pairwise_cons.mp hm
    have e : x = y := by
      rcases List.mem_cons.mp ((h x).mp (List.mem_cons_self ..)) with e | e
      · exact e
      · rcases List.mem_cons.mp ((h y).mpr (List.mem_cons_self ..)) with e' | e'
        · exact e'.symm
        · have := hm1 x e
          have := hl1 y e'
          omega
    subst e
    rw [asc_eq hl2 hm2 fun z => ⟨fun hz => ?_, fun hz => ?_⟩]
    · rcases List.mem_cons.mp ((h z).mp (List.mem_cons_of_mem _ hz)) with e | e
      · have := hl1 z hz
        omega
      · exact e
    · rcases List.mem_cons.mp ((h z).mpr (List.mem_cons_of_mem _ hz)) with e | e
      · have := hm1 z hz
        omega
      · exact e
theorem asc_of {l : List Int} (h : l.Pairwise (· ≤ ·)) (n : l.Nodup) : l.Pairwise (· < ·) := by
  induction l with
  | nil => exact .nil
  | cons x r ih =>
    obtain ⟨h1, h2⟩ := List.pairwise_cons.mp h
    obtain ⟨n1, n2⟩ := List.nodup_cons.mp n
    refine List.pairwise_cons.mpr ⟨fun y hy => ?_, ih h2 n2⟩
    have := h1 y hy
    have : x ≠ y := fun e => n1 (e ▸ hy)
    omega
theorem asc_nodup {l : List Int} (h : l.Pairwise (· < ·)) : l.Nodup := h.imp fun {a b} q e => by omega
/-- how often the items of ks stand in l, all in all -/
theorem counts_sum : ∀ (l ks : List Int), ks.Nodup → (∀ x ∈ l, x ∈ ks) → (ks.map fun s => ((l.count s : Nat) : Int)).sum = (l.length : Int)
  | [], ks, _, _ => by
    have : (ks.map fun s => (((([] : List Int).count s : Nat)) : Int)) = ks.map fun _ => (0 : Int) := List.map_congr_left fun s _ => by rw [List.count_nil]; rfl
    rw [this]
    clear this
    induction ks with
    | nil => rfl
    | cons s r ih => rw [List.map_cons, List.sum_cons]; simp_all
  | x :: l, ks, hn, h => by
    have ih := counts_sum l ks hn fun y hy => h y (List.mem_cons_of_mem _ hy)
    have hx := h x (List.mem_cons_self ..)
    have key : ∀ ks : List Int, ks.Nodup → (ks.map fun s => (((x :: l).count s : Nat) : Int)).sum = (ks.map fun s => ((l.count s : Nat) : Int)).sum + if x ∈ ks then 1 else 0 := by
      intro ks
      induction ks with
      | nil => intro _; rfl
      | cons s r ih =>
        intro hn
        obtain ⟨n1, n2⟩ := List.nodup_cons.mp hn
        rw [List.map_cons, List.sum_cons, List.map_cons, List.sum_cons, ih n2, List.count_cons]
        by_cases e : x = s
        · subst e
          rw [if_neg n1, if_pos (List.mem_cons_self ..), if_pos (by simp)]
          omega
        · have e1 : (x == s) = false := by simpa using e
          rw [e1]
          by_cases e2 : x ∈ r
          · rw [if_pos e2, if_pos (List.mem_cons_of_mem _ e2)]
            simp
            omega
          · have e3 : ¬ x ∈ s :: r := fun q => by
              rcases List.mem_cons.mp q with q | q
              · exact e q
              · exact e2 q
            rw [if_neg e2, if_neg e3, if_neg (by decide)]
            omega
    rw [key ks hn, ih, if_pos hx, List.length_cons]
    omega
/-! ### range(0, m, 2), range(0, m, 3) -/
theorem rgC_up {m c : Int} (hc : c = 2 ∨ c = 3) (hm : 0 ≤ m) (hm2 : m ≤ 40000) : ∃ n, RgC 0 m c n ∧ ∀ i : Nat, i < n → (i : Int) * c < m := by
  refine ⟨(Builtin.Range.rangeSize 0 m c).toNat, ⟨by omega, by omega, ?_, ?_⟩, fun i hi => ?_⟩
  · unfold Builtin.Range.small Builtin.Range.rangeSize
    simp only [Builtin.Range.rangeFitsLong, Bool.and_eq_true, Bool.or_eq_true, decide_eq_true_eq, beq_iff_eq]
    rcases hc with rfl | rfl <;> simp <;> split <;> omega
  · unfold Builtin.Range.rangeSize
    rcases hc with rfl | rfl <;> simp <;> split <;> omega
  · unfold Builtin.Range.rangeSize at hi
    rcases hc with rfl | rfl <;> simp at hi <;> split at hi <;> omega
theorem q_forR3 {ta : TA} {t : TS} {tz : TS} {D : Ends} {σ : L2.St} {H : Hp} {j : Nat} {m c : Int} (h : Evl.EvA ta σ H [.int 0, .int m, .int c]) (hc : c = 2 ∨ c = 3) (hm : 0 ≤ m ∧ m ≤ 40000) (Pv : Int → L2.St → Hp → Prop) (h0 : ∀ H1, Evl.Ex H H1 → Pv 0 σ H1)
    (hs : ∀ (i : Int) σ' H', 0 ≤ i → i < m → Pv i σ' H' → t { D with nx := Pv (i + c), ct := Pv (i + c), bk := tz D } (σ'.set j (some (.int i))) H') (hd : ∀ i σ' H', Pv i σ' H' → tz D σ' H') : tSeq (tFor (iRng3 ta) (gName j) t) tz D σ H :=
  h H (Evl.Ex.refl H) _ fun H1 e => by
    obtain ⟨n, hn, hb⟩ := rgC_up hc hm.1 hm.2
    refine ⟨0, m, c, n, rfl, hn, for_rangeC (D := { D with nx := tz D }) (fun i σ H => Pv ((i : Int) * c) σ H) (by have := h0 H1 e; rwa [show (((0 : Nat) : Int)) * c = 0 from by simp]) (fun i σ' H' hi p => ?_) (fun σ' H' p => hd _ σ' H' p)⟩
    have := hb i hi
    rw [Int.zero_add, show (((i + 1 : Nat)) : Int) * c = (i : Int) * c + c from by rw [Int.natCast_add, Int.add_mul]; simp]
    exact hs _ σ' H' (by rcases hc with rfl | rfl <;> omega) this p
/-- a suite asked only where the frame has its n slots -/
theorem ps_len {X : Cx} {st : List Stmt} {t : TS} {n : Nat} (hn : X.N.length = n) (h : PSs X st t) : PSs X st (fun D σ H => σ.length = n → t D σ H) := ⟨fun pins s σ H D I hw => h.run pins s σ H D I (hw (I.len.trans hn))⟩
/-! ### several except clauses, each with a name or without -/
abbrev Clause := Value × Option Nat × (Addr → Value → Option Addr → TS)
/-- behind a suite with a name the name's slot is empty -/
def emptied (D : Ends) : Option Nat → Ends
  | none => D
  | some i => { nx := fun τ G => D.nx (τ.set i none) G, rt := D.rt, bk := fun τ G => D.bk (τ.set i none) G, ct := fun τ G => D.ct (τ.set i none) G }
def named (τ : L2.St) (a : Addr) : Option Nat → L2.St
  | none => τ
  | some i => τ.set i (some (.ref a))
/-- what the clauses, one after the other, wish of what the body lets out -/
def wMix (K : PySem.W.Frag) (Wout : WX) (D : Ends) : List Clause → WX
  | [] => Wout
  | (c, o, ts) :: r => fun cls d τ G => ∃ b, PySem.W.exmOne K cls c = some b ∧ (b = true → ∀ a, G a = none → ts a cls d (emptied D o) (named τ a o) G) ∧ (b = false → wMix K Wout D r cls d τ G)
inductive Clauses (X : Cx) : List ExceptHandler → List Clause → Prop
  | nil : Clauses X [] []
  | bare {x : Str} {c : Value} {ts : Addr → Value → Option Addr → TS} {s0 : Stmt} {ss : List Stmt} {p1 p2 : Pos} {hds : List ExceptHandler} {l : List Clause} (hc : Names X x c)
      (hS : ∀ (a : Addr) (oe : Obj) (cls : Value) (d : Option Addr) (pn : List (Addr × Obj)), Zc cls d oe → (∃ vs, oe.data = .fields vs) → PSs (X.suite a ((a, oe) :: pn)) (s0 :: ss) (ts a cls d)) (r : Clauses X hds l) :
      Clauses X (.ExceptHandler (some (.Name x p1)) none (s0 :: ss) p2 :: hds) ((c, none, ts) :: l)
  | as {x n : Str} {i : Nat} {c : Value} {ts : Addr → Value → Option Addr → TS} {s0 : Stmt} {ss : List Stmt} {p1 p2 : Pos} {hds : List ExceptHandler} {l : List Clause} (hi : X.N[i]? = some n) (hk : X.env.kindOf n = some .local) (hc : Names X x c)
      (hS : ∀ (a : Addr) (oe : Obj) (cls : Value) (d : Option Addr) (pn : List (Addr × Obj)), Zc cls d oe → (∃ vs, oe.data = .fields vs) → PSs (X.suite a ((a, oe) :: pn)) (s0 :: ss) (ts a cls d)) (r : Clauses X hds l) :
      Clauses X (.ExceptHandler (some (.Name x p1)) (some n) (s0 :: ss) p2 :: hds) ((c, some i, ts) :: l)
section
variable {X : Cx} {body : List Stmt} {h₀ : ExceptHandler} {hds : List ExceptHandler} {l : List Clause} {pos : Pos} {tb : WX → TS} {Wout : WX}
theorem ps_try_mix (hs : X.stack = X.env :: X.outer) (hf : X.env.frame = some X.env.locals) (hN : X.N.Nodup) (tk : Takes X Wout)
    (hb : ∀ (W : WX) (pn : List (Addr × Obj)) (xe : Value → Shared → Prop), Takes (X.tr pn xe) W → PassesOwn (model X.prog X.w) X.A X.env xe → PSs (X.tr pn xe) body (tb W))
    (hh : Clauses X (h₀ :: hds) l) : PS X (.Try body (h₀ :: hds) [] [] pos) (fun D τ G => tb (wMix X.K Wout D l) D τ G) := by
  constructor
  intro pins s τ G D I h
  have okX := I.ok
  let caught : Value → Shared → Prop := fun e t1 => wpAny (model X.prog X.w) X.A (noteFrame e X.env) (fun _ t2 => wpAny (model X.prog X.w) X.A (setFlight e none) (fun _ t3 => wpAny (model X.prog X.w) X.A (handleBy e X.env (h₀ :: hds)) (SP X pins D) X.xe t3) X.xe t2) X.xe t1
  have back : ∀ (f : Flow) (t : Shared), SP (X.tr (X.pn ++ pins) caught) [] D f t → SP X pins D f t := by
    intro f t q
    cases f with
    | ret u =>
      obtain ⟨v, τ1, G1, J, rv, qq⟩ := q
      exact ⟨v, τ1, G1, J.ofTry okX, rv, qq⟩
    | next =>
      obtain ⟨τ1, G1, J, qq⟩ := q
      exact ⟨τ1, G1, J.ofTry okX, qq⟩
    | brk =>
      obtain ⟨τ1, G1, J, qq⟩ := q
      exact ⟨τ1, G1, J.ofTry okX, qq⟩
    | cont =>
      obtain ⟨τ1, G1, J, qq⟩ := q
      exact ⟨τ1, G1, J.ofTry okX, qq⟩
  refine wpAny_Try_except (wpAny_mono ((hb (wMix X.K Wout D l) (X.pn ++ pins) caught ?tk PassesOwn.looking).run [] s τ G D (I.toTry _) h) ?out fun _ _ he => he)
  case out =>
    intro f t q
    have q' := back f t q
    cases f with
    | next => exact wpAny_execs_nil q'
    | ret u => exact q'
    | brk => exact q'
    | cont => exact q'
  case tk =>
    rintro _ t ⟨a, B, sI, pins1, τ1, G1, cls, d, rfl, J0, nb, up, sky, na, os, ag, wish⟩
    have J := J0.ofTry okX
    rw [show (X.tr (X.pn ++ pins) caught).stack = X.env :: X.outer from hs] at sky
    show wpAny (model X.prog X.w) X.A (noteFrame (.ref a) X.env) _ _ _
    refine Sky.land Zc.steady (okX.frames.trans (congrArg some hs)) hf sky fun h3 fly up3 => ?_
    have J3 : Inv X pins τ1 G1 { t with heap := h3 } := J.landed nb fly.1 (up.trans up3) os ag
    obtain ⟨oe, vs, hget, hz, hdat⟩ := fly.there
    have off : a ∉ frs (X.env :: X.outer) := by
      intro hm
      obtain ⟨_, o1, g1, hne⟩ := fly.2.2.1.mem hm
      rw [hget] at g1
      cases g1
      exact hne _ hdat
    have offL : a ≠ X.env.locals := fun z => off (List.mem_filterMap.mpr ⟨X.env, List.mem_cons_self, by rw [hf, z]⟩)
    have offF : a ∉ X.fs := by
      intro hm
      obtain ⟨e, he, q⟩ := List.mem_filterMap.mp hm
      exact off (List.mem_filterMap.mpr ⟨e, List.mem_cons_of_mem _ he, q⟩)
    have Sus := J3.suite hget hdat na offL offF
    have kindIs : PySem.W.Looks (model X.prog X.w) h3 (typeOf (.ref a)) cls := fun _ _ _ _ look q => wpAny_typeOf_ref (look _ _ hget) (by rw [hz.1]; exact q)
    have reads : ∀ {x : Str} {c : Value} {p : Pos} {Q : Value → Shared → Prop} {E : Value → Shared → Prop}, Names X x c → Q c { t with heap := h3 } → wpAny (model X.prog X.w) (X.A.mark (some (.ref a))) (eval (.Name x p) X.env) Q E { t with heap := h3 } := by
      intro x c p Q E nm q
      obtain ⟨hg, hdbg, own | ⟨free, hv, hnn⟩⟩ := nm
      · exact ld_glob (X := X.suite a ((a, oe) :: (X.pn ++ pins))) Sus hg own q hdbg
      · exact ld_blt (X := X.suite a ((a, oe) :: (X.pn ++ pins))) Sus hg free hv q hnn hdbg
    have walk : ∀ (hs' : List ExceptHandler) (l' : List Clause), Clauses X hs' l' → wMix X.K Wout D l' cls d τ1 G1 → wpAny (model X.prog X.w) X.A (handleBy (.ref a) X.env hs') (SP X pins D) X.xe { t with heap := h3 } := by
      intro hs' l' hk
      induction hk with
      | nil =>
        intro wish
        refine wpAny_handleBy_nil ?_
        obtain ⟨_, _, _, oe', vs', T, _, _, g1, _, g2, g3, _⟩ := id fly
        have flies : wpAny (model X.prog X.w) X.A (setFlight (.ref a) X.env.frame) (fun _ t4 => wpAny (model X.prog X.w) X.A (throw (.ref a) : Sem Flow) (SP X pins D) X.xe t4) X.xe { t with heap := h3 } := by
          rw [hf]
          refine HandSPX.setFlight_upZ fly fun h4 held up4 => wpAny_throw (tk _ _ ⟨a, B, sI, pins, τ1, G1, cls, d, rfl, J, nb, (up.trans up3).trans up4, .inr (.inr ?_), na, os, ag, wish⟩)
          rw [hs]
          exact held
        unfold PySem.passOn
        refine wpAny_bind (wpAny_field g1 g2 g3 ?_)
        rw [if_neg (show ¬ ((Value.ref T == Value.none) = true) by simp)]
        first
          | exact wpAny_bind flies
          | exact wpAny_bind (wpAny_pure (wpAny_bind flies))
      | bare nm hS _ ih =>
        rintro ⟨b, hb1, yes, no⟩
        refine wpAny_handleBy_cons (codeAny_handlers_test ?_) (by intro q; cases q)
        refine reads nm ((PySem.W.exm_one (M := model X.prog X.w) J3.kIn kindIs hb1).here ?_)
        cases b with
        | false => exact ih (no rfl)
        | true =>
          refine codeAny_handlers_suite (HandSPX.lands_againZ fly fun h4 fly4 up4 => ?_)
          obtain ⟨oe4, vs4, hget4, hz4, hdat4⟩ := fly4.there
          have S4 := (J.landed nb fly4.1 ((up.trans up3).trans up4) os ag : Inv X pins τ1 G1 { t with heap := h4 }).suite hget4 hdat4 na offL offF
          refine wpAny_mono ((hS a oe4 cls d (X.pn ++ pins) hz4 ⟨_, hdat4⟩).run [] _ _ G1 _ S4 (yes rfl a na)) (fun f t6 q => ?_) fun _ _ z => z.elim
          cases f with
          | ret u =>
            obtain ⟨v, τ6, G6, S6, rv, q6⟩ := q
            exact ⟨v, τ6, G6, S6.unsuite okX, rv, q6⟩
          | next =>
            obtain ⟨τ6, G6, S6, q6⟩ := q
            exact ⟨τ6, G6, S6.unsuite okX, q6⟩
          | brk =>
            obtain ⟨τ6, G6, S6, q6⟩ := q
            exact ⟨τ6, G6, S6.unsuite okX, q6⟩
          | cont =>
            obtain ⟨τ6, G6, S6, q6⟩ := q
            exact ⟨τ6, G6, S6.unsuite okX, q6⟩
      | @as x n i c ts s0 ss p1 p2 hds2 l2 hi hloc nm hS _ ih =>
        rintro ⟨b, hb1, yes, no⟩
        refine wpAny_handleBy_cons (codeAny_handlers_test ?_) (by intro q; cases q)
        refine reads nm ((PySem.W.exm_one (M := model X.prog X.w) J3.kIn kindIs hb1).here ?_)
        cases b with
        | false => exact ih (no rfl)
        | true =>
          refine codeAny_handlers_suite_as (HandSPX.lands_againZ fly fun h4 fly4 up4 => ?_)
          obtain ⟨oe4, vs4, hget4, hz4, hdat4⟩ := fly4.there
          have S4 := (J.landed nb fly4.1 ((up.trans up3).trans up4) os ag : Inv X pins τ1 G1 { t with heap := h4 }).suite hget4 hdat4 na offL offF
          refine store_ok (X := X.suite a ((a, oe4) :: (X.pn ++ pins))) (v := .ref a) S4 hN hi (.inl hloc) rfl (fun t5 S5 => ?_) (.inr hloc)
          refine wpAny_mono ((hS a oe4 cls d (X.pn ++ pins) hz4 ⟨_, hdat4⟩).run [] t5 _ G1 _ S5 (yes rfl a na)) (fun f t6 q => ?_) fun _ _ z => z.elim
          cases f with
          | ret u =>
            obtain ⟨v, τ6, G6, S6, rv, q6⟩ := q
            exact gone_ok (S6.unsuite okX) hN hi hloc fun t7 J7 => ⟨v, _, _, J7, rv, q6⟩
          | next =>
            obtain ⟨τ6, G6, S6, q6⟩ := q
            exact gone_ok (S6.unsuite okX) hN hi hloc fun t7 J7 => ⟨_, _, J7, q6⟩
          | brk =>
            obtain ⟨τ6, G6, S6, q6⟩ := q
            exact gone_ok (S6.unsuite okX) hN hi hloc fun t7 J7 => ⟨_, _, J7, q6⟩
          | cont =>
            obtain ⟨τ6, G6, S6, q6⟩ := q
            exact gone_ok (S6.unsuite okX) hN hi hloc fun t7 J7 => ⟨_, _, J7, q6⟩
    exact walk _ _ hh wish
end

/-! ### stars, dict comprehensions -/
theorem aStar {X : Cx} (K : PySem.W.Frag) (h : X.K = K) {e : Expr} {es : List Expr} {te : TE} {t : TA} {p : Pos} (he : PE X e te) (hr : PA X es t) (hs : starEach (.Starred e p :: es) X.env = (true, eval e X.env) :: starEach es X.env := by rfl) : PA X (.Starred e p :: es) (StX.tStar K te t) := h ▸ StX.pa_star he hr hs
/-- a dict comprehension over whatever is walked -/
theorem dc_it {J : It} {n : Nat} {G : Hp → Prop} {Y : Nat → Hp → V → Hp → Prop} (w : Walk J n G Y) {g : TG} {tt : TT} {tk tv : TE} {vs : List Nat} {σ : L2.St} {H1 : Hp} {D : Addr} {Qd : Hp → Prop} (Pv : Nat → Hp → Prop) (h0 : Pv 0 (upd H1 D (.dK []))) (hG : ∀ i H, i ≤ n → Pv i H → G H)
    (turn : ∀ i x H H', i < n → Pv i H → Y i H x H' → g x (wipe σ vs) H' fun τ G2 => wipe τ vs = wipe σ vs ∧ tt τ G2 fun b G3 =>
      if b = true then tk τ G3 fun y G4 => tv τ G4 fun z G5 => ∃ kvs k, y = kV k ∧ G5 D = some (.dK kvs) ∧ kvs.length < sizeLine ∧ Pv (i + 1) (upd G5 D (.dK (putK kvs k z))) else Pv (i + 1) G3) (done : ∀ H, Pv n H → Qd H) :
    ∃ W : Nat → Nat → Hp → Prop, (∃ m, W 0 m (upd H1 D (.dK []))) ∧ ∀ i m H, W i m H →
      (J.stop i H ∧ Qd H) ∨ (J.go i H ∧ ∃ Nx : Hp → Prop, (∀ H', Nx H' → ∃ m', m' < m ∧ W (i + 1) m' H') ∧ ∀ x H', J.yld i H x H' → g x (wipe σ vs) H' fun τ G2 => wipe τ vs = wipe σ vs ∧ tt τ G2 fun b G3 =>
        if b = true then tk τ G3 fun y G4 => tv τ G4 fun z G5 => ∃ kvs k, y = kV k ∧ G5 D = some (.dK kvs) ∧ kvs.length < sizeLine ∧ Nx (upd G5 D (.dK (putK kvs k z))) else Nx G3) := by
  refine ⟨fun i m H => m + i = n ∧ Pv i H, ⟨n, rfl, h0⟩, ?_⟩
  rintro i m H ⟨hm, p⟩
  have q := hG i H (by omega) p
  by_cases hi : i = n
  · subst hi
    exact .inl ⟨w.stops H q, done H p⟩
  · have hlt : i < n := by omega
    exact .inr ⟨w.goes i H hlt q, Pv (i + 1), fun H' p' => ⟨m - 1, by omega, by omega, p'⟩, fun x H' y => turn i x H H' hlt p (w.yields i H x H' hlt q y)⟩
theorem mIdx {X : Cx} (K : PySem.W.Frag) (h : X.K = K) : MtR X "list.index" (rIndex K) := h ▸ mt_index
end Tp

set_option Elab.async false
set_option linter.all false
set_option maxRecDepth 100000
set_option maxHeartbeats 4000000
namespace Tp
open PySem PySem.Spec PyProof.Rows L2 Evl RT
/-! ### list(reversed(x)), x a list -/
section
variable {prog : Program} {w : World} {A : Around} {E : Value → Shared → Prop} {s : Shared}
theorem extendRev {R : Result → Shared → Prop} {S it l : Addr} {items : Array Value} {c₀ : Nat} (res : Value) (hh : A.handled = none) (hit : s.heap.IsRevIter it l ((items.size : Int) - 1)) (hl : s.heap.IsList l items) (ne1 : l ≠ it) (ne2 : S ≠ it) (ne3 : S ≠ l) (hn : items.size ≤ sizeLine)
    (hS : s.heap.get? S = some { cls := .type "list", data := .seq #[] c₀ })
    (hR : ∀ (h' : Heap) (tk : Nat) (acc : Array Value) (c' : Nat), (∀ b o, b ≠ S → b ≠ it → s.heap.get? b = some o → h'.get? b = some o) → h'.get? S = some { cls := .type "list", dict := none, data := .seq acc c', slots := #[] } → ItemsOf (fun i v => items[items.size - 1 - i]? = some v) acc items.size → R (.ok (.ret res)) { s with heap := h', toks := tk }) :
    wpAny (model prog w) A.in1 (Builtin.List.listExtendWith (.ref S) (.ref it) res) (fun fin s' => match fin with | .done f => R (.ok f) s' | .again c' => c'.quiet = true ∧ codeAny (model prog w) A c' R s') (fun e s' => R (.error e) s') s := by
  have walk := (Walks.listRev (prog := prog) (w := w) (A := A.in1) hh it l ne1 items).toS
  have out : S ∉ [it, l] := by
    simp only [List.mem_cons, List.not_mem_nil, or_false, not_or]
    exact ⟨ne2, ne3⟩
  have kind : s.TypeIs (.ref it) "list_reverseiterator" := hit.typeIs
  have other : Builtin.List.listSameRef (.ref S) (.ref it) = false := by simp [Builtin.List.listSameRef, ne2]
  unfold Builtin.List.listExtendWith
  refine wpAny_bind (wpAny_typeOf kind ?_)
  rw [if_neg (by rw [other]; decide)]
  refine wpAny_bind (wpAny_pyIter_revIter hit (wpAny_bind (wpAny_holding ?_)))
  unfold Builtin.List.listLengthHint
  refine wpAny_bind (wpAny_specialOf kind nolen_lri ?_)
  show wpAny _ A.in1 (specialOf (Value.ref it) (Str.ofString "__length_hint__") >>= _) _ _ _
  refine wpAny_bind (wpAny_specialOf kind hint_lri ?_)
  generalize hd : ("list_reverseiterator.__length_hint__" : String) = named
  wp_delta
  rw [show splitId named = some ("list_reverseiterator", "__length_hint__") by subst hd; decide +kernel]
  subst hd
  refine wpAny_bind (wpAny_isInstance (b := true) kind (by rw [isSubtype_type]; kernel_rfl) (wpAny_pure ?_))
  rw [if_neg (by decide)]
  have e0 : ((items.size : Nat) : Int) - 1 - ((0 : Nat) : Int) = (items.size : Int) - 1 := by omega
  refine wpAny_pure ⟨plainId_quiet F.plain_extend_loop _, codeAny_extend_loopS walk hn _ out _ items.size 0 _ _ _ rfl (Nat.zero_le _) ⟨Nat.zero_le _, by rw [e0]; exact hit, hl⟩ hS (ItemsOf.nil _) fun s' acc c' mv hS' hacc => ?_⟩
  rw [Moved.eq_with mv]
  refine hR s'.heap s'.toks acc c' (fun b o n1 n2 e => mv.heap b o (fun hm => ?_) e) hS' hacc
  rcases List.mem_cons.mp hm with z | z
  · exact n1 z
  · exact n2 (List.mem_singleton.mp z)
theorem listRev {it l : Addr} {items : Array Value} {Q : Value → Shared → Prop} (hh : A.handled = none) (hit : s.heap.IsRevIter it l ((items.size : Int) - 1)) (hl : s.heap.IsList l items) (ne1 : l ≠ it) (hn : items.size ≤ sizeLine)
    (hQ : ∀ (h' : Heap) (tk : Nat) (acc : Array Value) (c' : Nat), (∀ b o, b ≠ it → s.heap.get? b = some o → h'.get? b = some o) → h'.get? s.heap.objs.size = some { cls := .type "list", dict := none, data := .seq acc c', slots := #[] } → ItemsOf (fun i v => items[items.size - 1 - i]? = some v) acc items.size → Q (.ref s.heap.objs.size) { s with heap := h', toks := tk }) :
    wpAny (model prog w) A (call (.type "list") [.ref it]) Q E s := by
  refine callType_codes (Q₁ := fun obj t => obj = .ref s.heap.objs.size ∧ t = { s with heap := s.heap.push { cls := .type "list", data := .seq #[] } }) F.called_list (F.typeCall_list_1 _) F.entry_list_init (code_list_new _ ⟨rfl, rfl⟩) ?_
  rintro _ _ ⟨rfl, rfl⟩
  obtain ⟨oi, hoi, _⟩ := id hit
  obtain ⟨ol, hol, _⟩ := id hl
  have n2 : s.heap.objs.size ≠ it := Nat.ne_of_gt (Heap.lt_size hoi)
  have n3 : s.heap.objs.size ≠ l := Nat.ne_of_gt (Heap.lt_size hol)
  have made : (s.heap.push { cls := .type "list", data := .seq #[] }).get? s.heap.objs.size = some { cls := .type "list", data := .seq #[] } := Heap.get?_push_size _ rfl
  refine ⟨⟨_, made, rfl⟩, F.args_list_init_2 _ _, ?_⟩
  show wpAny _ A.in1.in1 (do let old ← Builtin.List.listItems (.ref s.heap.objs.size); Builtin.List.listUpdate (.ref s.heap.objs.size) (fun _ => #[]); letGo old.toList.reverse; Builtin.List.listExtendWith (.ref s.heap.objs.size) (.ref it) .none) _ _ _
  refine wpAny_bind ?_
  unfold Builtin.List.listItems
  refine wpAny_bind (wpAny_seqItems made rfl (wpAny_pure ?_))
  show wpAny _ A.in1.in1 (updateSeq s.heap.objs.size (fun _ => #[]) >>= fun _ => letGo (#[] : Array Value).toList.reverse >>= fun _ => Builtin.List.listExtendWith (.ref s.heap.objs.size) (.ref it) .none) _ _ _
  refine wpAny_bind (wpAny_updateSeq made rfl ?_)
  have empty := Heap.get?_update_self (Obj.mapSeq (fun _ => (#[] : Array Value))) made rfl
  have oth : ∀ b o, b ≠ s.heap.objs.size → s.heap.get? b = some o → ((s.heap.push { cls := .type "list", data := .seq #[] }).update s.heap.objs.size (Obj.mapSeq (fun _ => (#[] : Array Value)))).get? b = some o :=
    fun b o hb e => (Heap.get?_update_other _ _ (Ne.symm hb)).trans (Heap.get?_push_of_some _ e)
  refine wpAny_bind (wpAny_letGo ?_)
  refine extendRev (A := A.in1) .none hh (hit.at fun o e => oth _ o (Ne.symm n2) e) ?_ ne1 n2 n3 hn empty fun h' tk acc c' keep hS' hacc => ⟨rfl, hQ h' tk acc c' (fun b o hb e => keep b o (Nat.ne_of_lt (Heap.lt_size e)) hb (oth b o (Nat.ne_of_lt (Heap.lt_size e)) e)) hS' hacc⟩
  obtain ⟨o, ho, r⟩ := hl
  exact ⟨o, oth _ _ (Ne.symm n3) ho, r⟩
end
def tLstRev (K : PySem.W.Frag) (te : TE) : TE := fun τ G Q => te τ G fun v G1 => ∃ (a : Addr) (xs : List V), v = .ref a ∧ SqL K G1 a xs ∧ ∀ q, G1 q = none → Q (.ref q) (upd G1 q (.lst xs.reverse))
theorem pe_lstRev {X : Cx} (K : PySem.W.Frag) (h : X.K = K) {e : Expr} {te : TE} {p p2 pos pos2 : Pos} (hc : X.calm = true) (hg : Gl X "list") (hm : X.mg "list" = none) (hg2 : Gl X "reversed") (hm2 : X.mg "reversed" = none) (he : PE X e te)
    (hs : starEach [e] X.env = (false, eval e X.env) :: starEach [] X.env := by rfl)
    (hs2 : starEach [.Call (.Name "reversed" p2) [e] [] pos2] X.env = (false, eval (.Call (.Name "reversed" p2) [e] [] pos2) X.env) :: starEach [] X.env := by rfl) :
    PE X (.Call (.Name "list" p) [.Call (.Name "reversed" p2) [e] [] pos2] [] pos) (tLstRev K te) := by
  subst h
  constructor
  intro pins s τ G Q I h
  refine Call_ (ld_blt I hg hm boot_list (PyProof.Rows.callWith_type1 (args_cons (Call_ (ld_blt I hg2 hm2 PyProof.Rows.boot_reversed (PyProof.Rows.callWith_type1 (args_cons (thn (he.run pins s τ G _ I h) fun u t ⟨v, G1, J, rv, q1⟩ => args_nil ?_) hs) hs rfl))) hs2) hs2 rfl))
  obtain ⟨a, xs, rfl, hq, q⟩ := q1
  obtain rfl : u = Value.ref a := rv
  obtain ⟨its, vals, plain, hz⟩ := J.list hq
  have isl := plain.isList
  refine call_reversed_list isl (args_nil ?_)
  have small : its.toArray.size ≤ sizeLine := by rw [List.size_toArray, ← vals.length]; exact hz
  obtain ⟨ol, hol, _⟩ := id isl
  have apart : a ≠ t.heap.objs.size := Nat.ne_of_lt (Heap.lt_size hol)
  have J2 : Inv X pins τ G1 { t with heap := t.heap.push (revObj a ((its.toArray.size : Int) - 1)) } := J.kept (t' := t.toks) fun b o e => Heap.get?_push_of_some _ e
  obtain ⟨f0, f1, f2, f3, f4, f5⟩ := J.fpOk (H' := G1) (b := t.heap.objs.size) (Nat.le_refl _) (J.hok.fresh (Nat.le_refl _))
  have sz : (t.heap.push (revObj a ((its.toArray.size : Int) - 1))).objs.size = t.heap.objs.size + 1 := Heap.size_push ..
  refine listRev (s := { t with heap := t.heap.push (revObj a ((its.toArray.size : Int) - 1)) }) (J.ok.hd hc) ⟨_, Heap.get?_push_size _ rfl, rfl, rfl⟩ (isl.push _) apart small fun h' tk acc c' keep made items => ?_
  rw [show ({ t with heap := t.heap.push (revObj a ((its.toArray.size : Int) - 1)) } : Shared).heap.objs.size = t.heap.objs.size + 1 from sz] at made ⊢
  refine ⟨.ref _, upd G1 (t.heap.objs.size + 1) (.lst xs.reverse), J.laid (t' := tk) (fun b o e => keep b o (Nat.ne_of_lt (Heap.lt_size e)) (Heap.get?_push_of_some _ e)) (Nat.le_succ _) (show ObjOk X.prog X.w _ _ _ (.lst xs.reverse) from ⟨by rw [List.length_reverse]; exact hz, acc.toList, c', vals_rev vals items, ?_⟩), rfl, q _ (J.hok.fresh (Nat.le_succ _))⟩
  rw [Array.toArray_toList]
  exact made
end Tp


set_option Elab.async false
set_option linter.all false
set_option maxRecDepth 100000
set_option maxHeartbeats 4000000
namespace Tp
open PySem PySem.Spec PyProof.Rows L2 Evl
/-! ### rows of bits: what is kept -/
def pre (row : List Int) (i : Nat) : Int := (row.take i).sum
def sums (row : List Int) : List Int := (List.range (row.length + 1)).map (pre row)
def isAt (row : List Int) (d : Int) (i : Nat) : Bool := decide (row[i]? = some d)
/-- the places below n at which d stands -/
def plcTo (row : List Int) (d : Int) (n : Nat) : List Int := ((List.range n).filter (isAt row d)).map fun (i : Nat) => (i : Int)
def plc (row : List Int) (d : Int) : List Int := plcTo row d row.length
theorem pre_zero (row : List Int) : pre row 0 = 0 := rfl
theorem pre_succ {row : List Int} {i : Nat} {z : Int} (h : row[i]? = some z) : pre row (i + 1) = pre row i + z := sum_take h
theorem pre_all (row : List Int) : pre row row.length = row.sum := by unfold pre; rw [List.take_length]
theorem sums_len (row : List Int) : (sums row).length = row.length + 1 := by unfold sums; rw [List.length_map, List.length_range]
theorem sums_at {row : List Int} {i : Nat} (h : i ≤ row.length) : (sums row)[i]? = some (pre row i) := by
  unfold sums
  rw [List.getElem?_map, List.getElem?_range (by omega)] <;> rfl
theorem plcTo_succ {row : List Int} {d : Int} {n : Nat} : plcTo row d (n + 1) = if isAt row d n = true then plcTo row d n ++ [(n : Int)] else plcTo row d n := by
  unfold plcTo
  rw [List.range_succ, List.filter_append, List.map_append, List.filter_cons]
  by_cases h : isAt row d n = true
  · rw [if_pos h, if_pos h] <;> rfl
  · rw [if_neg h, if_neg h]
    show _ ++ [] = _
    rw [List.append_nil]
theorem plcTo_len (row : List Int) (d : Int) (n : Nat) : (plcTo row d n).length ≤ n := by
  unfold plcTo
  rw [List.length_map]
  have h := List.length_filter_le (isAt row d) (List.range n)
  rwa [List.length_range] at h
theorem int_at {ns : List Int} {i : Nat} {x : V} (h : (ns.map V.int)[i]? = some x) : ∃ z, ns[i]? = some z ∧ x = .int z := by
  rw [List.getElem?_map] at h
  cases e : ns[i]? with
  | none =>
    rw [e] at h
    cases h
  | some z =>
    rw [e] at h
    exact ⟨z, rfl, (Option.some.inj h).symm⟩
theorem at_int {ns : List Int} {i : Nat} {z : Int} (h : ns[i]? = some z) : (ns.map V.int)[i]? = some (V.int z) := by rw [List.getElem?_map, h] <;> rfl
theorem lt_of_at {α : Type} {l : List α} {i : Nat} {x : α} (h : l[i]? = some x) : i < l.length := (List.getElem?_eq_some_iff.mp h).1
theorem small9 {n : Nat} (h : n ≤ 100000) : n < sizeLine := Nat.lt_of_le_of_lt h (by decide)
end Tp


set_option Elab.async false
set_option linter.all false
set_option maxRecDepth 100000
set_option maxHeartbeats 4000000
namespace Tp
open PySem PySem.Spec PyProof.Rows L2 Evl
/-! ### trees -/
inductive Tr where
  | txt (z : Str)
  | el (n : Str) (cs : List Tr)
mutual
def Tr.d : Tr → PyData
  | .txt z => .str z
  | .el n cs => .tuple [.str n, .list (Tr.ds cs)]
def Tr.ds : List Tr → List PyData
  | [] => []
  | c :: cs => c.d :: Tr.ds cs
end
theorem ds_map : ∀ cs : List Tr, Tr.ds cs = cs.map Tr.d
  | [] => rfl
  | c :: cs => by rw [Tr.ds, ds_map cs, List.map_cons]
def Tr.isT : Tr → Bool
  | .txt _ => true
  | .el _ _ => false
def signCs : List Nat := [97, 98, 32, 60, 62, 38, 59, 108, 116, 10, 126, 47]
def okText (m : Nat) (z : Str) : Prop := 1 ≤ z.cps.size ∧ z.cps.size ≤ m ∧ ∀ c ∈ z.cps.toList, c ∈ signCs
def twelve : Str := "ab <>&;lt\n~/"
def fourNames : List Str := ["a", "b", "abcdefghijkl", "c"]
/-- no two texts side by side -/
def apartT : List Tr → Prop
  | [] => True
  | [_] => True
  | a :: b :: r => ¬ (a.isT = true ∧ b.isT = true) ∧ apartT (b :: r)
def okTr : Nat → Tr → Prop
  | _, .txt z => okText 5 z
  | 0, .el _ _ => False
  | k + 1, .el n cs => n ∈ fourNames ∧ cs.length ≤ 3 ∧ apartT cs ∧ ∀ c ∈ cs, okTr k c

/-! ### a document as a text -/
def sL (l : List Nat) : Str := ⟨l.toArray⟩
theorem sL_list (l : List Nat) : (sL l).cps.toList = l := rfl
theorem sL_len (l : List Nat) : (sL l).length = l.length := by
  show l.toArray.size = _
  rw [List.size_toArray]
theorem sL_of (z : Str) : sL z.cps.toList = z := by
  cases z
  rfl
theorem sL_app (a b : List Nat) : sL a ++ sL b = sL (a ++ b) := by
  show (⟨a.toArray ++ b.toArray⟩ : Str) = ⟨(a ++ b).toArray⟩
  rw [List.append_toArray]
theorem sL_ext {x : Str} {l : List Nat} (h : x.cps.toList = l) : x = sL l := by rw [← h, sL_of]
def escC (c : Nat) : List Nat := if c = 60 then [38, 108, 116, 59] else if c = 62 then [38, 103, 116, 59] else if c = 38 then [38, 97, 109, 112, 59] else [c]
def escL (l : List Nat) : List Nat := l.flatMap escC
def esc (z : Str) : Str := sL (escL z.cps.toList)
theorem escC_len (c : Nat) : 1 ≤ (escC c).length ∧ (escC c).length ≤ 5 := by
  unfold escC
  split
  · exact ⟨by decide, by decide⟩
  split
  · exact ⟨by decide, by decide⟩
  split
  · exact ⟨by decide, by decide⟩
  · exact ⟨Nat.le_refl _, by show 1 ≤ 5; decide⟩
theorem escL_len : ∀ l : List Nat, (escL l).length ≤ 5 * l.length
  | [] => Nat.le_refl _
  | c :: l => by
    have h1 := escL_len l
    have h2 := (escC_len c).2
    show (escC c ++ escL l).length ≤ 5 * (l.length + 1)
    rw [List.length_append]
    omega
theorem repl_one (c : Nat) (z : List Nat) : ∀ l : List Nat, StrLaws.replL [c] z l = l.flatMap fun d => if d = c then z else [d]
  | [] => StrLaws.replL_nil
  | d :: l => by
    have ih := repl_one c z l
    rw [List.flatMap_cons]
    by_cases h : d = c
    · subst h
      rw [StrLaws.replL_hit (by simp) (by simp), if_pos rfl]
      show z ++ StrLaws.replL [d] z l = _
      rw [ih]
    · rw [StrLaws.replL_miss (by simpa using h), if_neg h, ih]
      rfl
theorem rep_c {x y z : Str} {c : Nat} (hy : y.cps.toList = [c]) : Txt.replace x y z = sL (x.cps.toList.flatMap fun d => if d = c then z.cps.toList else [d]) := by
  refine sL_ext ?_
  rw [StrLaws.replace_list (by show 1 ≤ y.cps.size; rw [← Array.length_toList, hy]; exact Nat.le_refl _), hy, repl_one]
theorem esc_three (x : Str) : Txt.replace (Txt.replace (Txt.replace x "&" "&amp;") "<" "&lt;") ">" "&gt;" = esc x := by
  have h1 : ("&" : Str).cps.toList = [38] := by decide +kernel
  have h2 : ("<" : Str).cps.toList = [60] := by decide +kernel
  have h3 : (">" : Str).cps.toList = [62] := by decide +kernel
  have g1 : ("&amp;" : Str).cps.toList = [38, 97, 109, 112, 59] := by decide +kernel
  have g2 : ("&lt;" : Str).cps.toList = [38, 108, 116, 59] := by decide +kernel
  have g3 : ("&gt;" : Str).cps.toList = [38, 103, 116, 59] := by decide +kernel
  rw [rep_c h1, rep_c h2, rep_c h3, sL_list, sL_list, g1, g2, g3]
  unfold esc escL
  congr 1
  rw [List.flatMap_assoc, List.flatMap_assoc]
  congr 1
  funext c
  unfold escC
  by_cases a : c = 60
  · subst a; rfl
  by_cases b : c = 62
  · subst b; rfl
  by_cases d : c = 38
  · subst d; rfl
  simp [a, b, d]
theorem join0 (ys : List Str) : Txt.join ⟨#[]⟩ ys = sL (ys.map (·.cps.toList)).flatten := by
  refine sL_ext ?_
  rw [TL.join_eq, show (Str.join ⟨#[]⟩ ys).cps.toList = TL.tl (Str.join ⟨#[]⟩ ys) from rfl, TL.tl_join]
  show TL.joinL [] (ys.map TL.tl) = (ys.map TL.tl).flatten
  generalize ys.map TL.tl = l
  induction l with
  | nil => rfl
  | cons p r ih =>
    cases r with
    | nil => simp [TL.joinL]
    | cons q r =>
      show p ++ ([] ++ TL.joinL [] (q :: r)) = _
      rw [ih, List.nil_append]
      rfl
mutual
/-- the written document; b: no element without parts in short -/
def wr (b : Bool) : Tr → List Nat
  | .txt z => escL z.cps.toList
  | .el n cs => if cs.isEmpty && !b then [60] ++ n.cps.toList ++ [47, 62] else [60] ++ n.cps.toList ++ [62] ++ wrs b cs ++ [60, 47] ++ n.cps.toList ++ [62]
def wrs (b : Bool) : List Tr → List Nat
  | [] => []
  | c :: cs => wr b c ++ wrs b cs
end
theorem wrs_flat (b : Bool) : ∀ cs : List Tr, wrs b cs = (cs.map (wr b)).flatten
  | [] => by rw [wrs]; rfl
  | c :: cs => by rw [wrs, wrs_flat b cs, List.map_cons, List.flatten_cons]
theorem name_len {n : Str} (h : n ∈ fourNames) : n.cps.toList.length ≤ 12 := by
  have : fourNames.all (fun n => decide (n.cps.toList.length ≤ 12)) = true := by decide +kernel
  exact of_decide_eq_true (List.all_eq_true.mp this n h)
def bnd : Nat → Nat
  | 0 => 25
  | k + 1 => 29 + 3 * bnd k
theorem bnd_lo : ∀ k, 25 ≤ bnd k
  | 0 => Nat.le_refl _
  | k + 1 => by
    have := bnd_lo k
    rw [bnd]
    omega
theorem flat_le {m : Nat} : ∀ {l : List (List Nat)}, (∀ x ∈ l, x.length ≤ m) → l.flatten.length ≤ l.length * m
  | [], _ => by simp
  | x :: l, h => by
    have h1 := h x (List.mem_cons_self ..)
    have h2 := flat_le (l := l) fun y hy => h y (List.mem_cons_of_mem _ hy)
    rw [List.flatten_cons, List.length_append, List.length_cons, Nat.succ_mul]
    omega
theorem wr_len (b : Bool) : ∀ {k : Nat} {t : Tr}, okTr k t → (wr b t).length ≤ bnd k
  | k, .txt z, h => by
    have h' : okText 5 z := by cases k <;> exact h
    have h1 := escL_len z.cps.toList
    have h2 : z.cps.toList.length ≤ 5 := by rw [Array.length_toList]; exact h'.2.1
    have h3 := bnd_lo k
    rw [wr]
    omega
  | 0, .el _ _, h => h.elim
  | k + 1, .el n cs, h => by
    obtain ⟨h1, h2, _, h4⟩ := h
    have hn := name_len h1
    rw [wr]
    split
    · have := bnd_lo (k + 1)
      simp only [List.length_append, List.length_cons, List.length_nil]
      omega
    · have h5 : (wrs b cs).length ≤ 3 * bnd k := by
        rw [wrs_flat]
        have := flat_le (l := cs.map (wr b)) (m := bnd k) fun x hx => by
          obtain ⟨c, hc, rfl⟩ := List.mem_map.mp hx
          exact wr_len b (h4 c hc)
        rw [List.length_map] at this
        exact Nat.le_trans this (Nat.mul_le_mul_right _ h2)
      simp only [List.length_append, List.length_cons, List.length_nil]
      rw [bnd]
      omega
theorem bnd_le {k : Nat} (h : k ≤ 5) : bnd k ≤ 10000 := by
  have : ∀ k, k ≤ 5 → bnd k ≤ 10000 := by decide
  exact this k h
end Tp


set_option Elab.async false
set_option linter.all false
set_option maxRecDepth 100000
set_option maxHeartbeats 4000000
namespace Tp
open PySem PySem.Spec PyProof.Rows L2 Evl
/-! ### open elements, top first; the last one is the stack's own -/
mutual
/-- how many nodes a tree has -/
def nod : Tr → Nat
  | .txt _ => 1
  | .el _ cs => 1 + nods cs
def nods : List Tr → Nat
  | [] => 0
  | c :: cs => nod c + nods cs
end
theorem nod_pos : ∀ t : Tr, 1 ≤ nod t
  | .txt _ => by rw [nod]; exact Nat.le_refl _
  | .el _ cs => by rw [nod]; omega
def nb : Nat → Nat
  | 0 => 1
  | k + 1 => 1 + 3 * nb k
theorem nb_lo : ∀ k, 1 ≤ nb k
  | 0 => Nat.le_refl _
  | k + 1 => by rw [nb]; omega
theorem nods_le {m : Nat} : ∀ {cs : List Tr}, (∀ c ∈ cs, nod c ≤ m) → nods cs ≤ cs.length * m
  | [], _ => by rw [nods]; exact Nat.zero_le _
  | c :: cs, h => by
    have h1 := h c (List.mem_cons_self ..)
    have h2 := nods_le (cs := cs) fun y hy => h y (List.mem_cons_of_mem _ hy)
    rw [nods, List.length_cons, Nat.succ_mul]
    omega
theorem nod_le : ∀ {k : Nat} {t : Tr}, okTr k t → nod t ≤ nb k
  | k, .txt z, _ => by rw [nod]; exact nb_lo k
  | 0, .el _ _, h => h.elim
  | k + 1, .el n cs, h => by
    obtain ⟨_, h2, _, h4⟩ := h
    have h5 := nods_le (cs := cs) (m := nb k) fun c hc => nod_le (h4 c hc)
    rw [nod, nb]
    have := Nat.mul_le_mul_right (nb k) h2
    omega
structure Fr where
  t : Addr
  l : Addr
  n : Str
  vs : List V
  ds : List Tr
  rest : List Tr
/-- what is still to be read -/
def remF (b : Bool) : List Fr → List Nat
  | [] => []
  | [f] => wrs b f.rest
  | f :: g :: r => wrs b f.rest ++ 60 :: 47 :: (f.n.cps.toList ++ 62 :: remF b (g :: r))
theorem remF_cons {b : Bool} {f : Fr} {r : List Fr} {c : Tr} {rest : List Tr} (h : f.rest = c :: rest) (f' : Fr) (h' : f'.rest = rest) (hn : f'.n = f.n) : remF b (f :: r) = wr b c ++ remF b (f' :: r) := by
  cases r with
  | nil =>
    show wrs b f.rest = wr b c ++ wrs b f'.rest
    rw [h, h', wrs]
  | cons g r =>
    show wrs b f.rest ++ _ = wr b c ++ (wrs b f'.rest ++ _)
    rw [h, h', wrs, hn, List.append_assoc]
/-- the bottom's parts in the end, when mid stands between what the top has and what it gets -/
def finF (mid : List Tr) : List Fr → List Tr
  | [] => []
  | [f] => f.ds ++ mid ++ f.rest
  | f :: g :: r => finF [.el f.n (f.ds ++ mid ++ f.rest)] (g :: r)
theorem finF_eq {f g : Fr} {r : List Fr} {m m' : List Tr} (e : f.ds ++ m ++ f.rest = g.ds ++ m' ++ g.rest) (hn : f.n = g.n) : finF m (f :: r) = finF m' (g :: r) := by
  cases r with
  | nil => exact e
  | cons h r =>
    show finF [.el f.n (f.ds ++ m ++ f.rest)] (h :: r) = finF [.el g.n (g.ds ++ m' ++ g.rest)] (h :: r)
    rw [e, hn]
def nodF : List Fr → Nat
  | [] => 0
  | f :: r => nods f.rest + nodF r
def lastRest : List Fr → List Tr
  | [] => []
  | [f] => f.rest
  | _ :: g :: r => lastRest (g :: r)
/-- what f holds is data, whatever becomes of the places S -/
def Clo (K : PySem.W.Frag) (S : List Addr) (G : Hp) (vs : List V) (ds : List Tr) : Prop := ∀ G' : Hp, Kp S G G' → DpAll K G' vs (Tr.ds ds)
theorem Clo.step {K : PySem.W.Frag} {S : List Addr} {G G1 : Hp} {vs : List V} {ds : List Tr} (c : Clo K S G vs ds) (e : Kp S G G1) : Clo K S G1 vs ds := fun G' e' => c G' (e.trans e')
theorem Clo.less {K : PySem.W.Frag} {S S' : List Addr} {G : Hp} {vs : List V} {ds : List Tr} (c : Clo K S G vs ds) (h : ∀ a ∈ S', a ∈ S) : Clo K S' G vs ds := fun G' e' => c G' (e'.mono h)
/-- a new place may change too -/
theorem Clo.open {K : PySem.W.Frag} {S S1 : List Addr} {G G1 : Hp} {vs : List V} {ds : List Tr} {l : Addr} (c : Clo K S G vs ds) (e : Kp S G G1) (hl : G l = none) (hS : ∀ a ∈ S1, a = l ∨ a ∈ S) : Clo K S1 G1 vs ds := fun G' e' => c G' fun a o n h => by
  have hal : a ≠ l := fun z => by rw [z, hl] at h; cases h
  exact e' a o (fun z => by
    rcases hS a z with z | z
    · exact hal z
    · exact n z) (e a o n h)
theorem ds_app (as bs : List Tr) : Tr.ds (as ++ bs) = Tr.ds as ++ Tr.ds bs := by rw [ds_map, ds_map, ds_map, List.map_append]
/-- one frame, p: a part of it is open -/
structure FrOK (K : PySem.W.Frag) (H0 : Hp) (S : List Addr) (G : Hp) (p : Nat) (above : List V) (f : Fr) (r : List Fr) : Prop where
  t : G f.t = some (.tup [.str f.n, .ref f.l])
  l : G f.l = some (.lst (f.vs ++ above))
  c : Clo K S G f.vs f.ds
  few : f.ds.length + f.rest.length + p ≤ 3
  ap : apartT f.rest
  ok : ∀ c ∈ f.rest, okTr (5 - r.length) c
  n : r ≠ [] → f.n ∈ fourNames
  h : H0 f.l = none
def FrsOK (K : PySem.W.Frag) (H0 : Hp) (S : List Addr) (G : Hp) : Nat → List V → List Fr → Prop
  | _, _, [] => True
  | p, above, f :: r => FrOK K H0 S G p above f r ∧ FrsOK K H0 S G 1 [.ref f.t] r
theorem FrOK.step {K : PySem.W.Frag} {H0 : Hp} {S S1 S' : List Addr} {G G1 : Hp} {p : Nat} {above : List V} {f : Fr} {r : List Fr} (h : FrOK K H0 S G p above f r) (e : Kp S' G G1) (hl : f.l ∉ S') (ht : ∀ a ∈ S', ∀ xs, G a ≠ some (.tup xs)) (hC : ∀ vs ds, Clo K S G vs ds → Clo K S1 G1 vs ds) : FrOK K H0 S1 G1 p above f r :=
  ⟨e.at h.t fun z => ht _ z _ h.t, e.at h.l hl, hC _ _ h.c, h.few, h.ap, h.ok, h.n, h.h⟩
theorem FrsOK.step {K : PySem.W.Frag} {H0 : Hp} {S S1 S' : List Addr} {G G1 : Hp} (e : Kp S' G G1) (ht : ∀ a ∈ S', ∀ xs, G a ≠ some (.tup xs)) (hC : ∀ vs ds, Clo K S G vs ds → Clo K S1 G1 vs ds) :
    ∀ {r : List Fr} {p : Nat} {above : List V}, (∀ f ∈ r, f.l ∉ S') → FrsOK K H0 S G p above r → FrsOK K H0 S1 G1 p above r
  | [], _, _, _, _ => trivial
  | f :: r, _, _, hl, ⟨h1, h2⟩ => ⟨h1.step e (hl f (List.mem_cons_self ..)) ht hC, FrsOK.step e ht hC (fun g hg => hl g (List.mem_cons_of_mem _ hg)) h2⟩
/-- behind a text stands a tag -/
theorem behind_txt {b : Bool} {z : Str} {rest : List Tr} (h : apartT (.txt z :: rest)) (l : List Nat) : ∃ l', wrs b rest ++ 60 :: l = 60 :: l' := by
  cases rest with
  | nil => exact ⟨l, by rw [wrs]; rfl⟩
  | cons c r =>
    cases c with
    | txt y => exact absurd ⟨rfl, rfl⟩ h.1
    | el n cs =>
      rw [wrs, wr]
      split
      · exact ⟨_, rfl⟩
      · exact ⟨_, rfl⟩
theorem apartT_tail {c : Tr} {r : List Tr} (h : apartT (c :: r)) : apartT r := by
  cases r with
  | nil => trivial
  | cons d r => exact h.2
end Tp

namespace Tp
open PySem PySem.Spec PyProof.Rows L2 Evl
/-! ### the text by places, the facts -/
def top (i : Nat) : Stmt := PySem.Challenge.pw_topiary_k18_documents_written_and_read.main.body.getD i (.Pass ⟨0, 0, 0, 0⟩)
abbrev s_TextError_init : Stmt := inClass (top 2) 0
abbrev N_TextError_init : List Str := ["self", "line", "column", "reason"]
abbrev ps_TextError_init : List Str := ["self", "line", "column", "reason"]
abbrev at_TextError_init : Str × Option Str := ("TextError", some "__init__")
theorem sc_TextError_init : FnScope N_TextError_init ps_TextError_init (defScope s_TextError_init) := ⟨rfl, rfl, rfl, by decide +kernel, rfl, by decide +kernel, by decide +kernel⟩
def d_TextError_init : He.DefD := ⟨at_TextError_init, "__init__", "TextError.__init__", defArgs s_TextError_init, defBody s_TextError_init, defScope s_TextError_init, [], []⟩
abbrev s_TooLarge_init : Stmt := inClass (top 3) 0
abbrev N_TooLarge_init : List Str := ["self", "limit"]
abbrev ps_TooLarge_init : List Str := ["self", "limit"]
abbrev at_TooLarge_init : Str × Option Str := ("TooLarge", some "__init__")
theorem sc_TooLarge_init : FnScope N_TooLarge_init ps_TooLarge_init (defScope s_TooLarge_init) := ⟨rfl, rfl, rfl, by decide +kernel, rfl, by decide +kernel, by decide +kernel⟩
def d_TooLarge_init : He.DefD := ⟨at_TooLarge_init, "__init__", "TooLarge.__init__", defArgs s_TooLarge_init, defBody s_TooLarge_init, defScope s_TooLarge_init, [], []⟩
abbrev s_is_sign : Stmt := top 5
abbrev N_is_sign : List Str := ["character"]
abbrev ps_is_sign : List Str := ["character"]
abbrev at_is_sign : Str × Option Str := ("is_sign", none)
theorem sc_is_sign : FnScope N_is_sign ps_is_sign (defScope s_is_sign) := ⟨rfl, rfl, rfl, by decide +kernel, rfl, by decide +kernel, by decide +kernel⟩
def d_is_sign : He.DefD := ⟨at_is_sign, "is_sign", "is_sign", defArgs s_is_sign, defBody s_is_sign, defScope s_is_sign, [], []⟩
abbrev s_is_letter : Stmt := top 6
abbrev N_is_letter : List Str := ["character"]
abbrev ps_is_letter : List Str := ["character"]
abbrev at_is_letter : Str × Option Str := ("is_letter", none)
theorem sc_is_letter : FnScope N_is_letter ps_is_letter (defScope s_is_letter) := ⟨rfl, rfl, rfl, by decide +kernel, rfl, by decide +kernel, by decide +kernel⟩
def d_is_letter : He.DefD := ⟨at_is_letter, "is_letter", "is_letter", defArgs s_is_letter, defBody s_is_letter, defScope s_is_letter, [], []⟩
abbrev s__refuse : Stmt := top 14
abbrev N__refuse : List Str := ["text", "place", "reason", "line", "column"]
abbrev ps__refuse : List Str := ["text", "place", "reason"]
abbrev at__refuse : Str × Option Str := ("_refuse", none)
theorem sc__refuse : FnScope N__refuse ps__refuse (defScope s__refuse) := ⟨rfl, rfl, rfl, by decide +kernel, rfl, by decide +kernel, by decide +kernel⟩
def d__refuse : He.DefD := ⟨at__refuse, "_refuse", "_refuse", defArgs s__refuse, defBody s__refuse, defScope s__refuse, [], []⟩
abbrev s_Reading_init : Stmt := inClass (top 15) 0
abbrev N_Reading_init : List Str := ["self", "source"]
abbrev ps_Reading_init : List Str := ["self", "source"]
abbrev at_Reading_init : Str × Option Str := ("Reading", some "__init__")
theorem sc_Reading_init : FnScope N_Reading_init ps_Reading_init (defScope s_Reading_init) := ⟨rfl, rfl, rfl, by decide +kernel, rfl, by decide +kernel, by decide +kernel⟩
def d_Reading_init : He.DefD := ⟨at_Reading_init, "__init__", "Reading.__init__", defArgs s_Reading_init, defBody s_Reading_init, defScope s_Reading_init, [], []⟩
abbrev s_Reading_begins : Stmt := inClass (top 15) 1
abbrev N_Reading_begins : List Str := ["self", "word"]
abbrev ps_Reading_begins : List Str := ["self", "word"]
abbrev at_Reading_begins : Str × Option Str := ("Reading", some "begins")
theorem sc_Reading_begins : FnScope N_Reading_begins ps_Reading_begins (defScope s_Reading_begins) := ⟨rfl, rfl, rfl, by decide +kernel, rfl, by decide +kernel, by decide +kernel⟩
def d_Reading_begins : He.DefD := ⟨at_Reading_begins, "begins", "Reading.begins", defArgs s_Reading_begins, defBody s_Reading_begins, defScope s_Reading_begins, [], []⟩
abbrev s_Reading_read_root : Stmt := inClass (top 15) 2
abbrev N_Reading_read_root : List Str := ["self"]
abbrev ps_Reading_read_root : List Str := ["self"]
abbrev at_Reading_read_root : Str × Option Str := ("Reading", some "read_root")
theorem sc_Reading_read_root : FnScope N_Reading_read_root ps_Reading_read_root (defScope s_Reading_read_root) := ⟨rfl, rfl, rfl, by decide +kernel, rfl, by decide +kernel, by decide +kernel⟩
def d_Reading_read_root : He.DefD := ⟨at_Reading_read_root, "read_root", "Reading.read_root", defArgs s_Reading_read_root, defBody s_Reading_read_root, defScope s_Reading_read_root, [], []⟩
abbrev s_Reading_read_part : Stmt := inClass (top 15) 3
abbrev N_Reading_read_part : List Str := ["self"]
abbrev ps_Reading_read_part : List Str := ["self"]
abbrev at_Reading_read_part : Str × Option Str := ("Reading", some "read_part")
theorem sc_Reading_read_part : FnScope N_Reading_read_part ps_Reading_read_part (defScope s_Reading_read_part) := ⟨rfl, rfl, rfl, by decide +kernel, rfl, by decide +kernel, by decide +kernel⟩
def d_Reading_read_part : He.DefD := ⟨at_Reading_read_part, "read_part", "Reading.read_part", defArgs s_Reading_read_part, defBody s_Reading_read_part, defScope s_Reading_read_part, [], []⟩
abbrev s_Reading_read_begin_tag : Stmt := inClass (top 15) 4
abbrev N_Reading_read_begin_tag : List Str := ["self", "element"]
abbrev ps_Reading_read_begin_tag : List Str := ["self"]
abbrev at_Reading_read_begin_tag : Str × Option Str := ("Reading", some "read_begin_tag")
theorem sc_Reading_read_begin_tag : FnScope N_Reading_read_begin_tag ps_Reading_read_begin_tag (defScope s_Reading_read_begin_tag) := ⟨rfl, rfl, rfl, by decide +kernel, rfl, by decide +kernel, by decide +kernel⟩
def d_Reading_read_begin_tag : He.DefD := ⟨at_Reading_read_begin_tag, "read_begin_tag", "Reading.read_begin_tag", defArgs s_Reading_read_begin_tag, defBody s_Reading_read_begin_tag, defScope s_Reading_read_begin_tag, [], []⟩
abbrev s_Reading_read_end_tag : Stmt := inClass (top 15) 5
abbrev N_Reading_read_end_tag : List Str := ["self", "start", "name", "due", "is_cut"]
abbrev ps_Reading_read_end_tag : List Str := ["self"]
abbrev at_Reading_read_end_tag : Str × Option Str := ("Reading", some "read_end_tag")
theorem sc_Reading_read_end_tag : FnScope N_Reading_read_end_tag ps_Reading_read_end_tag (defScope s_Reading_read_end_tag) := ⟨rfl, rfl, rfl, by decide +kernel, rfl, by decide +kernel, by decide +kernel⟩
def d_Reading_read_end_tag : He.DefD := ⟨at_Reading_read_end_tag, "read_end_tag", "Reading.read_end_tag", defArgs s_Reading_read_end_tag, defBody s_Reading_read_end_tag, defScope s_Reading_read_end_tag, [], []⟩
abbrev s_Reading_read_name : Stmt := inClass (top 15) 6
abbrev N_Reading_read_name : List Str := ["self", "start", "place"]
abbrev ps_Reading_read_name : List Str := ["self", "start"]
abbrev at_Reading_read_name : Str × Option Str := ("Reading", some "read_name")
theorem sc_Reading_read_name : FnScope N_Reading_read_name ps_Reading_read_name (defScope s_Reading_read_name) := ⟨rfl, rfl, rfl, by decide +kernel, rfl, by decide +kernel, by decide +kernel⟩
def d_Reading_read_name : He.DefD := ⟨at_Reading_read_name, "read_name", "Reading.read_name", defArgs s_Reading_read_name, defBody s_Reading_read_name, defScope s_Reading_read_name, [], []⟩
abbrev s_Reading_read_tag_end : Stmt := inClass (top 15) 7
abbrev N_Reading_read_tag_end : List Str := ["self"]
abbrev ps_Reading_read_tag_end : List Str := ["self"]
abbrev at_Reading_read_tag_end : Str × Option Str := ("Reading", some "read_tag_end")
theorem sc_Reading_read_tag_end : FnScope N_Reading_read_tag_end ps_Reading_read_tag_end (defScope s_Reading_read_tag_end) := ⟨rfl, rfl, rfl, by decide +kernel, rfl, by decide +kernel, by decide +kernel⟩
def d_Reading_read_tag_end : He.DefD := ⟨at_Reading_read_tag_end, "read_tag_end", "Reading.read_tag_end", defArgs s_Reading_read_tag_end, defBody s_Reading_read_tag_end, defScope s_Reading_read_tag_end, [], []⟩
abbrev s_Reading_read_text : Stmt := inClass (top 15) 8
abbrev N_Reading_read_text : List Str := ["self", "signs", "written", "sign"]
abbrev ps_Reading_read_text : List Str := ["self"]
abbrev at_Reading_read_text : Str × Option Str := ("Reading", some "read_text")
theorem sc_Reading_read_text : FnScope N_Reading_read_text ps_Reading_read_text (defScope s_Reading_read_text) := ⟨rfl, rfl, rfl, by decide +kernel, rfl, by decide +kernel, by decide +kernel⟩
def d_Reading_read_text : He.DefD := ⟨at_Reading_read_text, "read_text", "Reading.read_text", defArgs s_Reading_read_text, defBody s_Reading_read_text, defScope s_Reading_read_text, [], []⟩
abbrev s_Reading_next_sign : Stmt := inClass (top 15) 9
abbrev N_Reading_next_sign : List Str := ["self", "written", "sign", "place"]
abbrev ps_Reading_next_sign : List Str := ["self"]
abbrev at_Reading_next_sign : Str × Option Str := ("Reading", some "next_sign")
theorem sc_Reading_next_sign : FnScope N_Reading_next_sign ps_Reading_next_sign (defScope s_Reading_next_sign) := ⟨rfl, rfl, rfl, by decide +kernel, rfl, by decide +kernel, by decide +kernel⟩
def d_Reading_next_sign : He.DefD := ⟨at_Reading_next_sign, "next_sign", "Reading.next_sign", defArgs s_Reading_next_sign, defBody s_Reading_next_sign, defScope s_Reading_next_sign, [], []⟩
abbrev s_Reading_count_node : Stmt := inClass (top 15) 10
abbrev N_Reading_count_node : List Str := ["self"]
abbrev ps_Reading_count_node : List Str := ["self"]
abbrev at_Reading_count_node : Str × Option Str := ("Reading", some "count_node")
theorem sc_Reading_count_node : FnScope N_Reading_count_node ps_Reading_count_node (defScope s_Reading_count_node) := ⟨rfl, rfl, rfl, by decide +kernel, rfl, by decide +kernel, by decide +kernel⟩
def d_Reading_count_node : He.DefD := ⟨at_Reading_count_node, "count_node", "Reading.count_node", defArgs s_Reading_count_node, defBody s_Reading_count_node, defScope s_Reading_count_node, [], []⟩
abbrev s_read_document : Stmt := top 16
abbrev N_read_document : List Str := ["text", "reading"]
abbrev ps_read_document : List Str := ["text"]
abbrev at_read_document : Str × Option Str := ("read_document", none)
theorem sc_read_document : FnScope N_read_document ps_read_document (defScope s_read_document) := ⟨rfl, rfl, rfl, by decide +kernel, rfl, by decide +kernel, by decide +kernel⟩
def d_read_document : He.DefD := ⟨at_read_document, "read_document", "read_document", defArgs s_read_document, defBody s_read_document, defScope s_read_document, [], []⟩
abbrev s__written : Stmt := top 18
abbrev N__written : List Str := ["text"]
abbrev ps__written : List Str := ["text"]
abbrev at__written : Str × Option Str := ("_written", none)
theorem sc__written : FnScope N__written ps__written (defScope s__written) := ⟨rfl, rfl, rfl, by decide +kernel, rfl, by decide +kernel, by decide +kernel⟩
def d__written : He.DefD := ⟨at__written, "_written", "_written", defArgs s__written, defBody s__written, defScope s__written, [], []⟩
abbrev s_write_document : Stmt := top 19
abbrev N_write_document : List Str := ["tree", "parts", "waiting", "node", "is_ending", "child"]
abbrev ps_write_document : List Str := ["tree"]
abbrev at_write_document : Str × Option Str := ("write_document", none)
theorem sc_write_document : FnScope N_write_document ps_write_document (defScope s_write_document) := ⟨rfl, rfl, rfl, by decide +kernel, rfl, by decide +kernel, by decide +kernel⟩
def d_write_document : He.DefD := ⟨at_write_document, "write_document", "write_document", defArgs s_write_document, defBody s_write_document, defScope s_write_document, [], []⟩
abbrev s__law_draws : Stmt := top 21
abbrev N__law_draws : List Str := ["script", "draws", "cell", "seed", "k", "number", "first"]
abbrev ps__law_draws : List Str := ["script"]
abbrev at__law_draws : Str × Option Str := ("_law_draws", none)
theorem sc__law_draws : FnScope N__law_draws ps__law_draws (defScope s__law_draws) := ⟨rfl, rfl, rfl, by decide +kernel, rfl, by decide +kernel, by decide +kernel⟩
def d__law_draws : He.DefD := ⟨at__law_draws, "_law_draws", "_law_draws", defArgs s__law_draws, defBody s__law_draws, defScope s__law_draws, [], []⟩
abbrev s__law_take : Stmt := top 22
abbrev N__law_take : List Str := ["draws", "bound"]
abbrev ps__law_take : List Str := ["draws", "bound"]
abbrev at__law_take : Str × Option Str := ("_law_take", none)
theorem sc__law_take : FnScope N__law_take ps__law_take (defScope s__law_take) := ⟨rfl, rfl, rfl, by decide +kernel, rfl, by decide +kernel, by decide +kernel⟩
def d__law_take : He.DefD := ⟨at__law_take, "_law_take", "_law_take", defArgs s__law_take, defBody s__law_take, defScope s__law_take, [], []⟩
abbrev s__law_same : Stmt := top 23
abbrev N__law_same : List Str := ["actual", "due", "k"]
abbrev ps__law_same : List Str := ["actual", "due"]
abbrev at__law_same : Str × Option Str := ("_law_same", none)
theorem sc__law_same : FnScope N__law_same ps__law_same (defScope s__law_same) := ⟨rfl, rfl, rfl, by decide +kernel, rfl, by decide +kernel, by decide +kernel⟩
def d__law_same : He.DefD := ⟨at__law_same, "_law_same", "_law_same", defArgs s__law_same, defBody s__law_same, defScope s__law_same, [], []⟩
abbrev s__law_string : Stmt := top 24
abbrev N__law_string : List Str := ["draws", "most", "signs", "string", "k"]
abbrev ps__law_string : List Str := ["draws", "most"]
abbrev at__law_string : Str × Option Str := ("_law_string", none)
theorem sc__law_string : FnScope N__law_string ps__law_string (defScope s__law_string) := ⟨rfl, rfl, rfl, by decide +kernel, rfl, by decide +kernel, by decide +kernel⟩
def d__law_string : He.DefD := ⟨at__law_string, "_law_string", "_law_string", defArgs s__law_string, defBody s__law_string, defScope s__law_string, [], []⟩
abbrev s__law_tree : Stmt := top 25
abbrev N__law_tree : List Str := ["draws", "depth", "names", "children", "many", "k", "beside"]
abbrev ps__law_tree : List Str := ["draws", "depth", "names"]
abbrev at__law_tree : Str × Option Str := ("_law_tree", none)
theorem sc__law_tree : FnScope N__law_tree ps__law_tree (defScope s__law_tree) := ⟨rfl, rfl, rfl, by decide +kernel, rfl, by decide +kernel, by decide +kernel⟩
def d__law_tree : He.DefD := ⟨at__law_tree, "_law_tree", "_law_tree", defArgs s__law_tree, defBody s__law_tree, defScope s__law_tree, [], []⟩
abbrev s__law_names : Stmt := top 26
abbrev N__law_names : List Str := ["draws"]
abbrev ps__law_names : List Str := ["draws"]
abbrev at__law_names : Str × Option Str := ("_law_names", none)
theorem sc__law_names : FnScope N__law_names ps__law_names (defScope s__law_names) := ⟨rfl, rfl, rfl, by decide +kernel, rfl, by decide +kernel, by decide +kernel⟩
def d__law_names : He.DefD := ⟨at__law_names, "_law_names", "_law_names", defArgs s__law_names, defBody s__law_names, defScope s__law_names, [], []⟩
abbrev s__law_escaped : Stmt := top 27
abbrev N__law_escaped : List Str := ["string", "signs", "letter"]
abbrev ps__law_escaped : List Str := ["string"]
abbrev at__law_escaped : Str × Option Str := ("_law_escaped", none)
theorem sc__law_escaped : FnScope N__law_escaped ps__law_escaped (defScope s__law_escaped) := ⟨rfl, rfl, rfl, by decide +kernel, rfl, by decide +kernel, by decide +kernel⟩
def d__law_escaped : He.DefD := ⟨at__law_escaped, "_law_escaped", "_law_escaped", defArgs s__law_escaped, defBody s__law_escaped, defScope s__law_escaped, [], []⟩
abbrev s__law_written : Stmt := top 28
abbrev N__law_written : List Str := ["tree", "loose", "inner", "child"]
abbrev ps__law_written : List Str := ["tree", "loose"]
abbrev at__law_written : Str × Option Str := ("_law_written", none)
theorem sc__law_written : FnScope N__law_written ps__law_written (defScope s__law_written) := ⟨rfl, rfl, rfl, by decide +kernel, rfl, by decide +kernel, by decide +kernel⟩
def d__law_written : He.DefD := ⟨at__law_written, "_law_written", "_law_written", defArgs s__law_written, defBody s__law_written, defScope s__law_written, [], []⟩
abbrev s_law : Stmt := top 29
abbrev N_law : List Str := ["script", "draws", "tree", "text", "string"]
abbrev ps_law : List Str := ["script"]
abbrev at_law : Str × Option Str := ("law", none)
theorem sc_law : FnScope N_law ps_law (defScope s_law) := ⟨rfl, rfl, rfl, by decide +kernel, rfl, by decide +kernel, by decide +kernel⟩
def d_law : He.DefD := ⟨at_law, "law", "law", defArgs s_law, defBody s_law, defScope s_law, [], []⟩
def fn : List He.DefD := [d_TextError_init, d_TooLarge_init, d_is_sign, d_is_letter, d__refuse, d_Reading_init, d_Reading_begins, d_Reading_read_root, d_Reading_read_part, d_Reading_read_begin_tag, d_Reading_read_end_tag, d_Reading_read_name, d_Reading_read_tag_end, d_Reading_read_text, d_Reading_next_sign, d_Reading_count_node, d_read_document, d__written, d_write_document, d__law_draws, d__law_take, d__law_same, d__law_string, d__law_tree, d__law_names, d__law_escaped, d__law_written, d_law]
def fa : List He.Fa := [.free "len", .free "range", .free "int", .free "str", .free "list", .free "tuple", .free "bool", .free "reversed", .free "isinstance", .free "abs", .free "ValueError", .glo "TopiaryError", .glo "TextError", .noat "TextError" "line", .noat "TextError" "column", .noat "TextError" "reason", .glo "TooLarge", .noat "TooLarge" "limit", .glo "Reading", .noat "Reading" "source", .noat "Reading" "reached", .noat "Reading" "nodes", .noat "Reading" "stack", .cls "Reading", .mkr "Reading", .meth "Reading" "begins", .meth "Reading" "read_root", .meth "Reading" "read_part", .meth "Reading" "read_begin_tag", .meth "Reading" "read_end_tag", .meth "Reading" "read_name", .meth "Reading" "read_tag_end", .meth "Reading" "read_text", .meth "Reading" "next_sign", .meth "Reading" "count_node", .int "NAME_LETTERS" 12, .int "TEXT_CHARACTERS" 200, .int "MOST_NODES" 5000, .int "MOST_DEPTH" 60, .int "MOST_CHARACTERS" 200000, .glo "WRITTEN_SIGNS", .glo "is_sign", .glo "is_letter", .glo "_refuse", .glo "read_document", .glo "_written", .glo "write_document", .glo "_law_draws", .glo "_law_take", .glo "_law_same", .glo "_law_string", .glo "_law_tree", .glo "_law_names", .glo "_law_escaped", .glo "_law_written", .glo "law"]
def fx : List Fx := [.exc "TextError", .ini "TextError", .exc "TooLarge", .ini "TooLarge", .tups "WRITTEN_SIGNS" [["&lt;", "<"], ["&gt;", ">"], ["&amp;", "&"]]]
abbrev TX (K : PySem.W.Frag) (mg : Str → Option Value) : Prop := Txt fa fn fx K mg
theorem TX.n_len {K : PySem.W.Frag} {mg : Str → Option Value} (T : TX K mg) : mg "len" = none := T.no 0 _ rfl
theorem TX.n_range {K : PySem.W.Frag} {mg : Str → Option Value} (T : TX K mg) : mg "range" = none := T.no 1 _ rfl
theorem TX.n_int {K : PySem.W.Frag} {mg : Str → Option Value} (T : TX K mg) : mg "int" = none := T.no 2 _ rfl
theorem TX.n_str {K : PySem.W.Frag} {mg : Str → Option Value} (T : TX K mg) : mg "str" = none := T.no 3 _ rfl
theorem TX.n_list {K : PySem.W.Frag} {mg : Str → Option Value} (T : TX K mg) : mg "list" = none := T.no 4 _ rfl
theorem TX.n_tuple {K : PySem.W.Frag} {mg : Str → Option Value} (T : TX K mg) : mg "tuple" = none := T.no 5 _ rfl
theorem TX.n_bool {K : PySem.W.Frag} {mg : Str → Option Value} (T : TX K mg) : mg "bool" = none := T.no 6 _ rfl
theorem TX.n_reversed {K : PySem.W.Frag} {mg : Str → Option Value} (T : TX K mg) : mg "reversed" = none := T.no 7 _ rfl
theorem TX.n_isinstance {K : PySem.W.Frag} {mg : Str → Option Value} (T : TX K mg) : mg "isinstance" = none := T.no 8 _ rfl
theorem TX.n_abs {K : PySem.W.Frag} {mg : Str → Option Value} (T : TX K mg) : mg "abs" = none := T.no 9 _ rfl
theorem TX.n_ValueError {K : PySem.W.Frag} {mg : Str → Option Value} (T : TX K mg) : mg "ValueError" = none := T.no 10 _ rfl
theorem TX.g_TopiaryError {K : PySem.W.Frag} {mg : Str → Option Value} (T : TX K mg) : mg "TopiaryError" = some (.ref (He.ga K "TopiaryError")) := T.gl 11 _ rfl
theorem TX.g_TextError {K : PySem.W.Frag} {mg : Str → Option Value} (T : TX K mg) : mg "TextError" = some (.ref (He.ga K "TextError")) := T.gl 12 _ rfl
theorem TX.na_TextError_line {K : PySem.W.Frag} {mg : Str → Option Value} (T : TX K mg) : NoAttr K (He.ga K "TextError") "line" := He.noat_ok (T.f 13 _ rfl)
theorem TX.na_TextError_column {K : PySem.W.Frag} {mg : Str → Option Value} (T : TX K mg) : NoAttr K (He.ga K "TextError") "column" := He.noat_ok (T.f 14 _ rfl)
theorem TX.na_TextError_reason {K : PySem.W.Frag} {mg : Str → Option Value} (T : TX K mg) : NoAttr K (He.ga K "TextError") "reason" := He.noat_ok (T.f 15 _ rfl)
theorem TX.ox_TextError {K : PySem.W.Frag} {mg : Str → Option Value} (T : TX K mg) : OexC K (He.ga K "TextError") := excB_ok (T.x 0 _ rfl)
theorem TX.oi_TextError {K : PySem.W.Frag} {mg : Str → Option Value} (T : TX K mg) : PySem.W.findIn K (.ref (He.ga K "TextError")) "__init__" = some (some (.ref (He.ma K (He.ga K "TextError") "__init__"))) := (iniB_ok (T.x 1 _ rfl)).1
theorem TX.ot_TextError {K : PySem.W.Frag} {mg : Str → Option Value} (T : TX K mg) : PySem.W.typeIn K (.ref (He.ma K (He.ga K "TextError") "__init__")) = some (.type "function") := (iniB_ok (T.x 1 _ rfl)).2
theorem TX.g_TooLarge {K : PySem.W.Frag} {mg : Str → Option Value} (T : TX K mg) : mg "TooLarge" = some (.ref (He.ga K "TooLarge")) := T.gl 16 _ rfl
theorem TX.na_TooLarge_limit {K : PySem.W.Frag} {mg : Str → Option Value} (T : TX K mg) : NoAttr K (He.ga K "TooLarge") "limit" := He.noat_ok (T.f 17 _ rfl)
theorem TX.ox_TooLarge {K : PySem.W.Frag} {mg : Str → Option Value} (T : TX K mg) : OexC K (He.ga K "TooLarge") := excB_ok (T.x 2 _ rfl)
theorem TX.oi_TooLarge {K : PySem.W.Frag} {mg : Str → Option Value} (T : TX K mg) : PySem.W.findIn K (.ref (He.ga K "TooLarge")) "__init__" = some (some (.ref (He.ma K (He.ga K "TooLarge") "__init__"))) := (iniB_ok (T.x 3 _ rfl)).1
theorem TX.ot_TooLarge {K : PySem.W.Frag} {mg : Str → Option Value} (T : TX K mg) : PySem.W.typeIn K (.ref (He.ma K (He.ga K "TooLarge") "__init__")) = some (.type "function") := (iniB_ok (T.x 3 _ rfl)).2
theorem TX.g_Reading {K : PySem.W.Frag} {mg : Str → Option Value} (T : TX K mg) : mg "Reading" = some (.ref (He.ga K "Reading")) := T.gl 18 _ rfl
theorem TX.na_Reading_source {K : PySem.W.Frag} {mg : Str → Option Value} (T : TX K mg) : NoAttr K (He.ga K "Reading") "source" := He.noat_ok (T.f 19 _ rfl)
theorem TX.na_Reading_reached {K : PySem.W.Frag} {mg : Str → Option Value} (T : TX K mg) : NoAttr K (He.ga K "Reading") "reached" := He.noat_ok (T.f 20 _ rfl)
theorem TX.na_Reading_nodes {K : PySem.W.Frag} {mg : Str → Option Value} (T : TX K mg) : NoAttr K (He.ga K "Reading") "nodes" := He.noat_ok (T.f 21 _ rfl)
theorem TX.na_Reading_stack {K : PySem.W.Frag} {mg : Str → Option Value} (T : TX K mg) : NoAttr K (He.ga K "Reading") "stack" := He.noat_ok (T.f 22 _ rfl)
abbrev flds_Reading (a0 a1 a2 a3 : V) : List (Str × V) := [("source", a0), ("reached", a1), ("nodes", a2), ("stack", a3)]
theorem fl_Reading_source (a0 a1 a2 a3 : V) : (flds_Reading a0 a1 a2 a3).lookup ("source" : Str) = some a0 := fld_at (ks := ["source", "reached", "nodes", "stack"]) 0 rfl rfl (by decide +kernel)
theorem pf_Reading_reached (a0 x : V) : putF "reached" x ([("source", a0)] : List (Str × V)) = ([("source", a0), ("reached", x)] : List (Str × V)) := putF_app (ks := ["source"]) rfl (by decide +kernel)
theorem fl_Reading_reached (a0 a1 a2 a3 : V) : (flds_Reading a0 a1 a2 a3).lookup ("reached" : Str) = some a1 := fld_at (ks := ["source", "reached", "nodes", "stack"]) 1 rfl rfl (by decide +kernel)
theorem pf_Reading_nodes (a0 a1 x : V) : putF "nodes" x ([("source", a0), ("reached", a1)] : List (Str × V)) = ([("source", a0), ("reached", a1), ("nodes", x)] : List (Str × V)) := putF_app (ks := ["source", "reached"]) rfl (by decide +kernel)
theorem fl_Reading_nodes (a0 a1 a2 a3 : V) : (flds_Reading a0 a1 a2 a3).lookup ("nodes" : Str) = some a2 := fld_at (ks := ["source", "reached", "nodes", "stack"]) 2 rfl rfl (by decide +kernel)
theorem pf_Reading_stack (a0 a1 a2 x : V) : putF "stack" x ([("source", a0), ("reached", a1), ("nodes", a2)] : List (Str × V)) = ([("source", a0), ("reached", a1), ("nodes", a2), ("stack", x)] : List (Str × V)) := putF_app (ks := ["source", "reached", "nodes"]) rfl (by decide +kernel)
theorem fl_Reading_stack (a0 a1 a2 a3 : V) : (flds_Reading a0 a1 a2 a3).lookup ("stack" : Str) = some a3 := fld_at (ks := ["source", "reached", "nodes", "stack"]) 3 rfl rfl (by decide +kernel)
theorem fn_Reading_begins (a0 a1 a2 a3 : V) : (flds_Reading a0 a1 a2 a3).lookup ("begins" : Str) = none := fld_no (ks := ["source", "reached", "nodes", "stack"]) rfl (by decide +kernel)
theorem fn_Reading_read_root (a0 a1 a2 a3 : V) : (flds_Reading a0 a1 a2 a3).lookup ("read_root" : Str) = none := fld_no (ks := ["source", "reached", "nodes", "stack"]) rfl (by decide +kernel)
theorem fn_Reading_read_part (a0 a1 a2 a3 : V) : (flds_Reading a0 a1 a2 a3).lookup ("read_part" : Str) = none := fld_no (ks := ["source", "reached", "nodes", "stack"]) rfl (by decide +kernel)
theorem fn_Reading_read_begin_tag (a0 a1 a2 a3 : V) : (flds_Reading a0 a1 a2 a3).lookup ("read_begin_tag" : Str) = none := fld_no (ks := ["source", "reached", "nodes", "stack"]) rfl (by decide +kernel)
theorem fn_Reading_read_end_tag (a0 a1 a2 a3 : V) : (flds_Reading a0 a1 a2 a3).lookup ("read_end_tag" : Str) = none := fld_no (ks := ["source", "reached", "nodes", "stack"]) rfl (by decide +kernel)
theorem fn_Reading_read_name (a0 a1 a2 a3 : V) : (flds_Reading a0 a1 a2 a3).lookup ("read_name" : Str) = none := fld_no (ks := ["source", "reached", "nodes", "stack"]) rfl (by decide +kernel)
theorem fn_Reading_read_tag_end (a0 a1 a2 a3 : V) : (flds_Reading a0 a1 a2 a3).lookup ("read_tag_end" : Str) = none := fld_no (ks := ["source", "reached", "nodes", "stack"]) rfl (by decide +kernel)
theorem fn_Reading_read_text (a0 a1 a2 a3 : V) : (flds_Reading a0 a1 a2 a3).lookup ("read_text" : Str) = none := fld_no (ks := ["source", "reached", "nodes", "stack"]) rfl (by decide +kernel)
theorem fn_Reading_next_sign (a0 a1 a2 a3 : V) : (flds_Reading a0 a1 a2 a3).lookup ("next_sign" : Str) = none := fld_no (ks := ["source", "reached", "nodes", "stack"]) rfl (by decide +kernel)
theorem fn_Reading_count_node (a0 a1 a2 a3 : V) : (flds_Reading a0 a1 a2 a3).lookup ("count_node" : Str) = none := fld_no (ks := ["source", "reached", "nodes", "stack"]) rfl (by decide +kernel)
theorem TX.cl_Reading {K : PySem.W.Frag} {mg : Str → Option Value} (T : TX K mg) : Cls K (He.ga K "Reading") := He.cls_ok (T.f 23 _ rfl)
theorem TX.m_Reading {K : PySem.W.Frag} {mg : Str → Option Value} (T : TX K mg) : Mk K (He.ga K "Reading") (He.ma K (He.ga K "Reading") "__init__") := He.mkr_ok (T.f 24 _ rfl)
theorem TX.me_Reading_begins {K : PySem.W.Frag} {mg : Str → Option Value} (T : TX K mg) : Meth K (He.ga K "Reading") "begins" (He.ma K (He.ga K "Reading") "begins") := He.meth_ok (T.f 25 _ rfl)
theorem TX.me_Reading_read_root {K : PySem.W.Frag} {mg : Str → Option Value} (T : TX K mg) : Meth K (He.ga K "Reading") "read_root" (He.ma K (He.ga K "Reading") "read_root") := He.meth_ok (T.f 26 _ rfl)
theorem TX.me_Reading_read_part {K : PySem.W.Frag} {mg : Str → Option Value} (T : TX K mg) : Meth K (He.ga K "Reading") "read_part" (He.ma K (He.ga K "Reading") "read_part") := He.meth_ok (T.f 27 _ rfl)
theorem TX.me_Reading_read_begin_tag {K : PySem.W.Frag} {mg : Str → Option Value} (T : TX K mg) : Meth K (He.ga K "Reading") "read_begin_tag" (He.ma K (He.ga K "Reading") "read_begin_tag") := He.meth_ok (T.f 28 _ rfl)
theorem TX.me_Reading_read_end_tag {K : PySem.W.Frag} {mg : Str → Option Value} (T : TX K mg) : Meth K (He.ga K "Reading") "read_end_tag" (He.ma K (He.ga K "Reading") "read_end_tag") := He.meth_ok (T.f 29 _ rfl)
theorem TX.me_Reading_read_name {K : PySem.W.Frag} {mg : Str → Option Value} (T : TX K mg) : Meth K (He.ga K "Reading") "read_name" (He.ma K (He.ga K "Reading") "read_name") := He.meth_ok (T.f 30 _ rfl)
theorem TX.me_Reading_read_tag_end {K : PySem.W.Frag} {mg : Str → Option Value} (T : TX K mg) : Meth K (He.ga K "Reading") "read_tag_end" (He.ma K (He.ga K "Reading") "read_tag_end") := He.meth_ok (T.f 31 _ rfl)
theorem TX.me_Reading_read_text {K : PySem.W.Frag} {mg : Str → Option Value} (T : TX K mg) : Meth K (He.ga K "Reading") "read_text" (He.ma K (He.ga K "Reading") "read_text") := He.meth_ok (T.f 32 _ rfl)
theorem TX.me_Reading_next_sign {K : PySem.W.Frag} {mg : Str → Option Value} (T : TX K mg) : Meth K (He.ga K "Reading") "next_sign" (He.ma K (He.ga K "Reading") "next_sign") := He.meth_ok (T.f 33 _ rfl)
theorem TX.me_Reading_count_node {K : PySem.W.Frag} {mg : Str → Option Value} (T : TX K mg) : Meth K (He.ga K "Reading") "count_node" (He.ma K (He.ga K "Reading") "count_node") := He.meth_ok (T.f 34 _ rfl)
theorem TX.c_NAME_LETTERS {K : PySem.W.Frag} {mg : Str → Option Value} (T : TX K mg) : ∃ t, mg "NAME_LETTERS" = some (.int 12 t) := T.int 35 _ _ rfl
theorem TX.c_TEXT_CHARACTERS {K : PySem.W.Frag} {mg : Str → Option Value} (T : TX K mg) : ∃ t, mg "TEXT_CHARACTERS" = some (.int 200 t) := T.int 36 _ _ rfl
theorem TX.c_MOST_NODES {K : PySem.W.Frag} {mg : Str → Option Value} (T : TX K mg) : ∃ t, mg "MOST_NODES" = some (.int 5000 t) := T.int 37 _ _ rfl
theorem TX.c_MOST_DEPTH {K : PySem.W.Frag} {mg : Str → Option Value} (T : TX K mg) : ∃ t, mg "MOST_DEPTH" = some (.int 60 t) := T.int 38 _ _ rfl
theorem TX.c_MOST_CHARACTERS {K : PySem.W.Frag} {mg : Str → Option Value} (T : TX K mg) : ∃ t, mg "MOST_CHARACTERS" = some (.int 200000 t) := T.int 39 _ _ rfl
theorem TX.g_WRITTEN_SIGNS {K : PySem.W.Frag} {mg : Str → Option Value} (T : TX K mg) : mg "WRITTEN_SIGNS" = some (.ref (He.ga K "WRITTEN_SIGNS")) := T.gl 40 _ rfl
theorem TX.tu_WRITTEN_SIGNS {K : PySem.W.Frag} {mg : Str → Option Value} (T : TX K mg) : TupsC K (He.ga K "WRITTEN_SIGNS") [["&lt;", "<"], ["&gt;", ">"], ["&amp;", "&"]] := tupsB_ok (T.x 4 _ rfl)
theorem TX.k_TextError_init {K : PySem.W.Frag} {mg : Str → Option Value} (T : TX K mg) : PySem.W.keepIn K (.ref (He.fAd K at_TextError_init)) = true := (T.d 0 _ rfl).choose_spec.kp
theorem TX.k_TooLarge_init {K : PySem.W.Frag} {mg : Str → Option Value} (T : TX K mg) : PySem.W.keepIn K (.ref (He.fAd K at_TooLarge_init)) = true := (T.d 1 _ rfl).choose_spec.kp
theorem TX.g_is_sign {K : PySem.W.Frag} {mg : Str → Option Value} (T : TX K mg) : mg "is_sign" = some (.ref (He.ga K "is_sign")) := T.gl 41 _ rfl
theorem TX.k_is_sign {K : PySem.W.Frag} {mg : Str → Option Value} (T : TX K mg) : PySem.W.keepIn K (.ref (He.fAd K at_is_sign)) = true := (T.d 2 _ rfl).choose_spec.kp
theorem TX.g_is_letter {K : PySem.W.Frag} {mg : Str → Option Value} (T : TX K mg) : mg "is_letter" = some (.ref (He.ga K "is_letter")) := T.gl 42 _ rfl
theorem TX.k_is_letter {K : PySem.W.Frag} {mg : Str → Option Value} (T : TX K mg) : PySem.W.keepIn K (.ref (He.fAd K at_is_letter)) = true := (T.d 3 _ rfl).choose_spec.kp
theorem TX.g__refuse {K : PySem.W.Frag} {mg : Str → Option Value} (T : TX K mg) : mg "_refuse" = some (.ref (He.ga K "_refuse")) := T.gl 43 _ rfl
theorem TX.k__refuse {K : PySem.W.Frag} {mg : Str → Option Value} (T : TX K mg) : PySem.W.keepIn K (.ref (He.fAd K at__refuse)) = true := (T.d 4 _ rfl).choose_spec.kp
theorem TX.k_Reading_init {K : PySem.W.Frag} {mg : Str → Option Value} (T : TX K mg) : PySem.W.keepIn K (.ref (He.fAd K at_Reading_init)) = true := (T.d 5 _ rfl).choose_spec.kp
theorem TX.k_Reading_begins {K : PySem.W.Frag} {mg : Str → Option Value} (T : TX K mg) : PySem.W.keepIn K (.ref (He.fAd K at_Reading_begins)) = true := (T.d 6 _ rfl).choose_spec.kp
theorem TX.k_Reading_read_root {K : PySem.W.Frag} {mg : Str → Option Value} (T : TX K mg) : PySem.W.keepIn K (.ref (He.fAd K at_Reading_read_root)) = true := (T.d 7 _ rfl).choose_spec.kp
theorem TX.k_Reading_read_part {K : PySem.W.Frag} {mg : Str → Option Value} (T : TX K mg) : PySem.W.keepIn K (.ref (He.fAd K at_Reading_read_part)) = true := (T.d 8 _ rfl).choose_spec.kp
theorem TX.k_Reading_read_begin_tag {K : PySem.W.Frag} {mg : Str → Option Value} (T : TX K mg) : PySem.W.keepIn K (.ref (He.fAd K at_Reading_read_begin_tag)) = true := (T.d 9 _ rfl).choose_spec.kp
theorem TX.k_Reading_read_end_tag {K : PySem.W.Frag} {mg : Str → Option Value} (T : TX K mg) : PySem.W.keepIn K (.ref (He.fAd K at_Reading_read_end_tag)) = true := (T.d 10 _ rfl).choose_spec.kp
theorem TX.k_Reading_read_name {K : PySem.W.Frag} {mg : Str → Option Value} (T : TX K mg) : PySem.W.keepIn K (.ref (He.fAd K at_Reading_read_name)) = true := (T.d 11 _ rfl).choose_spec.kp
theorem TX.k_Reading_read_tag_end {K : PySem.W.Frag} {mg : Str → Option Value} (T : TX K mg) : PySem.W.keepIn K (.ref (He.fAd K at_Reading_read_tag_end)) = true := (T.d 12 _ rfl).choose_spec.kp
theorem TX.k_Reading_read_text {K : PySem.W.Frag} {mg : Str → Option Value} (T : TX K mg) : PySem.W.keepIn K (.ref (He.fAd K at_Reading_read_text)) = true := (T.d 13 _ rfl).choose_spec.kp
theorem TX.k_Reading_next_sign {K : PySem.W.Frag} {mg : Str → Option Value} (T : TX K mg) : PySem.W.keepIn K (.ref (He.fAd K at_Reading_next_sign)) = true := (T.d 14 _ rfl).choose_spec.kp
theorem TX.k_Reading_count_node {K : PySem.W.Frag} {mg : Str → Option Value} (T : TX K mg) : PySem.W.keepIn K (.ref (He.fAd K at_Reading_count_node)) = true := (T.d 15 _ rfl).choose_spec.kp
theorem TX.g_read_document {K : PySem.W.Frag} {mg : Str → Option Value} (T : TX K mg) : mg "read_document" = some (.ref (He.ga K "read_document")) := T.gl 44 _ rfl
theorem TX.k_read_document {K : PySem.W.Frag} {mg : Str → Option Value} (T : TX K mg) : PySem.W.keepIn K (.ref (He.fAd K at_read_document)) = true := (T.d 16 _ rfl).choose_spec.kp
theorem TX.g__written {K : PySem.W.Frag} {mg : Str → Option Value} (T : TX K mg) : mg "_written" = some (.ref (He.ga K "_written")) := T.gl 45 _ rfl
theorem TX.k__written {K : PySem.W.Frag} {mg : Str → Option Value} (T : TX K mg) : PySem.W.keepIn K (.ref (He.fAd K at__written)) = true := (T.d 17 _ rfl).choose_spec.kp
theorem TX.g_write_document {K : PySem.W.Frag} {mg : Str → Option Value} (T : TX K mg) : mg "write_document" = some (.ref (He.ga K "write_document")) := T.gl 46 _ rfl
theorem TX.k_write_document {K : PySem.W.Frag} {mg : Str → Option Value} (T : TX K mg) : PySem.W.keepIn K (.ref (He.fAd K at_write_document)) = true := (T.d 18 _ rfl).choose_spec.kp
theorem TX.g__law_draws {K : PySem.W.Frag} {mg : Str → Option Value} (T : TX K mg) : mg "_law_draws" = some (.ref (He.ga K "_law_draws")) := T.gl 47 _ rfl
theorem TX.k__law_draws {K : PySem.W.Frag} {mg : Str → Option Value} (T : TX K mg) : PySem.W.keepIn K (.ref (He.fAd K at__law_draws)) = true := (T.d 19 _ rfl).choose_spec.kp
theorem TX.g__law_take {K : PySem.W.Frag} {mg : Str → Option Value} (T : TX K mg) : mg "_law_take" = some (.ref (He.ga K "_law_take")) := T.gl 48 _ rfl
theorem TX.k__law_take {K : PySem.W.Frag} {mg : Str → Option Value} (T : TX K mg) : PySem.W.keepIn K (.ref (He.fAd K at__law_take)) = true := (T.d 20 _ rfl).choose_spec.kp
theorem TX.g__law_same {K : PySem.W.Frag} {mg : Str → Option Value} (T : TX K mg) : mg "_law_same" = some (.ref (He.ga K "_law_same")) := T.gl 49 _ rfl
theorem TX.k__law_same {K : PySem.W.Frag} {mg : Str → Option Value} (T : TX K mg) : PySem.W.keepIn K (.ref (He.fAd K at__law_same)) = true := (T.d 21 _ rfl).choose_spec.kp
theorem TX.g__law_string {K : PySem.W.Frag} {mg : Str → Option Value} (T : TX K mg) : mg "_law_string" = some (.ref (He.ga K "_law_string")) := T.gl 50 _ rfl
theorem TX.k__law_string {K : PySem.W.Frag} {mg : Str → Option Value} (T : TX K mg) : PySem.W.keepIn K (.ref (He.fAd K at__law_string)) = true := (T.d 22 _ rfl).choose_spec.kp
theorem TX.g__law_tree {K : PySem.W.Frag} {mg : Str → Option Value} (T : TX K mg) : mg "_law_tree" = some (.ref (He.ga K "_law_tree")) := T.gl 51 _ rfl
theorem TX.k__law_tree {K : PySem.W.Frag} {mg : Str → Option Value} (T : TX K mg) : PySem.W.keepIn K (.ref (He.fAd K at__law_tree)) = true := (T.d 23 _ rfl).choose_spec.kp
theorem TX.g__law_names {K : PySem.W.Frag} {mg : Str → Option Value} (T : TX K mg) : mg "_law_names" = some (.ref (He.ga K "_law_names")) := T.gl 52 _ rfl
theorem TX.k__law_names {K : PySem.W.Frag} {mg : Str → Option Value} (T : TX K mg) : PySem.W.keepIn K (.ref (He.fAd K at__law_names)) = true := (T.d 24 _ rfl).choose_spec.kp
theorem TX.g__law_escaped {K : PySem.W.Frag} {mg : Str → Option Value} (T : TX K mg) : mg "_law_escaped" = some (.ref (He.ga K "_law_escaped")) := T.gl 53 _ rfl
theorem TX.k__law_escaped {K : PySem.W.Frag} {mg : Str → Option Value} (T : TX K mg) : PySem.W.keepIn K (.ref (He.fAd K at__law_escaped)) = true := (T.d 25 _ rfl).choose_spec.kp
theorem TX.g__law_written {K : PySem.W.Frag} {mg : Str → Option Value} (T : TX K mg) : mg "_law_written" = some (.ref (He.ga K "_law_written")) := T.gl 54 _ rfl
theorem TX.k__law_written {K : PySem.W.Frag} {mg : Str → Option Value} (T : TX K mg) : PySem.W.keepIn K (.ref (He.fAd K at__law_written)) = true := (T.d 26 _ rfl).choose_spec.kp
theorem TX.g_law {K : PySem.W.Frag} {mg : Str → Option Value} (T : TX K mg) : mg "law" = some (.ref (He.ga K "law")) := T.gl 55 _ rfl
theorem TX.k_law {K : PySem.W.Frag} {mg : Str → Option Value} (T : TX K mg) : PySem.W.keepIn K (.ref (He.fAd K at_law)) = true := (T.d 27 _ rfl).choose_spec.kp
theorem mk_TextError_init {P : Program} {w : World} {K : PySem.W.Frag} {mg : Str → Option Value} {base : Heap} {CX : CXT} {k : Nat} {sp : Sp} (T : TX K mg) (h : ∀ fd, FunD K "__init__" "TextError.__init__" (defArgs s_TextError_init) (defBody s_TextError_init) (defScope s_TextError_init) [] [] (He.fAd K at_TextError_init) fd → FnOk P w K mg base CX k (He.fAd K at_TextError_init) fd ps_TextError_init sp) :
    Can P w K mg base CX k (He.fAd K at_TextError_init) ps_TextError_init [] sp := by
  obtain ⟨fd, F⟩ := T.d 0 _ rfl
  exact ⟨fd, h fd F, [], .nil, FunD.bindsN F fun _ _ _ _ _ _ us hl => match us, hl with | [_, _, _, _], _ => rfl⟩
theorem mk_TooLarge_init {P : Program} {w : World} {K : PySem.W.Frag} {mg : Str → Option Value} {base : Heap} {CX : CXT} {k : Nat} {sp : Sp} (T : TX K mg) (h : ∀ fd, FunD K "__init__" "TooLarge.__init__" (defArgs s_TooLarge_init) (defBody s_TooLarge_init) (defScope s_TooLarge_init) [] [] (He.fAd K at_TooLarge_init) fd → FnOk P w K mg base CX k (He.fAd K at_TooLarge_init) fd ps_TooLarge_init sp) :
    Can P w K mg base CX k (He.fAd K at_TooLarge_init) ps_TooLarge_init [] sp := by
  obtain ⟨fd, F⟩ := T.d 1 _ rfl
  exact ⟨fd, h fd F, [], .nil, FunD.bindsN F fun _ _ _ _ _ _ us hl => match us, hl with | [_, _], _ => rfl⟩
theorem mk_is_sign {P : Program} {w : World} {K : PySem.W.Frag} {mg : Str → Option Value} {base : Heap} {CX : CXT} {k : Nat} {sp : Sp} (T : TX K mg) (h : ∀ fd, FunD K "is_sign" "is_sign" (defArgs s_is_sign) (defBody s_is_sign) (defScope s_is_sign) [] [] (He.fAd K at_is_sign) fd → FnOk P w K mg base CX k (He.fAd K at_is_sign) fd ps_is_sign sp) :
    Can P w K mg base CX k (He.fAd K at_is_sign) ps_is_sign [] sp := by
  obtain ⟨fd, F⟩ := T.d 2 _ rfl
  exact ⟨fd, h fd F, [], .nil, FunD.bindsN F fun _ _ _ _ _ _ us hl => match us, hl with | [_], _ => rfl⟩
theorem mk_is_letter {P : Program} {w : World} {K : PySem.W.Frag} {mg : Str → Option Value} {base : Heap} {CX : CXT} {k : Nat} {sp : Sp} (T : TX K mg) (h : ∀ fd, FunD K "is_letter" "is_letter" (defArgs s_is_letter) (defBody s_is_letter) (defScope s_is_letter) [] [] (He.fAd K at_is_letter) fd → FnOk P w K mg base CX k (He.fAd K at_is_letter) fd ps_is_letter sp) :
    Can P w K mg base CX k (He.fAd K at_is_letter) ps_is_letter [] sp := by
  obtain ⟨fd, F⟩ := T.d 3 _ rfl
  exact ⟨fd, h fd F, [], .nil, FunD.bindsN F fun _ _ _ _ _ _ us hl => match us, hl with | [_], _ => rfl⟩
theorem mk__refuse {P : Program} {w : World} {K : PySem.W.Frag} {mg : Str → Option Value} {base : Heap} {CX : CXT} {k : Nat} {sp : Sp} (T : TX K mg) (h : ∀ fd, FunD K "_refuse" "_refuse" (defArgs s__refuse) (defBody s__refuse) (defScope s__refuse) [] [] (He.fAd K at__refuse) fd → FnOk P w K mg base CX k (He.fAd K at__refuse) fd ps__refuse sp) :
    Can P w K mg base CX k (He.fAd K at__refuse) ps__refuse [] sp := by
  obtain ⟨fd, F⟩ := T.d 4 _ rfl
  exact ⟨fd, h fd F, [], .nil, FunD.bindsN F fun _ _ _ _ _ _ us hl => match us, hl with | [_, _, _], _ => rfl⟩
theorem mk_Reading_init {P : Program} {w : World} {K : PySem.W.Frag} {mg : Str → Option Value} {base : Heap} {CX : CXT} {k : Nat} {sp : Sp} (T : TX K mg) (h : ∀ fd, FunD K "__init__" "Reading.__init__" (defArgs s_Reading_init) (defBody s_Reading_init) (defScope s_Reading_init) [] [] (He.fAd K at_Reading_init) fd → FnOk P w K mg base CX k (He.fAd K at_Reading_init) fd ps_Reading_init sp) :
    Can P w K mg base CX k (He.fAd K at_Reading_init) ps_Reading_init [] sp := by
  obtain ⟨fd, F⟩ := T.d 5 _ rfl
  exact ⟨fd, h fd F, [], .nil, FunD.bindsN F fun _ _ _ _ _ _ us hl => match us, hl with | [_, _], _ => rfl⟩
theorem mk_Reading_begins {P : Program} {w : World} {K : PySem.W.Frag} {mg : Str → Option Value} {base : Heap} {CX : CXT} {k : Nat} {sp : Sp} (T : TX K mg) (h : ∀ fd, FunD K "begins" "Reading.begins" (defArgs s_Reading_begins) (defBody s_Reading_begins) (defScope s_Reading_begins) [] [] (He.fAd K at_Reading_begins) fd → FnOk P w K mg base CX k (He.fAd K at_Reading_begins) fd ps_Reading_begins sp) :
    Can P w K mg base CX k (He.fAd K at_Reading_begins) ps_Reading_begins [] sp := by
  obtain ⟨fd, F⟩ := T.d 6 _ rfl
  exact ⟨fd, h fd F, [], .nil, FunD.bindsN F fun _ _ _ _ _ _ us hl => match us, hl with | [_, _], _ => rfl⟩
theorem mk_Reading_read_root {P : Program} {w : World} {K : PySem.W.Frag} {mg : Str → Option Value} {base : Heap} {CX : CXT} {k : Nat} {sp : Sp} (T : TX K mg) (h : ∀ fd, FunD K "read_root" "Reading.read_root" (defArgs s_Reading_read_root) (defBody s_Reading_read_root) (defScope s_Reading_read_root) [] [] (He.fAd K at_Reading_read_root) fd → FnOk P w K mg base CX k (He.fAd K at_Reading_read_root) fd ps_Reading_read_root sp) :
    Can P w K mg base CX k (He.fAd K at_Reading_read_root) ps_Reading_read_root [] sp := by
  obtain ⟨fd, F⟩ := T.d 7 _ rfl
  exact ⟨fd, h fd F, [], .nil, FunD.bindsN F fun _ _ _ _ _ _ us hl => match us, hl with | [_], _ => rfl⟩
theorem mk_Reading_read_part {P : Program} {w : World} {K : PySem.W.Frag} {mg : Str → Option Value} {base : Heap} {CX : CXT} {k : Nat} {sp : Sp} (T : TX K mg) (h : ∀ fd, FunD K "read_part" "Reading.read_part" (defArgs s_Reading_read_part) (defBody s_Reading_read_part) (defScope s_Reading_read_part) [] [] (He.fAd K at_Reading_read_part) fd → FnOk P w K mg base CX k (He.fAd K at_Reading_read_part) fd ps_Reading_read_part sp) :
    Can P w K mg base CX k (He.fAd K at_Reading_read_part) ps_Reading_read_part [] sp := by
  obtain ⟨fd, F⟩ := T.d 8 _ rfl
  exact ⟨fd, h fd F, [], .nil, FunD.bindsN F fun _ _ _ _ _ _ us hl => match us, hl with | [_], _ => rfl⟩
theorem mk_Reading_read_begin_tag {P : Program} {w : World} {K : PySem.W.Frag} {mg : Str → Option Value} {base : Heap} {CX : CXT} {k : Nat} {sp : Sp} (T : TX K mg) (h : ∀ fd, FunD K "read_begin_tag" "Reading.read_begin_tag" (defArgs s_Reading_read_begin_tag) (defBody s_Reading_read_begin_tag) (defScope s_Reading_read_begin_tag) [] [] (He.fAd K at_Reading_read_begin_tag) fd → FnOk P w K mg base CX k (He.fAd K at_Reading_read_begin_tag) fd ps_Reading_read_begin_tag sp) :
    Can P w K mg base CX k (He.fAd K at_Reading_read_begin_tag) ps_Reading_read_begin_tag [] sp := by
  obtain ⟨fd, F⟩ := T.d 9 _ rfl
  exact ⟨fd, h fd F, [], .nil, FunD.bindsN F fun _ _ _ _ _ _ us hl => match us, hl with | [_], _ => rfl⟩
theorem mk_Reading_read_end_tag {P : Program} {w : World} {K : PySem.W.Frag} {mg : Str → Option Value} {base : Heap} {CX : CXT} {k : Nat} {sp : Sp} (T : TX K mg) (h : ∀ fd, FunD K "read_end_tag" "Reading.read_end_tag" (defArgs s_Reading_read_end_tag) (defBody s_Reading_read_end_tag) (defScope s_Reading_read_end_tag) [] [] (He.fAd K at_Reading_read_end_tag) fd → FnOk P w K mg base CX k (He.fAd K at_Reading_read_end_tag) fd ps_Reading_read_end_tag sp) :
    Can P w K mg base CX k (He.fAd K at_Reading_read_end_tag) ps_Reading_read_end_tag [] sp := by
  obtain ⟨fd, F⟩ := T.d 10 _ rfl
  exact ⟨fd, h fd F, [], .nil, FunD.bindsN F fun _ _ _ _ _ _ us hl => match us, hl with | [_], _ => rfl⟩
theorem mk_Reading_read_name {P : Program} {w : World} {K : PySem.W.Frag} {mg : Str → Option Value} {base : Heap} {CX : CXT} {k : Nat} {sp : Sp} (T : TX K mg) (h : ∀ fd, FunD K "read_name" "Reading.read_name" (defArgs s_Reading_read_name) (defBody s_Reading_read_name) (defScope s_Reading_read_name) [] [] (He.fAd K at_Reading_read_name) fd → FnOk P w K mg base CX k (He.fAd K at_Reading_read_name) fd ps_Reading_read_name sp) :
    Can P w K mg base CX k (He.fAd K at_Reading_read_name) ps_Reading_read_name [] sp := by
  obtain ⟨fd, F⟩ := T.d 11 _ rfl
  exact ⟨fd, h fd F, [], .nil, FunD.bindsN F fun _ _ _ _ _ _ us hl => match us, hl with | [_, _], _ => rfl⟩
theorem mk_Reading_read_tag_end {P : Program} {w : World} {K : PySem.W.Frag} {mg : Str → Option Value} {base : Heap} {CX : CXT} {k : Nat} {sp : Sp} (T : TX K mg) (h : ∀ fd, FunD K "read_tag_end" "Reading.read_tag_end" (defArgs s_Reading_read_tag_end) (defBody s_Reading_read_tag_end) (defScope s_Reading_read_tag_end) [] [] (He.fAd K at_Reading_read_tag_end) fd → FnOk P w K mg base CX k (He.fAd K at_Reading_read_tag_end) fd ps_Reading_read_tag_end sp) :
    Can P w K mg base CX k (He.fAd K at_Reading_read_tag_end) ps_Reading_read_tag_end [] sp := by
  obtain ⟨fd, F⟩ := T.d 12 _ rfl
  exact ⟨fd, h fd F, [], .nil, FunD.bindsN F fun _ _ _ _ _ _ us hl => match us, hl with | [_], _ => rfl⟩
theorem mk_Reading_read_text {P : Program} {w : World} {K : PySem.W.Frag} {mg : Str → Option Value} {base : Heap} {CX : CXT} {k : Nat} {sp : Sp} (T : TX K mg) (h : ∀ fd, FunD K "read_text" "Reading.read_text" (defArgs s_Reading_read_text) (defBody s_Reading_read_text) (defScope s_Reading_read_text) [] [] (He.fAd K at_Reading_read_text) fd → FnOk P w K mg base CX k (He.fAd K at_Reading_read_text) fd ps_Reading_read_text sp) :
    Can P w K mg base CX k (He.fAd K at_Reading_read_text) ps_Reading_read_text [] sp := by
  obtain ⟨fd, F⟩ := T.d 13 _ rfl
  exact ⟨fd, h fd F, [], .nil, FunD.bindsN F fun _ _ _ _ _ _ us hl => match us, hl with | [_], _ => rfl⟩
theorem mk_Reading_next_sign {P : Program} {w : World} {K : PySem.W.Frag} {mg : Str → Option Value} {base : Heap} {CX : CXT} {k : Nat} {sp : Sp} (T : TX K mg) (h : ∀ fd, FunD K "next_sign" "Reading.next_sign" (defArgs s_Reading_next_sign) (defBody s_Reading_next_sign) (defScope s_Reading_next_sign) [] [] (He.fAd K at_Reading_next_sign) fd → FnOk P w K mg base CX k (He.fAd K at_Reading_next_sign) fd ps_Reading_next_sign sp) :
    Can P w K mg base CX k (He.fAd K at_Reading_next_sign) ps_Reading_next_sign [] sp := by
  obtain ⟨fd, F⟩ := T.d 14 _ rfl
  exact ⟨fd, h fd F, [], .nil, FunD.bindsN F fun _ _ _ _ _ _ us hl => match us, hl with | [_], _ => rfl⟩
theorem mk_Reading_count_node {P : Program} {w : World} {K : PySem.W.Frag} {mg : Str → Option Value} {base : Heap} {CX : CXT} {k : Nat} {sp : Sp} (T : TX K mg) (h : ∀ fd, FunD K "count_node" "Reading.count_node" (defArgs s_Reading_count_node) (defBody s_Reading_count_node) (defScope s_Reading_count_node) [] [] (He.fAd K at_Reading_count_node) fd → FnOk P w K mg base CX k (He.fAd K at_Reading_count_node) fd ps_Reading_count_node sp) :
    Can P w K mg base CX k (He.fAd K at_Reading_count_node) ps_Reading_count_node [] sp := by
  obtain ⟨fd, F⟩ := T.d 15 _ rfl
  exact ⟨fd, h fd F, [], .nil, FunD.bindsN F fun _ _ _ _ _ _ us hl => match us, hl with | [_], _ => rfl⟩
theorem mk_read_document {P : Program} {w : World} {K : PySem.W.Frag} {mg : Str → Option Value} {base : Heap} {CX : CXT} {k : Nat} {sp : Sp} (T : TX K mg) (h : ∀ fd, FunD K "read_document" "read_document" (defArgs s_read_document) (defBody s_read_document) (defScope s_read_document) [] [] (He.fAd K at_read_document) fd → FnOk P w K mg base CX k (He.fAd K at_read_document) fd ps_read_document sp) :
    Can P w K mg base CX k (He.fAd K at_read_document) ps_read_document [] sp := by
  obtain ⟨fd, F⟩ := T.d 16 _ rfl
  exact ⟨fd, h fd F, [], .nil, FunD.bindsN F fun _ _ _ _ _ _ us hl => match us, hl with | [_], _ => rfl⟩
theorem mk__written {P : Program} {w : World} {K : PySem.W.Frag} {mg : Str → Option Value} {base : Heap} {CX : CXT} {k : Nat} {sp : Sp} (T : TX K mg) (h : ∀ fd, FunD K "_written" "_written" (defArgs s__written) (defBody s__written) (defScope s__written) [] [] (He.fAd K at__written) fd → FnOk P w K mg base CX k (He.fAd K at__written) fd ps__written sp) :
    Can P w K mg base CX k (He.fAd K at__written) ps__written [] sp := by
  obtain ⟨fd, F⟩ := T.d 17 _ rfl
  exact ⟨fd, h fd F, [], .nil, FunD.bindsN F fun _ _ _ _ _ _ us hl => match us, hl with | [_], _ => rfl⟩
theorem mk_write_document {P : Program} {w : World} {K : PySem.W.Frag} {mg : Str → Option Value} {base : Heap} {CX : CXT} {k : Nat} {sp : Sp} (T : TX K mg) (h : ∀ fd, FunD K "write_document" "write_document" (defArgs s_write_document) (defBody s_write_document) (defScope s_write_document) [] [] (He.fAd K at_write_document) fd → FnOk P w K mg base CX k (He.fAd K at_write_document) fd ps_write_document sp) :
    Can P w K mg base CX k (He.fAd K at_write_document) ps_write_document [] sp := by
  obtain ⟨fd, F⟩ := T.d 18 _ rfl
  exact ⟨fd, h fd F, [], .nil, FunD.bindsN F fun _ _ _ _ _ _ us hl => match us, hl with | [_], _ => rfl⟩
theorem mk__law_draws {P : Program} {w : World} {K : PySem.W.Frag} {mg : Str → Option Value} {base : Heap} {CX : CXT} {k : Nat} {sp : Sp} (T : TX K mg) (h : ∀ fd, FunD K "_law_draws" "_law_draws" (defArgs s__law_draws) (defBody s__law_draws) (defScope s__law_draws) [] [] (He.fAd K at__law_draws) fd → FnOk P w K mg base CX k (He.fAd K at__law_draws) fd ps__law_draws sp) :
    Can P w K mg base CX k (He.fAd K at__law_draws) ps__law_draws [] sp := by
  obtain ⟨fd, F⟩ := T.d 19 _ rfl
  exact ⟨fd, h fd F, [], .nil, FunD.bindsN F fun _ _ _ _ _ _ us hl => match us, hl with | [_], _ => rfl⟩
theorem mk__law_take {P : Program} {w : World} {K : PySem.W.Frag} {mg : Str → Option Value} {base : Heap} {CX : CXT} {k : Nat} {sp : Sp} (T : TX K mg) (h : ∀ fd, FunD K "_law_take" "_law_take" (defArgs s__law_take) (defBody s__law_take) (defScope s__law_take) [] [] (He.fAd K at__law_take) fd → FnOk P w K mg base CX k (He.fAd K at__law_take) fd ps__law_take sp) :
    Can P w K mg base CX k (He.fAd K at__law_take) ps__law_take [] sp := by
  obtain ⟨fd, F⟩ := T.d 20 _ rfl
  exact ⟨fd, h fd F, [], .nil, FunD.bindsN F fun _ _ _ _ _ _ us hl => match us, hl with | [_, _], _ => rfl⟩
theorem mk__law_same {P : Program} {w : World} {K : PySem.W.Frag} {mg : Str → Option Value} {base : Heap} {CX : CXT} {k : Nat} {sp : Sp} (T : TX K mg) (h : ∀ fd, FunD K "_law_same" "_law_same" (defArgs s__law_same) (defBody s__law_same) (defScope s__law_same) [] [] (He.fAd K at__law_same) fd → FnOk P w K mg base CX k (He.fAd K at__law_same) fd ps__law_same sp) :
    Can P w K mg base CX k (He.fAd K at__law_same) ps__law_same [] sp := by
  obtain ⟨fd, F⟩ := T.d 21 _ rfl
  exact ⟨fd, h fd F, [], .nil, FunD.bindsN F fun _ _ _ _ _ _ us hl => match us, hl with | [_, _], _ => rfl⟩
theorem mk__law_string {P : Program} {w : World} {K : PySem.W.Frag} {mg : Str → Option Value} {base : Heap} {CX : CXT} {k : Nat} {sp : Sp} (T : TX K mg) (h : ∀ fd, FunD K "_law_string" "_law_string" (defArgs s__law_string) (defBody s__law_string) (defScope s__law_string) [] [] (He.fAd K at__law_string) fd → FnOk P w K mg base CX k (He.fAd K at__law_string) fd ps__law_string sp) :
    Can P w K mg base CX k (He.fAd K at__law_string) ps__law_string [] sp := by
  obtain ⟨fd, F⟩ := T.d 22 _ rfl
  exact ⟨fd, h fd F, [], .nil, FunD.bindsN F fun _ _ _ _ _ _ us hl => match us, hl with | [_, _], _ => rfl⟩
theorem mk__law_tree {P : Program} {w : World} {K : PySem.W.Frag} {mg : Str → Option Value} {base : Heap} {CX : CXT} {k : Nat} {sp : Sp} (T : TX K mg) (h : ∀ fd, FunD K "_law_tree" "_law_tree" (defArgs s__law_tree) (defBody s__law_tree) (defScope s__law_tree) [] [] (He.fAd K at__law_tree) fd → FnOk P w K mg base CX k (He.fAd K at__law_tree) fd ps__law_tree sp) :
    Can P w K mg base CX k (He.fAd K at__law_tree) ps__law_tree [] sp := by
  obtain ⟨fd, F⟩ := T.d 23 _ rfl
  exact ⟨fd, h fd F, [], .nil, FunD.bindsN F fun _ _ _ _ _ _ us hl => match us, hl with | [_, _, _], _ => rfl⟩
theorem mk__law_names {P : Program} {w : World} {K : PySem.W.Frag} {mg : Str → Option Value} {base : Heap} {CX : CXT} {k : Nat} {sp : Sp} (T : TX K mg) (h : ∀ fd, FunD K "_law_names" "_law_names" (defArgs s__law_names) (defBody s__law_names) (defScope s__law_names) [] [] (He.fAd K at__law_names) fd → FnOk P w K mg base CX k (He.fAd K at__law_names) fd ps__law_names sp) :
    Can P w K mg base CX k (He.fAd K at__law_names) ps__law_names [] sp := by
  obtain ⟨fd, F⟩ := T.d 24 _ rfl
  exact ⟨fd, h fd F, [], .nil, FunD.bindsN F fun _ _ _ _ _ _ us hl => match us, hl with | [_], _ => rfl⟩
theorem mk__law_escaped {P : Program} {w : World} {K : PySem.W.Frag} {mg : Str → Option Value} {base : Heap} {CX : CXT} {k : Nat} {sp : Sp} (T : TX K mg) (h : ∀ fd, FunD K "_law_escaped" "_law_escaped" (defArgs s__law_escaped) (defBody s__law_escaped) (defScope s__law_escaped) [] [] (He.fAd K at__law_escaped) fd → FnOk P w K mg base CX k (He.fAd K at__law_escaped) fd ps__law_escaped sp) :
    Can P w K mg base CX k (He.fAd K at__law_escaped) ps__law_escaped [] sp := by
  obtain ⟨fd, F⟩ := T.d 25 _ rfl
  exact ⟨fd, h fd F, [], .nil, FunD.bindsN F fun _ _ _ _ _ _ us hl => match us, hl with | [_], _ => rfl⟩
theorem mk__law_written {P : Program} {w : World} {K : PySem.W.Frag} {mg : Str → Option Value} {base : Heap} {CX : CXT} {k : Nat} {sp : Sp} (T : TX K mg) (h : ∀ fd, FunD K "_law_written" "_law_written" (defArgs s__law_written) (defBody s__law_written) (defScope s__law_written) [] [] (He.fAd K at__law_written) fd → FnOk P w K mg base CX k (He.fAd K at__law_written) fd ps__law_written sp) :
    Can P w K mg base CX k (He.fAd K at__law_written) ps__law_written [] sp := by
  obtain ⟨fd, F⟩ := T.d 26 _ rfl
  exact ⟨fd, h fd F, [], .nil, FunD.bindsN F fun _ _ _ _ _ _ us hl => match us, hl with | [_, _], _ => rfl⟩
theorem mk_law {P : Program} {w : World} {K : PySem.W.Frag} {mg : Str → Option Value} {base : Heap} {CX : CXT} {k : Nat} {sp : Sp} (T : TX K mg) (h : ∀ fd, FunD K "law" "law" (defArgs s_law) (defBody s_law) (defScope s_law) [] [] (He.fAd K at_law) fd → FnOk P w K mg base CX k (He.fAd K at_law) fd ps_law sp) :
    Can P w K mg base CX k (He.fAd K at_law) ps_law [] sp := by
  obtain ⟨fd, F⟩ := T.d 27 _ rfl
  exact ⟨fd, h fd F, [], .nil, FunD.bindsN F fun _ _ _ _ _ _ us hl => match us, hl with | [_], _ => rfl⟩
/-! ### values that are data -/
theorem dp_ex {K : PySem.W.Frag} {H H' : Hp} (e : Ex H H') : ∀ {d : PyData} {v : V}, Dp K H v d → Dp K H' v d := by
  intro d v h
  refine Dp.rec (motive_1 := fun v d _ => Dp K H' v d) (motive_2 := fun vs ds _ => DpAll K H' vs ds) .non .bl .int .str (fun h _ ih => .lst (ex_l e h) ih) (fun h _ ih => .tup (ex_t e h) ih) .nil (fun _ _ a b => .cons a b) h
theorem dpAll_ex {K : PySem.W.Frag} {H H' : Hp} (e : Ex H H') : ∀ {ds : List PyData} {vs : List V}, DpAll K H vs ds → DpAll K H' vs ds
  | [], _, h => by
    cases h
    exact .nil
  | d :: ds, _, h => by
    cases h with
    | cons a b => exact .cons (dp_ex e a) (dpAll_ex e b)
theorem dpAll_snoc {K : PySem.W.Frag} {H : Hp} {v : V} {d : PyData} : ∀ {ds : List PyData} {vs : List V}, DpAll K H vs ds → Dp K H v d → DpAll K H (vs ++ [v]) (ds ++ [d])
  | [], _, h, h2 => by
    cases h
    exact .cons h2 .nil
  | c :: ds, _, h, h2 => by
    cases h with
    | cons a b => exact .cons a (dpAll_snoc b h2)
theorem dpa_at {K : PySem.W.Frag} {H : Hp} : ∀ {ds : List PyData} {xs : List V} {i : Nat} {x : V}, DpAll K H xs ds → xs[i]? = some x → ∃ d, ds[i]? = some d ∧ Dp K H x d
  | [], _, _, _, h, e => by
    cases h
    cases e
  | c :: ds, _, 0, _, h, e => by
    cases h with
    | cons a b =>
      cases e
      exact ⟨c, rfl, a⟩
  | c :: ds, _, i + 1, _, h, e => by
    cases h with
    | cons a b => exact dpa_at (i := i) b e
theorem dpa_len {K : PySem.W.Frag} {H : Hp} : ∀ {ds : List PyData} {xs : List V}, DpAll K H xs ds → xs.length = ds.length
  | [], _, h => by
    cases h
    rfl
  | c :: ds, _, h => by
    cases h with
    | cons a b => rw [List.length_cons, List.length_cons, dpa_len b]
/-! ### the draws -/
/-- a list of numbers stands at d -/
def Dr (H : Hp) (d : Addr) : Prop := ∃ ns : List Int, H d = some (.lst (ns.map V.int))
theorem Dr.kp {S : List Addr} {H H' : Hp} {d : Addr} (D : Dr H d) (e : Kp S H H') (h : d ∉ S) : Dr H' d := D.imp fun _ g => e.at g h
theorem Dr.keep {H H' : Hp} {d : Addr} (D : Dr H d) (e : Ex H H') : Dr H' d := D.imp fun _ g => e _ _ g
theorem Dr.on {H : Hp} {d : Addr} (D : Dr H d) : H d ≠ none := by
  obtain ⟨ns, h⟩ := D
  rw [h]
  intro z
  cases z
theorem Dr.ne {H : Hp} {d p : Addr} (D : Dr H d) (h : H p = none) : p ≠ d := fun e => D.on (e ▸ h)
theorem Dr.put {H : Hp} {d p : Addr} {o : HO} (D : Dr H d) (h : H p = none) : Dr (upd H p o) d := D.keep (Ex.new h)
theorem Dr.mut {H : Hp} {d p : Addr} {o : HO} (D : Dr H d) (h : p ≠ d) : Dr (upd H p o) d := D.kp (Kp.up (p := p)) fun z => h (List.mem_singleton.mp z).symm
def spTake : Sp := fun vs H Q _ => ∃ (d : Addr) (m : Int), vs = [.ref d, .int m] ∧ 0 < m ∧ Dr H d ∧ ∀ (v : Int) (H' : Hp), 0 ≤ v → v < m → Dr H' d → Kp [d] H H' → Q (.int v) H'
theorem fmod_in {i m : Int} (h : 0 < m) : 0 ≤ i.fmod m ∧ i.fmod m < m := by
  rw [Int.fmod_eq_emod_of_nonneg i (Int.le_of_lt h)]
  exact ⟨Int.emod_nonneg _ (by omega), Int.emod_lt_of_pos _ h⟩
theorem rd_take {σ : L2.St} {H : Hp} {i : Nat} {te : TE} {d : Addr} {m : Int} {Q : VK} {E : XK} (hσ : σ[i]? = some (some (.ref d))) (hm : Val te σ H (.int m)) (m0 : 0 < m) (D : Dr H d)
    (k : ∀ (v : Int) (H' : Hp), 0 ≤ v → v < m → Dr H' d → Kp [d] H H' → Q (.int v) H') : tCall spTake [] E (tCons (tVar i) (tCons te tNil)) σ H Q := ⟨_, hσ, hm _ ⟨d, m, rfl, m0, D, k⟩⟩
def spDraws (K : PySem.W.Frag) : Sp := fun vs H Q _ => ∃ (a : Addr) (ns : List Int), vs = [.ref a] ∧ SqL K H a (ns.map V.int) ∧ ns.length ≤ 63 ∧ ∀ (d : Addr) (H' : Hp), H d = none → Dr H' d → Ex H H' → Q (.ref d) H'
section
variable {P : Program} {w : World} {K : PySem.W.Frag} {mg : Str → Option Value} {base : Heap}
theorem ok__law_take (T : TX K mg) : Can P w K mg base CX0 1 (He.fAd K at__law_take) ps__law_take [] spTake := mk__law_take T fun fd F => def0 F sc__law_take (fun vs H Q E h => by
  obtain ⟨d, m, rfl, _⟩ := h
  rfl) fun cdv A outer s H vs Q E hr h => by
  obtain ⟨d, m, rfl, m0, ⟨ns, hd⟩, k⟩ := h
  refine ⟨_, (pss_cons (ps_if (pt_cmpR op_eq (pe_callB (cLen K rfl) (by rfl) T.n_len PySem.boot_len (pa_cons (pv 0) pa_nil)) pe_int (nomark _)) (pss_one (ps_ret pe_int)) pss_nil)
  (pss_one (ps_ret (pe_op op_modN (pe_callTy call_int1 (by rfl) T.n_int (by decide +kernel) (pa_cons (eBm0 K rfl PySem.F.plainAttrs_list PySem.F.slot_list_pop PySem.F.type_list_pop mt_pop (pv 0)) pa_nil)) (pv 1))))), ?_⟩
  refine st_seq (st_if (ans_v (val_eq (val_lenL (val_var rfl) (SqL.of hd)) val_c rfl)) (fun h0 => ?_) (fun h0 => ?_))
  · exact go_ret (k 0 H (Int.le_refl _) m0 ⟨ns, hd⟩ Kp.refl)
  · have hl : ns ≠ [] := fun z => by
      subst z
      simp at h0
    have hlast : (ns.map V.int)[(ns.map V.int).length - 1]? = some (.int (ns.getLast hl)) := by
      rw [List.length_map]
      refine at_int ?_
      rw [← List.getLast?_eq_getElem?, List.getLast?_eq_some_getLast hl]
    have hdrop : (ns.map V.int).dropLast = (ns.dropLast).map V.int := (List.map_dropLast ..).symm
    refine ⟨_, rfl, .inl ⟨rfl, _, SqL.of hd⟩, d, _, _, rfl, rfl, hd, hlast, .inl ⟨_, rfl, _, rfl, _, _, rfl, rfl, (by omega), ?_⟩⟩
    exact k _ _ (fmod_in m0).1 (fmod_in m0).2 ⟨ns.dropLast, by rw [upd_same, hdrop]⟩ (Kp.put (by simp))
theorem ok__law_draws (T : TX K mg) : Can P w K mg base CX0 1 (He.fAd K at__law_draws) ps__law_draws [] (spDraws K) := mk__law_draws T fun fd F => def0 F sc__law_draws (fun vs H Q E h => by
  obtain ⟨a, ns, rfl, _⟩ := h
  rfl) fun cdv A outer s H vs Q E hr h => by
  obtain ⟨a, ns, rfl, hS, hz, k⟩ := h
  refine ⟨_, (pss_cons (ps_set (i := 1) sc__law_draws.nd rfl (Or.inl rfl) (pe_lst pa_nil))
  (pss_cons (ps_for PassesOwn.never rfl (iLst K rfl (pv 0)) (pg_name (i := 2) sc__law_draws.nd rfl (Or.inl rfl))
  (pss_cons (ps_set (i := 5) sc__law_draws.nd rfl (Or.inl rfl) (pe_callB call_abs (by rfl) T.n_abs (by decide +kernel) (pa_cons (pv 2) pa_nil)))
  (Evl.pss_cut (ps_if (pt_cmpR op_lt (pv 5) (pe_op op_pow pe_int pe_int) (nomark _)) (pss_cons (ps_set (i := 6) sc__law_draws.nd rfl (Or.inl rfl) (pe_op op_modN (pe_callTy call_int1 (by rfl) T.n_int (by decide +kernel) (pa_cons (pe_op op_add (pe_op op_mul (pv 5) pe_int) pe_int) pa_nil)) pe_int))
  (pss_cons (ps_expr (eBm K rfl PySem.F.plainAttrs_list PySem.F.slot_list_append PySem.F.type_list_append mt_append (pv 1) (pa_cons (pe_op op_modN (pe_callTy call_int1 (by rfl) T.n_int (by decide +kernel) (pa_cons (pe_op op_add (pe_op op_mul (pv 6) pe_int) (pv 5)) pa_nil)) pe_int) pa_nil)))
  (pss_cons (ps_expr (eBm K rfl PySem.F.plainAttrs_list PySem.F.slot_list_append PySem.F.type_list_append mt_append (pv 1) (pa_cons (pe_op op_modN (pe_callTy call_int1 (by rfl) T.n_int (by decide +kernel) (pa_cons (pe_op op_add (pv 6) (pe_op op_fdivN (pv 5) pe_int)) pa_nil)) pe_int) pa_nil)))
  (pss_one (ps_set (i := 5) sc__law_draws.nd rfl (Or.inl rfl) pe_int))))) pss_nil)
  (pss_one (ps_for PassesOwn.never rfl (pi_range1 rfl T.n_range (pa_cons pe_int pa_nil)) (pg_name (i := 4) sc__law_draws.nd rfl (Or.inl rfl))
  (pss_one (ps_if (pt_cmpR op_gt (pv 5) pe_int (nomark _)) (pss_cons (ps_expr (eBm K rfl PySem.F.plainAttrs_list PySem.F.slot_list_append PySem.F.type_list_append mt_append (pv 1) (pa_cons (pe_op op_modN (pe_callTy call_int1 (by rfl) T.n_int (by decide +kernel) (pa_cons (pv 5) pa_nil)) pe_int) pa_nil)))
  (pss_one (ps_set (i := 5) sc__law_draws.nd rfl (Or.inl rfl) (pe_op op_fdivN (pv 5) pe_int)))) pss_nil)))))))
  (pss_cons (ps_set (i := 3) sc__law_draws.nd rfl (Or.inl rfl) pe_int)
  (Evl.pss_cut (ps_if (pt_cmpR op_gt (pe_callB (cLen K rfl) (by rfl) T.n_len PySem.boot_len (pa_cons (pv 0) pa_nil)) pe_int (nomark _)) (pss_one (ps_set (i := 3) sc__law_draws.nd rfl (Or.inl rfl) (pe_op op_add pe_int (pe_callB call_abs (by rfl) T.n_abs (by decide +kernel) (pa_cons (pe_ix (ixL K rfl) (pv 0) pe_int (fun _ _ => rfl)) pa_nil))))) pss_nil)
  (pss_cons (ps_for PassesOwn.never rfl (pi_range1 rfl T.n_range (pa_cons pe_int pa_nil)) (pg_name (i := 4) sc__law_draws.nd rfl (Or.inl rfl))
  (pss_cons (ps_set (i := 3) sc__law_draws.nd rfl (Or.inl rfl) (pe_op op_modN (pe_callTy call_int1 (by rfl) T.n_int (by decide +kernel) (pa_cons (pe_op op_add (pe_op op_mul (pv 3) pe_int) pe_int) pa_nil)) pe_int))
  (pss_one (ps_expr (eBm K rfl PySem.F.plainAttrs_list PySem.F.slot_list_append PySem.F.type_list_append mt_append (pv 1) (pa_cons (pe_op op_fdivN (pv 3) pe_int) pa_nil))))))
  (pss_one (ps_ret (pe_lstRev K rfl rfl (by rfl) T.n_list (by rfl) T.n_reversed (pv 1))))))))), ?_⟩
  refine ⟨by show 0 ≤ sizeLine; decide, fun p hp => ?_⟩
  dsimp only [gName]
  have vi : ∀ {te : TE} {σ : L2.St} {G : Hp} {i : Int}, Val te σ G (.int i) → Val (tCB (fun xs H Q => (∃ i, xs = [V.int i] ∧ Q (V.int i) H) ∨ ∃ k, xs = [V.bl k] ∧ Q (V.int (if k = true then 1 else 0)) H) (tCons te tNil)) σ G (.int i) := fun h => val_cb (va_one h) fun _ q => .inl ⟨_, rfl, q⟩
  have va : ∀ {te : TE} {σ : L2.St} {G : Hp} {i : Int}, Val te σ G (.int i) → Val (tCB (fun xs H Q => ∃ i, xs = [V.int i] ∧ Q (V.int (if i < 0 then -i else i)) H) (tCons te tNil)) σ G (.int (if i < 0 then -i else i)) := fun h => val_cb (va_one h) fun _ q => ⟨_, rfl, q⟩
  have app : ∀ {D : Ends} {σ : L2.St} {G : Hp} {te : TE} {ms : List Int} {v : Int}, σ[1]? = some (some (.ref p)) → G p = some (.lst (ms.map V.int)) → ms.length ≤ 10000 → Val te σ G (.int v) → D.nx σ (upd G p (.lst ((ms ++ [v]).map V.int))) → tDrop (tBM K "list" rAppend (tVar 1) (tCons te tNil)) D σ G := fun {D σ G te ms v} hσ hG hl hv k => st_app hG (val_var hσ) hv (small9 (by rw [List.length_map]; omega)) (by
    rw [List.map_append] at k
    exact k)
  refine st_seq (st_forL (val_var rfl) (ex_l (Ex.new hp) hS) (fun i σ G => ∃ v2 v4 v5 v6, ∃ ms : List Int, σ = [some (.ref a), some (.ref p), v2, none, v4, v5, v6] ∧ Ex H G ∧ G p = some (.lst (ms.map V.int)) ∧ ms.length ≤ 62 * i) ⟨_, _, _, _, [], rfl, Ex.new hp, upd_same, Nat.zero_le _⟩ (fun i σ G _ ⟨_, _, _, _, _, _, e, _⟩ => ex_l e hS) ?_ ?_)
  · rintro i x σ G hi ⟨v2, v4, v5, v6, ms, rfl, e, hG, hl⟩
    obtain ⟨z, hz', rfl⟩ := int_at hi
    have hi63 := lt_of_at hz'
    refine st_seq (go_asg (va (val_var rfl) _ ?_))
    generalize (if z < 0 then -z else z) = y
    dsimp only [gName]
    refine ⟨fun σ' G' => ∃ (y' : Int) (v6' : Option V) (ms' : List Int), σ' = [some (.ref a), some (.ref p), some (.int z), none, v4, some (.int y'), v6'] ∧ Ex H G' ∧ G' p = some (.lst (ms'.map V.int)) ∧ ms'.length ≤ 62 * i + 2, ?_, ?_⟩
    · refine st_if (ans_v (val_I (g := fun i j => .bl (decide (i < j))) (val_var rfl) (val_IC (g := fun i j => .int (i ^ j.toNat)) val_c val_c ⟨by decide, by decide, by decide⟩))) (fun _ => ?_) (fun _ => ⟨y, v6, ms, rfl, e, hG, by omega⟩)
      refine st_seq (go_asg (val_IC (g := fun i j => .int (i.fmod j)) (vi (val_I (g := fun i j => .int (i + j)) (val_IC (g := fun i j => .int (i * j)) (val_var rfl) val_c (.inr ⟨by decide, by decide⟩)) val_c)) val_c (by decide) _ ?_))
      dsimp only [gName]
      refine st_seq (app rfl hG (by omega) (val_IC (g := fun i j => .int (i.fmod j)) (vi (val_I (g := fun i j => .int (i + j)) (val_IC (g := fun i j => .int (i * j)) (val_var rfl) val_c (.inr ⟨by decide, by decide⟩)) (val_var rfl))) val_c (by decide)) ?_)
      refine st_seq (app rfl upd_same (by rw [List.length_append]; show _ + 1 ≤ _; omega) (val_IC (g := fun i j => .int (i.fmod j)) (vi (val_I (g := fun i j => .int (i + j)) (val_var rfl) (val_IC (g := fun i j => .int (i.fdiv j)) (val_var rfl) val_c ⟨by decide, by decide⟩))) val_c (by decide)) ?_)
      rw [upd_upd]
      exact ⟨0, _, _, rfl, e.mut hp, upd_same, by rw [List.length_append, List.length_append]; show _ + 1 + 1 ≤ _; omega⟩
    · rintro σ' G' ⟨y', v6', ms', rfl, e', hG', hl'⟩
      refine ⟨60, rfl, by decide, by decide, for_range (lo := 0) (n := 60) (fun k σ G => ∃ v4 v6, ∃ (y : Int) (ms : List Int), σ = [some (.ref a), some (.ref p), some (.int z), none, v4, some (.int y), v6] ∧ Ex H G ∧ G p = some (.lst (ms.map V.int)) ∧ ms.length ≤ 62 * i + 2 + k) ⟨_, _, y', ms', rfl, e', hG', hl'⟩ ?_ ?_⟩
      · rintro k σ G hk ⟨v4, v6, y, ms, rfl, e, hG, hl⟩
        refine st_if (ans_v (val_I (g := fun i j => .bl (decide (i > j))) (val_var rfl) val_c)) (fun _ => ?_) (fun _ => ⟨_, _, y, ms, rfl, e, hG, by omega⟩)
        refine st_seq (app rfl hG (by omega) (val_IC (g := fun i j => .int (i.fmod j)) (vi (val_var rfl)) val_c (by decide)) ?_)
        exact go_asg (val_IC (g := fun i j => .int (i.fdiv j)) (val_var rfl) val_c ⟨by decide, by decide⟩ _ ⟨_, _, _, _, rfl, e.mut hp, upd_same, by rw [List.length_append]; show _ + 1 ≤ _; omega⟩)
      · rintro σ G ⟨v4, v6, y, ms, rfl, e, hG, hl⟩
        exact ⟨_, _, _, _, ms, rfl, e, hG, by omega⟩
  · rintro σ G ⟨v2, v4, v5, v6, ms, rfl, e, hG, hl⟩
    rw [List.length_map] at hl
    dsimp only [gName]
    refine st_seq (go_asg ?_)
    dsimp only [gName]
    refine ⟨fun σ' G' => ∃ y : Int, σ' = [some (.ref a), some (.ref p), v2, some (.int y), v4, v5, v6] ∧ G' = G, ?_, ?_⟩
    · refine st_if (ans_v (val_I (g := fun i j => .bl (decide (i > j))) (val_lenL (val_var rfl) (ex_l e hS)) val_c)) (fun h0 => ?_) (fun _ => ⟨1, rfl, rfl⟩)
      cases ns with
      | nil => cases h0
      | cons z r => exact go_asg (val_I (g := fun i j => .int (i + j)) val_c (va (val_ixL (val_var rfl) val_c (ex_l e hS) (atI_nat (j := 0) rfl))) _ ⟨_, rfl, rfl⟩)
    · rintro σ' G' ⟨y, rfl, rfl⟩
      refine ⟨240, rfl, by decide, by decide, for_range (lo := 0) (n := 240) (fun k σ G => ∃ v4, ∃ (y : Int) (ms : List Int), σ = [some (.ref a), some (.ref p), v2, some (.int y), v4, v5, v6] ∧ Ex H G ∧ G p = some (.lst (ms.map V.int)) ∧ ms.length ≤ 62 * 63 + k) ⟨_, y, ms, rfl, e, hG, by omega⟩ ?_ ?_⟩
      · rintro k σ G hk ⟨v4, y, ms, rfl, e, hG, hl⟩
        refine st_seq (go_asg (val_IC (g := fun i j => .int (i.fmod j)) (vi (val_I (g := fun i j => .int (i + j)) (val_IC (g := fun i j => .int (i * j)) (val_var rfl) val_c (.inr ⟨by decide, by decide⟩)) val_c)) val_c (by decide) _ ?_))
        dsimp only [gName]
        exact app rfl hG (by omega) (val_IC (g := fun i j => .int (i.fdiv j)) (val_var rfl) val_c ⟨by decide, by decide⟩) ⟨_, _, _, rfl, e.mut hp, upd_same, by rw [List.length_append]; show _ + 1 ≤ _; omega⟩
      · rintro σ G ⟨v4, y, ms, rfl, e, hG, hl⟩
        exact ⟨_, rfl, p, _, rfl, SqL.of hG, fun q hq => k q _ (fresh_back e hq) ⟨ms.reverse, by rw [upd_same, List.map_reverse]⟩ (e.trans (Ex.new hq))⟩
end
/-! ### the same data -/
/-- a value's class, by the data that it is -/
def nameD : PyData → String
  | .none => "NoneType"
  | .bool _ => "bool"
  | .int _ => "int"
  | .str _ => "str"
  | .list _ => "list"
  | .tuple _ => "tuple"
  | .dict _ => "dict"
theorem ty_sqL {K : PySem.W.Frag} {H : Hp} {a : Addr} {xs : List V} (h : SqL K H a xs) : TyX K H (.ref a) (.type "list") := by
  rcases h with (h | ⟨o, h⟩) | ⟨o, its, n, hk, hc, _⟩
  · exact .base (.lst h)
  · exact .base (.frz h)
  · exact .kList hk hc
theorem ty_sqT {K : PySem.W.Frag} {H : Hp} {a : Addr} {xs : List V} (h : SqT K H a xs) : TyX K H (.ref a) (.type "tuple") := by
  rcases h with (h | ⟨o, h⟩) | ⟨o, its, n, hk, hc, _⟩
  · exact .base (.tup h)
  · exact .fTuple h
  · exact .kTuple hk hc
theorem ty_dp {K : PySem.W.Frag} {H : Hp} {x : V} {d : PyData} (h : Dp K H x d) : TyX K H x (.type (nameD d)) := by
  cases h with
  | non => exact .base .non
  | bl b => exact .base (.bl b)
  | int i => exact .base (.int i)
  | str z => exact .base (.str z)
  | lst h _ => exact ty_sqL h
  | tup h _ => exact ty_sqT h
theorem dpAll_len {K : PySem.W.Frag} {H : Hp} {xs : List V} {ds : List PyData} (h : DpAll K H xs ds) : xs.length = ds.length := by
  induction ds generalizing xs with
  | nil => cases h; rfl
  | cons d ds ih =>
    cases h with
    | cons a b => rw [List.length_cons, List.length_cons, ih b]
theorem dpAll_at {K : PySem.W.Frag} {H : Hp} {xs : List V} {ds : List PyData} (h : DpAll K H xs ds) {i : Nat} {d : PyData} (e : ds[i]? = some d) : ∃ x, xs[i]? = some x ∧ Dp K H x d := by
  induction ds generalizing xs i with
  | nil => cases e
  | cons c ds ih =>
    cases h with
    | cons a b =>
      cases i with
      | zero =>
        have e' : c = d := Option.some.inj e
        exact ⟨_, rfl, e' ▸ a⟩
      | succ i => exact ih b e
theorem depth_at {ds : List PyData} {i : Nat} {d : PyData} (e : ds[i]? = some d) : d.depth ≤ PyData.depthAll ds := by
  induction ds generalizing i with
  | nil => cases e
  | cons c ds ih =>
    rw [PyData.depthAll]
    cases i with
    | zero =>
      have e' : c = d := Option.some.inj e
      subst e'
      exact Nat.le_max_left _ _
    | succ i => exact Nat.le_trans (ih e) (Nat.le_max_right _ _)
theorem dpAll_ints {K : PySem.W.Frag} {H : Hp} : ∀ ns : List Int, DpAll K H (ns.map V.int) (ns.map PyData.int)
  | [] => .nil
  | n :: r => .cons (.int n) (dpAll_ints r)
theorem depth_ints : ∀ ns : List Int, PyData.depthAll (ns.map PyData.int) = 0
  | [] => rfl
  | n :: r => by rw [List.map_cons, PyData.depthAll, depth_ints r, PyData.depth]; rfl
mutual
def lenD : PyData → Nat
  | .list xs => lenAll xs
  | .tuple xs => lenAll xs
  | .dict _ => 0
  | .none => 0
  | .bool _ => 0
  | .int _ => 0
  | .str _ => 0
def lenAll : List PyData → Nat
  | [] => 0
  | x :: xs => lenD x + 1 + lenAll xs
end
theorem len_le : ∀ ds : List PyData, ds.length ≤ lenAll ds
  | [] => Nat.le_refl _
  | d :: ds => by
    have := len_le ds
    rw [lenAll, List.length_cons]
    omega
theorem len_at : ∀ {ds : List PyData} {i : Nat} {d : PyData}, ds[i]? = some d → lenD d ≤ lenAll ds
  | [], _, _, e => by cases e
  | c :: ds, 0, d, e => by
    have e' : c = d := Option.some.inj e
    subst e'
    rw [lenAll]
    omega
  | c :: ds, i + 1, d, e => by
    have := len_at (ds := ds) (i := i) e
    rw [lenAll]
    omega
theorem lenAll_ints : ∀ ns : List Int, lenAll (ns.map PyData.int) = ns.length
  | [] => rfl
  | n :: r => by rw [List.map_cons, lenAll, lenAll_ints r, lenD, List.length_cons]; omega
/-- two values that are the same data, less than n deep: True -/
def spSame (K : PySem.W.Frag) (n : Nat) : Sp := fun vs H Q _ => ∃ (x y : V) (d : PyData), vs = [x, y] ∧ Dp K H x d ∧ Dp K H y d ∧ d.depth < n ∧ lenD d < 2 ^ 62 ∧ Q (.bl true) H
section
variable {P : Program} {w : World} {K : PySem.W.Frag} {mg : Str → Option Value} {base : Heap}
theorem ok_same (T : TX K mg) : ∀ n, Can P w K mg base CX0 n (He.fAd K at__law_same) ps__law_same [] (spSame K n)
  | 0 => by
    obtain ⟨fd, _, b⟩ := mk__law_same (P := P) (w := w) (base := base) (CX := CX0) (k := 0) (sp := fun _ _ _ _ => False) T fun fd F => ⟨fun _ _ _ _ h => h.elim, fun _ _ _ _ _ _ _ _ _ _ _ _ _ h => h.elim⟩
    exact ⟨fd, ⟨fun _ _ _ _ ⟨_, _, _, _, _, _, h, _⟩ => absurd h (Nat.not_lt_zero _), fun _ _ _ _ _ _ _ _ _ _ _ _ _ ⟨_, _, _, _, _, _, h, _⟩ => absurd h (Nat.not_lt_zero _)⟩, b⟩
  | n + 1 => by
    obtain ⟨fd_s, G__law_same, ds_s, v__law_same, b__law_same⟩ := ok_same T n
    exact mk__law_same T fun fd F => def0 F sc__law_same (fun vs H Q E h => by
      obtain ⟨x, y, d, rfl, _⟩ := h
      rfl) fun cdv A outer s H vs Q E hr h => by
      obtain ⟨x, y, d, rfl, hx, hy, hd, hz0, k⟩ := h
      refine ⟨_, (pss_cons (ps_if (PW.pt (pw_or (pt_val (pe_callB (cIsi K rfl) (by rfl) T.n_isinstance (by decide +kernel) (pa_cons (pv 1) (pa_cons (pe_bltn (v := .ty "tuple") rfl T.n_tuple (by decide +kernel) rfl) pa_nil)))) (pw_or1 (pt_val (pe_callB (cIsi K rfl) (by rfl) T.n_isinstance (by decide +kernel) (pa_cons (pv 1) (pa_cons (pe_bltn (v := .ty "list") rfl T.n_list (by decide +kernel) rfl) pa_nil))))))) (pss_cons (ps_if (PW.pt (pw_or (pt_cmpR op_ne (pe_callB (cIsi K rfl) (by rfl) T.n_isinstance (by decide +kernel) (pa_cons (pv 1) (pa_cons (pe_bltn (v := .ty "tuple") rfl T.n_tuple (by decide +kernel) rfl) pa_nil))) (pe_callB (cIsi K rfl) (by rfl) T.n_isinstance (by decide +kernel) (pa_cons (pv 0) (pa_cons (pe_bltn (v := .ty "tuple") rfl T.n_tuple (by decide +kernel) rfl) pa_nil))) (nomark _)) (pw_or1 (pt_cmpR op_ne (pe_callB (cIsi K rfl) (by rfl) T.n_isinstance (by decide +kernel) (pa_cons (pv 1) (pa_cons (pe_bltn (v := .ty "list") rfl T.n_list (by decide +kernel) rfl) pa_nil))) (pe_callB (cIsi K rfl) (by rfl) T.n_isinstance (by decide +kernel) (pa_cons (pv 0) (pa_cons (pe_bltn (v := .ty "list") rfl T.n_list (by decide +kernel) rfl) pa_nil))) (nomark _))))) (pss_one (ps_ret pe_bl)) pss_nil)
  (pss_cons (ps_if (pt_cmpR op_ne (pe_callB (cLen K rfl) (by rfl) T.n_len PySem.boot_len (pa_cons (pv 0) pa_nil)) (pe_callB (cLen K rfl) (by rfl) T.n_len PySem.boot_len (pa_cons (pv 1) pa_nil)) (nomark _)) (pss_one (ps_ret pe_bl)) pss_nil)
  (pss_cons (ps_for PassesOwn.never rfl (pi_range1 rfl T.n_range (pa_cons (pe_callB (cLen K rfl) (by rfl) T.n_len PySem.boot_len (pa_cons (pv 1) pa_nil)) pa_nil)) (pg_name (i := 2) sc__law_same.nd rfl (Or.inl rfl))
  (pss_one (ps_if (pt_not (pt_val (pe_call G__law_same (hr.mono (by first | decide | omega)) rfl T.g__law_same T.k__law_same b__law_same v__law_same pass0 (pa_cons (pe_ix (ixS K rfl) (pv 0) (pv 2) (fun _ _ => rfl)) (pa_cons (pe_ix (ixS K rfl) (pv 1) (pv 2) (fun _ _ => rfl)) pa_nil))))) (pss_one (ps_ret pe_bl)) pss_nil)))
  (pss_one (ps_ret pe_bl))))) pss_nil)
  (pss_cons (ps_if (pt_cmpR op_ne (pe_callB (cIsi K rfl) (by rfl) T.n_isinstance (by decide +kernel) (pa_cons (pv 1) (pa_cons (pe_bltn (v := .ty "bool") rfl T.n_bool (by decide +kernel) rfl) pa_nil))) (pe_callB (cIsi K rfl) (by rfl) T.n_isinstance (by decide +kernel) (pa_cons (pv 0) (pa_cons (pe_bltn (v := .ty "bool") rfl T.n_bool (by decide +kernel) rfl) pa_nil))) (nomark _)) (pss_one (ps_ret pe_bl)) pss_nil)
  (pss_cons (ps_if (PW.pt (pw_or (pt_cmpR op_ne (pe_callB (cIsi K rfl) (by rfl) T.n_isinstance (by decide +kernel) (pa_cons (pv 1) (pa_cons (pe_bltn (v := .ty "int") rfl T.n_int (by decide +kernel) rfl) pa_nil))) (pe_callB (cIsi K rfl) (by rfl) T.n_isinstance (by decide +kernel) (pa_cons (pv 0) (pa_cons (pe_bltn (v := .ty "int") rfl T.n_int (by decide +kernel) rfl) pa_nil))) (nomark _)) (pw_or1 (pt_cmpR op_ne (pe_callB (cIsi K rfl) (by rfl) T.n_isinstance (by decide +kernel) (pa_cons (pv 1) (pa_cons (pe_bltn (v := .ty "str") rfl T.n_str (by decide +kernel) rfl) pa_nil))) (pe_callB (cIsi K rfl) (by rfl) T.n_isinstance (by decide +kernel) (pa_cons (pv 0) (pa_cons (pe_bltn (v := .ty "str") rfl T.n_str (by decide +kernel) rfl) pa_nil))) (nomark _))))) (pss_one (ps_ret pe_bl)) pss_nil)
  (pss_one (ps_ret (pe_cmpR op_eq (pv 0) (pv 1) (nomark _))))))), ?_⟩
      have tx := ty_dp hx
      have ty := ty_dp hy
      cases hx with
      | non =>
        cases hy
        replace tx : TyX K H .non (.type "NoneType") := tx
        replace ty : TyX K H .non (.type "NoneType") := ty
        refine st_seq (st_no (ans_or (ans_val (val_isi (val_var rfl) ty (by decide +kernel))) (ans_val (val_isi (val_var rfl) ty (by decide +kernel)))) ?_)
        refine st_seq (st_no (ans_v (val_is (w := .bl false) (val_ne (val_isi (b := false) (val_var rfl) ty (by decide +kernel)) (val_isi (b := false) (val_var rfl) tx (by decide +kernel)) rfl) rfl)) ?_)
        refine st_seq (st_no (ans_or (ans_v (val_is (w := .bl false) (val_ne (val_isi (b := false) (val_var rfl) ty (by decide +kernel)) (val_isi (b := false) (val_var rfl) tx (by decide +kernel)) rfl) rfl)) (ans_v (val_is (w := .bl false) (val_ne (val_isi (b := false) (val_var rfl) ty (by decide +kernel)) (val_isi (b := false) (val_var rfl) tx (by decide +kernel)) rfl) rfl))) ?_)
        exact st_ret (v := .bl true) (val_is (val_eq (val_var rfl) (val_var rfl) rfl) (by simp)) k
      | bl b =>
        cases hy
        replace tx : TyX K H (.bl b) (.type "bool") := tx
        replace ty : TyX K H (.bl b) (.type "bool") := ty
        refine st_seq (st_no (ans_or (ans_val (val_isi (val_var rfl) ty (by decide +kernel))) (ans_val (val_isi (val_var rfl) ty (by decide +kernel)))) ?_)
        refine st_seq (st_no (ans_v (val_is (w := .bl false) (val_ne (val_isi (b := true) (val_var rfl) ty (by decide +kernel)) (val_isi (b := true) (val_var rfl) tx (by decide +kernel)) rfl) rfl)) ?_)
        refine st_seq (st_no (ans_or (ans_v (val_is (w := .bl false) (val_ne (val_isi (b := true) (val_var rfl) ty (by decide +kernel)) (val_isi (b := true) (val_var rfl) tx (by decide +kernel)) rfl) rfl)) (ans_v (val_is (w := .bl false) (val_ne (val_isi (b := false) (val_var rfl) ty (by decide +kernel)) (val_isi (b := false) (val_var rfl) tx (by decide +kernel)) rfl) rfl))) ?_)
        exact st_ret (v := .bl true) (val_is (val_eq (val_var rfl) (val_var rfl) rfl) (by simp)) k
      | int i =>
        cases hy
        replace tx : TyX K H (.int i) (.type "int") := tx
        replace ty : TyX K H (.int i) (.type "int") := ty
        refine st_seq (st_no (ans_or (ans_val (val_isi (val_var rfl) ty (by decide +kernel))) (ans_val (val_isi (val_var rfl) ty (by decide +kernel)))) ?_)
        refine st_seq (st_no (ans_v (val_is (w := .bl false) (val_ne (val_isi (b := false) (val_var rfl) ty (by decide +kernel)) (val_isi (b := false) (val_var rfl) tx (by decide +kernel)) rfl) rfl)) ?_)
        refine st_seq (st_no (ans_or (ans_v (val_is (w := .bl false) (val_ne (val_isi (b := true) (val_var rfl) ty (by decide +kernel)) (val_isi (b := true) (val_var rfl) tx (by decide +kernel)) rfl) rfl)) (ans_v (val_is (w := .bl false) (val_ne (val_isi (b := false) (val_var rfl) ty (by decide +kernel)) (val_isi (b := false) (val_var rfl) tx (by decide +kernel)) rfl) rfl))) ?_)
        exact st_ret (v := .bl true) (val_is (val_eq (val_var rfl) (val_var rfl) rfl) (by simp)) k
      | str z =>
        cases hy
        replace tx : TyX K H (.str z) (.type "str") := tx
        replace ty : TyX K H (.str z) (.type "str") := ty
        refine st_seq (st_no (ans_or (ans_val (val_isi (val_var rfl) ty (by decide +kernel))) (ans_val (val_isi (val_var rfl) ty (by decide +kernel)))) ?_)
        refine st_seq (st_no (ans_v (val_is (w := .bl false) (val_ne (val_isi (b := false) (val_var rfl) ty (by decide +kernel)) (val_isi (b := false) (val_var rfl) tx (by decide +kernel)) rfl) rfl)) ?_)
        refine st_seq (st_no (ans_or (ans_v (val_is (w := .bl false) (val_ne (val_isi (b := false) (val_var rfl) ty (by decide +kernel)) (val_isi (b := false) (val_var rfl) tx (by decide +kernel)) rfl) rfl)) (ans_v (val_is (w := .bl false) (val_ne (val_isi (b := true) (val_var rfl) ty (by decide +kernel)) (val_isi (b := true) (val_var rfl) tx (by decide +kernel)) rfl) rfl))) ?_)
        exact st_ret (v := .bl true) (val_is (val_eq (val_var rfl) (val_var rfl) rfl) (by simp)) k
      | @lst a xs ds sx ax =>
        cases hy with
        | @lst b ys _ sy ay =>
          replace tx : TyX K H (.ref a) (.type "list") := tx
          replace ty : TyX K H (.ref b) (.type "list") := ty
          have hd' : PyData.depthAll ds < n := by
            rw [PyData.depth] at hd
            omega
          have ex := dpAll_len ax
          have ey := dpAll_len ay
          rw [lenD] at hz0
          have hz := Nat.lt_of_le_of_lt (len_le ds) hz0
          refine st_seq (st_yes (ans_or (ans_val (val_isi (val_var rfl) ty (by decide +kernel))) (ans_val (val_isi (val_var rfl) ty (by decide +kernel)))) ?_)
          refine st_seq (st_no (ans_or (ans_v (val_is (w := .bl false) (val_ne (val_isi (b := false) (val_var rfl) ty (by decide +kernel)) (val_isi (b := false) (val_var rfl) tx (by decide +kernel)) rfl) rfl)) (ans_v (val_is (w := .bl false) (val_ne (val_isi (b := true) (val_var rfl) ty (by decide +kernel)) (val_isi (b := true) (val_var rfl) tx (by decide +kernel)) rfl) rfl))) ?_)
          refine st_seq (st_no (ans_v (val_is (w := .bl false) (val_ne (val_lenL (val_var rfl) sx) (val_lenL (val_var rfl) sy) rfl) (by rw [ex, ey]; simp))) ?_)
          refine st_seq (st_forR (n := ds.length) (va_one (val_is (val_lenL (val_var rfl) sy) (by rw [ey]))) hz (fun i σ H' => ∃ v, σ = [some (.ref a), some (.ref b), v] ∧ H' = H) ⟨none, rfl, rfl⟩ ?_ ?_)
          · rintro i σ H' hi ⟨v, rfl, rfl⟩
            obtain ⟨u1, g1, g2⟩ := dpAll_at ax (List.getElem?_eq_getElem hi)
            obtain ⟨u2, g3, g4⟩ := dpAll_at ay (List.getElem?_eq_getElem hi)
            have h3 := depth_at (List.getElem?_eq_getElem hi)
            have h4 := len_at (List.getElem?_eq_getElem hi)
            exact st_no (ans_is (ans_not (ans_val (val_call (va_two (val_ixSL (val_var rfl) (val_var rfl) sx (atI_nat g1)) (val_ixSL (val_var rfl) (val_var rfl) sy (atI_nat g3))) fun Q q => ⟨_, _, _, rfl, g2, g4, by omega, by omega, q⟩))) rfl) ⟨_, rfl, rfl⟩
          · rintro σ H' ⟨v, rfl, rfl⟩
            exact k
      | @tup a xs ds sx ax =>
        cases hy with
        | @tup b ys _ sy ay =>
          replace tx : TyX K H (.ref a) (.type "tuple") := tx
          replace ty : TyX K H (.ref b) (.type "tuple") := ty
          have hd' : PyData.depthAll ds < n := by
            rw [PyData.depth] at hd
            omega
          have ex := dpAll_len ax
          have ey := dpAll_len ay
          rw [lenD] at hz0
          have hz := Nat.lt_of_le_of_lt (len_le ds) hz0
          refine st_seq (st_yes (ans_or1 (ans_val (val_isi (val_var rfl) ty (by decide +kernel)))) ?_)
          refine st_seq (st_no (ans_or (ans_v (val_is (w := .bl false) (val_ne (val_isi (b := true) (val_var rfl) ty (by decide +kernel)) (val_isi (b := true) (val_var rfl) tx (by decide +kernel)) rfl) rfl)) (ans_v (val_is (w := .bl false) (val_ne (val_isi (b := false) (val_var rfl) ty (by decide +kernel)) (val_isi (b := false) (val_var rfl) tx (by decide +kernel)) rfl) rfl))) ?_)
          refine st_seq (st_no (ans_v (val_is (w := .bl false) (val_ne (val_lenT (val_var rfl) sx) (val_lenT (val_var rfl) sy) rfl) (by rw [ex, ey]; simp))) ?_)
          refine st_seq (st_forR (n := ds.length) (va_one (val_is (val_lenT (val_var rfl) sy) (by rw [ey]))) hz (fun i σ H' => ∃ v, σ = [some (.ref a), some (.ref b), v] ∧ H' = H) ⟨none, rfl, rfl⟩ ?_ ?_)
          · rintro i σ H' hi ⟨v, rfl, rfl⟩
            obtain ⟨u1, g1, g2⟩ := dpAll_at ax (List.getElem?_eq_getElem hi)
            obtain ⟨u2, g3, g4⟩ := dpAll_at ay (List.getElem?_eq_getElem hi)
            have h3 := depth_at (List.getElem?_eq_getElem hi)
            have h4 := len_at (List.getElem?_eq_getElem hi)
            exact st_no (ans_is (ans_not (ans_val (val_call (va_two (val_ixST (val_var rfl) (val_var rfl) sx (atI_nat g1)) (val_ixST (val_var rfl) (val_var rfl) sy (atI_nat g3))) fun Q q => ⟨_, _, _, rfl, g2, g4, by omega, by omega, q⟩))) rfl) ⟨_, rfl, rfl⟩
          · rintro σ H' ⟨v, rfl, rfl⟩
            exact k
end
/-! ### the draws of trees -/
def spString : Sp := fun vs H Q _ => ∃ (d : Addr) (m : Nat), vs = [.ref d, .int (m : Int)] ∧ 1 ≤ m ∧ m ≤ 1000 ∧ Dr H d ∧ ∀ (z : Str) (H' : Hp), okText m z → Dr H' d → Kp [d] H H' → Q (.str z) H'
def spNames : Sp := fun vs H Q _ => ∃ d : Addr, vs = [.ref d] ∧ Dr H d ∧ ∀ (p : Addr) (ns : List Str) (H' : Hp), H p = none → ns ≠ [] → ns.length ≤ 4 → (∀ n ∈ ns, n ∈ fourNames) → Dr H' d → Kp [d] H H' → H' p = some (.lst (ns.map V.str)) → Q (.ref p) H'
section
variable {P : Program} {w : World} {K : PySem.W.Frag} {mg : Str → Option Value} {base : Heap}
theorem ok__law_string (T : TX K mg) : Can P w K mg base CX0 2 (He.fAd K at__law_string) ps__law_string [] spString := by
  obtain ⟨fd__law_take, G__law_take, ds__law_take, v__law_take, b__law_take⟩ := ok__law_take (P := P) (w := w) (base := base) T
  exact mk__law_string T fun fd F => def0 F sc__law_string (fun vs H Q E h => by
    obtain ⟨d, m, rfl, _⟩ := h
    rfl) fun cdv A outer s H vs Q E hr h => by
    obtain ⟨d, m, rfl, m0, m1, D, k⟩ := h
    refine ⟨_, (pss_cons (ps_set (i := 2) sc__law_string.nd rfl (Or.inl rfl) pe_str)
  (pss_cons (ps_set (i := 3) sc__law_string.nd rfl (Or.inl rfl) pe_str)
  (pss_cons (ps_for PassesOwn.never rfl (pi_range1 rfl T.n_range (pa_cons (pe_op op_add pe_int (pe_call G__law_take (hr.mono (by first | decide | omega)) rfl T.g__law_take T.k__law_take b__law_take v__law_take pass0 (pa_cons (pv 0) (pa_cons (pv 1) pa_nil)))) pa_nil)) (pg_name (i := 4) sc__law_string.nd rfl (Or.inl rfl))
  (pss_one (ps_set (i := 3) sc__law_string.nd rfl (Or.inl rfl) (pe_op op_add_str (pv 3) (pe_ix ix_str (pv 2) (pe_call G__law_take (hr.mono (by first | decide | omega)) rfl T.g__law_take T.k__law_take b__law_take v__law_take pass0 (pa_cons (pv 0) (pa_cons (pe_callB call_len_str (by rfl) T.n_len PySem.boot_len (pa_cons (pv 2) pa_nil)) pa_nil))) (fun _ _ => rfl))))))
  (pss_one (ps_ret (pv 3)))))), ?_⟩
    refine st_seq (go_asg ?_)
    dsimp only [gName]
    refine st_seq (go_asg ?_)
    dsimp only [gName]
    refine st_seq ?_
    refine rd_take rfl (val_var rfl) (by omega) D fun n H1 n0 n1 D1 e1 => ?_
    refine ⟨1, n, rfl, rfl, 1 + n, rfl, by omega, by omega, for_range (lo := 0) (n := (1 + n).toNat) (fun i σ G => ∃ (v4 : Option V) (z : Str), σ = [some (.ref d), some (.int (m : Int)), some (.str twelve), some (.str z), v4] ∧ Kp [d] H G ∧ Dr G d ∧ z.cps.size = i ∧ ∀ c ∈ z.cps.toList, c ∈ signCs) ⟨none, Str.ofString "", rfl, e1, D1, rfl, fun c hc => by cases hc⟩ ?_ ?_⟩
    · rintro i σ G hi ⟨v4, z, rfl, e, DG, hz, hc⟩
      refine go_asg ?_
      refine ⟨_, rfl, _, rfl, ?_⟩
      refine rd_take rfl (val_cb (va_one (val_var rfl)) fun Q q => ⟨twelve, rfl, by decide +kernel, q⟩) (by decide +kernel) DG fun v G2 v0 v1 D2 e2 => ?_
      have hv : v.toNat < signCs.length := by
        have : (twelve.length : Int) = 12 := by decide +kernel
        show v.toNat < 12
        omega
      have hcs : twelve.cps.toList = signCs := by decide +kernel
      have hat : atI twelve.cps.toList v = some signCs[v.toNat] := by
        have hn : (v.toNat : Int) = v := Int.toNat_of_nonneg v0
        have q := atI_nat (xs := twelve.cps.toList) (j := v.toNat) (v := signCs[v.toNat]) (by rw [hcs]; exact List.getElem?_eq_getElem hv)
        rwa [hn] at q
      refine ⟨twelve, v, signCs[v.toNat], rfl, rfl, by decide +kernel, hat, z, ⟨#[signCs[v.toNat]]⟩, rfl, rfl, sz_of (by show z.cps.size + 1 ≤ _; omega), ?_⟩
      have ec : (z ++ (⟨#[signCs[v.toNat]]⟩ : Str)).cps = z.cps ++ #[signCs[v.toNat]] := rfl
      refine ⟨_, _, rfl, e.trans e2, D2, by rw [ec, Array.size_append, hz] <;> rfl, fun c hc' => ?_⟩
      rw [ec, Array.toList_append, List.mem_append] at hc'
      rcases hc' with q | q
      · exact hc c q
      · have : c ∈ [signCs[v.toNat]] := q
        rw [List.mem_singleton.mp this]
        exact List.getElem_mem hv
    · rintro σ G ⟨v4, z, rfl, e, DG, hz, hc⟩
      exact st_ret (val_var rfl) (k z G ⟨by omega, by omega, hc⟩ DG e)
theorem ok__law_names (T : TX K mg) : Can P w K mg base CX0 2 (He.fAd K at__law_names) ps__law_names [] spNames := by
  obtain ⟨fd__law_take, G__law_take, ds__law_take, v__law_take, b__law_take⟩ := ok__law_take (P := P) (w := w) (base := base) T
  exact mk__law_names T fun fd F => def0 F sc__law_names (fun vs H Q E h => by
    obtain ⟨d, rfl, _⟩ := h
    rfl) fun cdv A outer s H vs Q E hr h => by
    obtain ⟨d, rfl, D, k⟩ := h
    refine ⟨_, (pss_one (ps_ret (pe_slice (slL K rfl) (pe_lst (pa_cons pe_str (pa_cons pe_str (pa_cons pe_str (pa_cons pe_str pa_nil))))) po_none (po_some (pe_op op_add pe_int (pe_call G__law_take (hr.mono (by first | decide | omega)) rfl T.g__law_take T.k__law_take b__law_take v__law_take pass0 (pa_cons (pv 0) (pa_cons pe_int pa_nil)))))))), ?_⟩
    refine ⟨by show 4 ≤ sizeLine; decide, fun l hl => ?_⟩
    have nld : l ∉ [d] := by simpa using D.ne hl
    refine rd_take rfl val_c (by decide) (D.put hl) fun v H1 v0 v1 D1 e1 => ?_
    refine ⟨1, v, rfl, rfl, 1 + v, rfl, l, _, rfl, SqL.of (e1.at upd_same nld), fun p hp => ?_⟩
    obtain ⟨j, hj⟩ : ∃ j : Nat, 1 + v = (j : Int) := ⟨(1 + v).toNat, by omega⟩
    rw [hj, cut_to (by show j ≤ 4; omega)]
    have hf : [V.str "a", V.str "b", V.str "abcdefghijkl", V.str "c"].take j = (fourNames.take j).map V.str := by rw [List.map_take] <;> rfl
    have k1 : Kp [d] H H1 := (Kp.of (Ex.new hl)).trans e1
    show Q (.ref p) (upd H1 p (.lst ([V.str "a", V.str "b", V.str "abcdefghijkl", V.str "c"].take j)))
    rw [hf]
    refine k p (fourNames.take j) _ (k1.back (fun a ha => by rw [List.mem_singleton.mp ha]; exact D1.on) hp) (fun z => ?_) (by rw [List.length_take]; omega) (fun n hn => List.mem_of_mem_take hn) (D1.put hp) (k1.trans (Kp.new hp)) upd_same
    have := congrArg List.length z
    rw [List.length_take] at this
    have h4 : fourNames.length = 4 := rfl
    rw [h4] at this
    have : 1 ≤ j := by omega
    simp at *
    omega
/-- new data: v is d by what is new in H' -/
def NewD (K : PySem.W.Frag) (H H' : Hp) (v : V) (d : PyData) : Prop := ∀ H'' : Hp, (∀ a o, H a = none → H' a = some o → H'' a = some o) → Dp K H'' v d
def NewC (K : PySem.W.Frag) (H G : Hp) (p : Addr) (acc : List V) (ds : List PyData) : Prop := ∀ H'' : Hp, (∀ a o, H a = none → a ≠ p → G a = some o → H'' a = some o) → DpAll K H'' acc ds
theorem NewC.snoc {H G G' : Hp} {d p : Addr} {acc : List V} {ds : List PyData} {v : V} {x : PyData} (N : NewC K H G p acc ds) (D : Dr H d) (DG : Dr G d) (hp : G p ≠ none) (e : Kp [d] H G) (e' : Kp [d] G G') (M : NewD K G G' v x) : NewC K H (upd G' p (.lst (acc ++ [v]))) p (acc ++ [v]) (ds ++ [x]) := fun H'' h =>
  dpAll_snoc (N H'' fun a o ha hne hG => h a o ha hne (by
    rw [upd_ne hne]
    exact e'.at hG (by simpa using D.ne ha))) (M H'' fun a o hGa hG' => by
    have hne : a ≠ p := fun z => hp (z ▸ hGa)
    refine h a o (e.back (fun b hb => by rw [List.mem_singleton.mp hb]; exact DG.on) hGa) hne ?_
    rw [upd_ne hne]
    exact hG')
theorem ds_snoc (cs : List Tr) (t : Tr) : Tr.ds (cs ++ [t]) = Tr.ds cs ++ [t.d] := by rw [ds_map, ds_map, List.map_append] <;> rfl
def lastT (cs : List Tr) : Bool := match cs.getLast? with
  | some t => t.isT
  | none => false
theorem apart_snoc : ∀ {cs : List Tr} {t : Tr}, apartT cs → ¬ (lastT cs = true ∧ t.isT = true) → apartT (cs ++ [t])
  | [], _, _, _ => trivial
  | [_], _, _, h => ⟨h, trivial⟩
  | _ :: b :: r, _, ⟨h1, h2⟩, h => ⟨h1, apart_snoc (cs := b :: r) h2 fun z => h ⟨by rw [lastT, List.getLast?_cons_cons]; exact z.1, z.2⟩⟩
theorem isT_type {H : Hp} {x : V} {t : Tr} (h : Dp K H x t.d) : ∃ c, TyX K H x (.type c) ∧ kitB c "str" = some t.isT := by
  cases t with
  | txt z => exact ⟨"str", ty_dp h, (by decide +kernel : kitB "str" "str" = some true)⟩
  | el n cs => exact ⟨"tuple", ty_dp h, (by decide +kernel : kitB "tuple" "str" = some false)⟩
theorem or_any {t u : TT} {σ : L2.St} {H : Hp} {Q : Bool → Hp → Prop} {a : Bool} {R : Bool → Hp → Prop} (h : Ans t σ H a) (hu : a = false → ∀ Q : Bool → Hp → Prop, (∀ b G, R b G → Q b G) → u σ H Q) (ha : a = true → R true H) (k : ∀ b G, R b G → Q b G) : tOr t u σ H Q := by
  refine h _ ?_
  cases a with
  | true => exact iteT (k _ _ (ha rfl))
  | false => exact iteF (hu rfl Q k)
def spTree (K : PySem.W.Frag) (n : Nat) : Sp := fun vs H Q _ => ∃ (d p : Addr) (k : Nat) (ns : List Str), vs = [.ref d, .int (k : Int), .ref p] ∧ k < n ∧ Dr H d ∧ p ≠ d ∧ H p = some (.lst (ns.map V.str)) ∧ ns ≠ [] ∧ ns.length ≤ 4 ∧ (∀ n ∈ ns, n ∈ fourNames) ∧ ∀ (v : V) (nm : Str) (cs : List Tr) (H' : Hp), okTr (k + 1) (.el nm cs) → Dr H' d → Kp [d] H H' → NewD K H H' v (Tr.el nm cs).d → Q v H'
theorem ok__law_tree (T : TX K mg) : ∀ n, Can P w K mg base CX0 (n + 3) (He.fAd K at__law_tree) ps__law_tree [] (spTree K n)
  | 0 => by
    obtain ⟨fd, _, b⟩ := mk__law_tree (P := P) (w := w) (base := base) (CX := CX0) (k := 0) (sp := fun _ _ _ _ => False) T fun fd F => ⟨fun _ _ _ _ h => h.elim, fun _ _ _ _ _ _ _ _ _ _ _ _ _ h => h.elim⟩
    exact ⟨fd, ⟨fun _ _ _ _ ⟨_, _, _, _, _, h, _⟩ => absurd h (Nat.not_lt_zero _), fun _ _ _ _ _ _ _ _ _ _ _ _ _ ⟨_, _, _, _, _, h, _⟩ => absurd h (Nat.not_lt_zero _)⟩, b⟩
  | n + 1 => by
    obtain ⟨fd_s, G__law_tree, ds_s, v__law_tree, b__law_tree⟩ := ok__law_tree T n
    obtain ⟨fd__law_take, G__law_take, ds__law_take, v__law_take, b__law_take⟩ := ok__law_take (P := P) (w := w) (base := base) T
    obtain ⟨fd__law_string, G__law_string, ds__law_string, v__law_string, b__law_string⟩ := ok__law_string (P := P) (w := w) (base := base) T
    exact mk__law_tree T fun fd F => def0 F sc__law_tree (fun vs H Q E h => by
      obtain ⟨d, p, k, ns, rfl, _⟩ := h
      rfl) fun cdv A outer s H vs Q E hr h => by
      obtain ⟨d, p, k, ns, rfl, hk, D, hpd, hp, hn0, hn4, hns, kk⟩ := h
      refine ⟨_, (pss_cons (ps_set (i := 3) sc__law_tree.nd rfl (Or.inl rfl) (pe_lst pa_nil))
  (pss_cons (ps_set (i := 4) sc__law_tree.nd rfl (Or.inl rfl) (pe_call G__law_take (hr.mono (by first | decide | omega)) rfl T.g__law_take T.k__law_take b__law_take v__law_take pass0 (pa_cons (pv 0) (pa_cons pe_int pa_nil))))
  (Evl.pss_cut (ps_if (pt_cmpR op_eq (pv 1) pe_int (nomark _)) (pss_one (ps_set (i := 4) sc__law_tree.nd rfl (Or.inl rfl) (pe_call G__law_take (hr.mono (by first | decide | omega)) rfl T.g__law_take T.k__law_take b__law_take v__law_take pass0 (pa_cons (pv 0) (pa_cons pe_int pa_nil))))) pss_nil)
  (pss_cons (ps_for PassesOwn.never rfl (pi_range1 rfl T.n_range (pa_cons (pv 4) pa_nil)) (pg_name (i := 5) sc__law_tree.nd rfl (Or.inl rfl))
  (pss_cons (ps_set (i := 6) sc__law_tree.nd rfl (Or.inl rfl) (pe_and (pe_cmpR op_gt (pe_callB (cLen K rfl) (by rfl) T.n_len PySem.boot_len (pa_cons (pv 3) pa_nil)) pe_int (nomark _)) (pe_one (pe_callB (cIsi K rfl) (by rfl) T.n_isinstance (by decide +kernel) (pa_cons (pe_ix (ixL K rfl) (pv 3) (pe_op op_sub (pe_callB (cLen K rfl) (by rfl) T.n_len PySem.boot_len (pa_cons (pv 3) pa_nil)) pe_int) (fun _ _ => rfl)) (pa_cons (pe_bltn (v := .ty "str") rfl T.n_str (by decide +kernel) rfl) pa_nil))))))
  (pss_one (ps_if (PW.pt (pw_or (pt_cmpR op_eq (pv 1) pe_int (nomark _)) (pw_or1 (pt_cmpR op_eq (pe_call G__law_take (hr.mono (by first | decide | omega)) rfl T.g__law_take T.k__law_take b__law_take v__law_take pass0 (pa_cons (pv 0) (pa_cons pe_int pa_nil))) pe_int (nomark _))))) (pss_one (ps_if (pt_not (pt_val (pv 6))) (pss_one (ps_expr (eBm K rfl PySem.F.plainAttrs_list PySem.F.slot_list_append PySem.F.type_list_append mt_append (pv 3) (pa_cons (pe_call G__law_string (hr.mono (by first | decide | omega)) rfl T.g__law_string T.k__law_string b__law_string v__law_string pass0 (pa_cons (pv 0) (pa_cons pe_int pa_nil))) pa_nil)))) pss_nil)) (pss_one (ps_expr (eBm K rfl PySem.F.plainAttrs_list PySem.F.slot_list_append PySem.F.type_list_append mt_append (pv 3) (pa_cons (pe_call G__law_tree (hr.mono (by first | decide | omega)) rfl T.g__law_tree T.k__law_tree b__law_tree v__law_tree pass0 (pa_cons (pv 0) (pa_cons (pe_op op_sub (pv 1) pe_int) (pa_cons (pv 2) pa_nil)))) pa_nil))))))))
  (pss_one (ps_ret (pe_tup (pa_cons (pe_ix (ixL K rfl) (pv 2) (pe_call G__law_take (hr.mono (by first | decide | omega)) rfl T.g__law_take T.k__law_take b__law_take v__law_take pass0 (pa_cons (pv 0) (pa_cons (pe_callB (cLen K rfl) (by rfl) T.n_len PySem.boot_len (pa_cons (pv 2) pa_nil)) pa_nil))) (fun _ _ => rfl)) (pa_cons (pv 3) pa_nil))))))))), ?_⟩
      refine st_seq ⟨by show 0 ≤ sizeLine; decide, fun c hc => ?_⟩
      dsimp only [gName]
      have ncd : c ≠ d := D.ne hc
      have ncp : c ≠ p := fun z => by rw [z, hp] at hc; cases hc
      refine st_seq (go_asg ?_)
      refine rd_take rfl val_c (by decide) (D.put hc) fun m1 H1 a0 a1 D1 e1 => ?_
      dsimp only [gName]
      have hc1 : H1 c = some (.lst []) := e1.at upd_same (by simpa using ncd)
      have k1 : Kp [d] H H1 := (Kp.new hc).trans e1
      refine ⟨fun σ G => ∃ m : Int, σ = [some (.ref d), some (.int (k : Int)), some (.ref p), some (.ref c), some (.int m), none, none] ∧ Kp [d] H G ∧ Dr G d ∧ G c = some (.lst []) ∧ 0 ≤ m ∧ m < 4, ?_, ?_⟩
      · refine st_if (ans_v (val_eq (val_var rfl) val_c rfl)) (fun _ => ?_) (fun _ => ⟨m1, rfl, k1, D1, hc1, a0, a1⟩)
        refine go_asg ?_
        refine rd_take rfl val_c (by decide) D1 fun m2 H2 b0 b1 D2 e2 => ?_
        exact ⟨m2, rfl, k1.trans e2, D2, e2.at hc1 (by simpa using ncd), b0, by omega⟩
      · rintro σ G ⟨m, rfl, eG, DG, hcG, m0, m4⟩
        refine st_seq ?_
        refine ⟨_, rfl, m, rfl, by omega, by omega, for_range (lo := 0) (n := m.toNat) (fun i σ G => ∃ (v5 v6 : Option V) (acc : List V) (cs : List Tr), σ = [some (.ref d), some (.int (k : Int)), some (.ref p), some (.ref c), some (.int m), v5, v6] ∧ Kp [d] H G ∧ Dr G d ∧ G c = some (.lst acc) ∧ NewC K H G c acc (Tr.ds cs) ∧ cs.length ≤ i ∧ apartT cs ∧ ∀ t ∈ cs, okTr k t) ⟨_, _, [], [], rfl, eG, DG, hcG, fun _ _ => .nil, Nat.le_refl _, trivial, fun t ht => by cases ht⟩ ?_ ?_⟩
        · rintro i σ G hi ⟨v5, v6, acc, cs, rfl, eG, DG, hcG, N, hl, hap, hok⟩
          have hdp := N G fun _ _ _ _ h => h
          have hlen : acc.length = cs.length := by rw [dpa_len hdp, ds_map, List.length_map]
          have hS : SqL K G c acc := SqL.of hcG
          have hbig : acc.length < sizeLine := by
            have : m.toNat < 4 := by omega
            exact sz_lt (by omega)
          have stp : ∀ (v : V) (t : Tr) (σ' : L2.St) (G2 : Hp) (v5' v6' : Option V), σ' = [some (.ref d), some (.int (k : Int)), some (.ref p), some (.ref c), some (.int m), v5', v6'] → Kp [d] G G2 → Dr G2 d → NewD K G G2 v t.d → okTr k t → ¬ (lastT cs = true ∧ t.isT = true) → ∃ (v5 v6 : Option V) (acc' : List V) (cs : List Tr), σ' = [some (.ref d), some (.int (k : Int)), some (.ref p), some (.ref c), some (.int m), v5, v6] ∧ Kp [d] H (upd G2 c (.lst (acc ++ [v]))) ∧ Dr (upd G2 c (.lst (acc ++ [v]))) d ∧ upd G2 c (.lst (acc ++ [v])) c = some (.lst acc') ∧ NewC K H (upd G2 c (.lst (acc ++ [v]))) c acc' (Tr.ds cs) ∧ cs.length ≤ i + 1 ∧ apartT cs ∧ ∀ t ∈ cs, okTr k t := fun v t σ' G2 v5' v6' hσ e2 D2 M ht hlast => ⟨v5', v6', acc ++ [v], cs ++ [t], hσ, (eG.trans e2).mut hc, D2.mut ncd, upd_same, by
              rw [ds_snoc]
              exact N.snoc D DG (by rw [hcG]; exact nofun) eG e2 M, by rw [List.length_append]; show _ + 1 ≤ _; omega, apart_snoc hap hlast, fun u hu => (List.mem_append.mp hu).elim (hok u) fun z => by rw [List.mem_singleton.mp z]; exact ht⟩
          have hb : Val (tAndV (tOp (rI0 fun i j => V.bl (decide (j < i))) (tCB (rLn K) (tCons (tVar 3) tNil)) (tC (V.int 0))) (tCB (rIsi K) (tCons (tOp (rIxL K) (tVar 3) (tOp (rI0 fun i j => V.int (i - j)) (tCB (rLn K) (tCons (tVar 3) tNil)) (tC (V.int 1)))) (tCons (tC (V.ty "str")) tNil)))) [some (.ref d), some (.int (k : Int)), some (.ref p), some (.ref c), some (.int m), some (.int (0 + (i : Int))), v6] G (.bl (lastT cs)) := by
            cases hq : cs.getLast? with
            | none =>
              have hnil : cs = [] := List.getLast?_eq_none_iff.mp hq
              rw [hnil] at hlen
              exact val_is (val_and (a := false) (b := false) (val_is (val_I (val_lenL (val_var rfl) hS) val_c) (by rw [hlen]; rfl)) nofun) (by rw [lastT, hq]; rfl)
            | some t =>
              have hpos : 0 < cs.length := by
                cases cs with
                | nil => cases hq
                | cons _ _ => exact Nat.succ_pos _
              obtain ⟨x, hx, hxd⟩ := dpAll_at hdp (i := cs.length - 1) (d := t.d) (by
                rw [ds_map, List.getElem?_map, ← List.getLast?_eq_getElem?, hq] <;> rfl)
              obtain ⟨ty, h1, h2⟩ := isT_type hxd
              have hat : atI acc ((acc.length : Int) - 1) = some x := by
                have e1 : (acc.length : Int) - 1 = ((cs.length - 1 : Nat) : Int) := by omega
                rw [e1]
                exact atI_nat hx
              exact val_is (val_and (a := true) (b := t.isT) (val_is (val_I (val_lenL (val_var rfl) hS) val_c) (by rw [decide_eq_true (by omega)])) fun _ => val_isi (val_ixL (val_var rfl) (val_I (val_lenL (val_var rfl) hS) val_c) hS hat) h1 h2) (by rw [lastT, hq]; rfl)
          refine st_seq (go_asg (hb _ ?_))
          dsimp only [gName]
          show tOr _ _ _ _ _
          refine or_any (R := fun b G2 => Kp [d] G G2 ∧ Dr G2 d ∧ (k = 0 → b = true)) (ans_v (val_eq (val_var rfl) val_c rfl)) (fun h0 Q' q' => ?_) (fun _ => ⟨Kp.refl, DG, fun _ => rfl⟩) ?_
          · refine rd_take rfl val_c (by decide) DG fun w G2 w0 w1 D2 e2 => ?_
            exact ⟨rfl, _, rfl, q' _ _ ⟨e2, D2, fun z => by subst z; simp at h0⟩⟩
          · rintro b G2 ⟨e2, D2, hb0⟩
            have hc2 : G2 c = some (.lst acc) := e2.at hcG (by simpa using ncd)
            cases b with
            | true =>
              refine iteT (st_if (ans_not (ans_val (val_var rfl))) (fun hn => ?_) (fun hn => ?_))
              · refine ⟨_, rfl, .inl ⟨rfl, acc, SqL.of hc2⟩, _, rfl, d, 5, rfl, by omega, by omega, D2, fun z G3 hz D3 e3 => ?_⟩
                refine ⟨c, acc, _, rfl, rfl, e3.at hc2 (by simpa using ncd), hbig, ?_⟩
                exact stp (.str z) (.txt z) _ G3 _ _ rfl (e2.trans e3) D3 (fun _ _ => .str z) (by cases k <;> exact hz) fun h => by
                  rw [h.1] at hn
                  cases hn
              · exact ⟨_, _, acc, cs, rfl, eG.trans e2, D2, hc2, fun H'' h => N H'' fun a o ha hne hG => h a o ha hne (e2.at hG (by simpa using D.ne ha)), by omega, hap, hok⟩
            | false =>
              refine iteF ?_
              obtain ⟨k', rfl⟩ : ∃ k', k = k' + 1 := ⟨k - 1, by
                have : k ≠ 0 := fun z => by cases hb0 z
                omega⟩
              refine ⟨_, rfl, .inl ⟨rfl, acc, SqL.of hc2⟩, _, rfl, _, rfl, _, 1, rfl, rfl, _, rfl, d, p, k', ns, ?_, by omega, D2, hpd, (eG.trans e2).at hp (by simpa using hpd), hn0, hn4, hns, fun v nm cs' G3 hok' D3 e3 M => ?_⟩
              · have e1 : ((k' + 1 : Nat) : Int) - 1 = (k' : Int) := by omega
                show [V.ref d, V.int (((k' + 1 : Nat) : Int) - 1), V.ref p] = _
                rw [e1]
              · refine ⟨c, acc, _, rfl, rfl, e3.at hc2 (by simpa using ncd), hbig, ?_⟩
                exact stp v (.el nm cs') _ G3 _ _ rfl (e2.trans e3) D3 (fun H'' h => M H'' fun a o hGa hG' => h a o (e2.back (fun b hb => by rw [List.mem_singleton.mp hb]; exact D2.on) hGa) hG') hok' fun h => by cases h.2
        · rintro σ G ⟨v5, v6, acc, cs, rfl, eG, DG, hcG, N, hl, hap, hok⟩
          have hSp : SqL K G p (ns.map V.str) := SqL.of (eG.at hp (by simpa using hpd))
          have hln : ((ns.map V.str).length : Int) = (ns.length : Int) := by rw [List.length_map]
          have hpos : 0 < ns.length := List.length_pos_iff.mpr hn0
          refine ⟨_, rfl, ?_⟩
          refine rd_take rfl (val_lenL (val_var rfl) hSp) (by omega) DG fun j G2 j0 j1 D2 e2 => ?_
          have hj : j.toNat < ns.length := by omega
          have hat : atI (ns.map V.str) j = some (.str ns[j.toNat]) := by
            have q := atI_nat (xs := ns.map V.str) (j := j.toNat) (v := .str ns[j.toNat]) (by rw [List.getElem?_map, List.getElem?_eq_getElem hj] <;> rfl)
            rwa [Int.toNat_of_nonneg j0] at q
          have hc2 : G2 c = some (.lst acc) := e2.at hcG (by simpa using ncd)
          refine ⟨p, _, j, _, rfl, rfl, SqL.of (e2.at (eG.at hp (by simpa using hpd)) (by simpa using hpd)), hat, _, rfl, by show 2 ≤ sizeLine; decide, fun q hq => ?_⟩
          have nqd : q ≠ d := D2.ne hq
          have hqH : H q = none := (eG.trans e2).back (fun b hb => by rw [List.mem_singleton.mp hb]; exact D2.on) hq
          refine kk (.ref q) ns[j.toNat] cs _ ⟨hns _ (List.getElem_mem hj), by omega, hap, hok⟩ (D2.put hq) ((eG.trans e2).trans (Kp.new hq)) fun H'' h => ?_
          refine .tup (SqT.of (h q _ hqH upd_same)) (.cons (.str _) (.cons (.lst (SqL.of (h c _ hc (by rw [upd_ne (fun z => by rw [z, hq] at hc2; cases hc2)]; exact hc2))) (N H'' fun a o ha hne hG => h a o ha ?_)) .nil))
          have h2 : G2 a = some o := e2.at hG (by simpa using D.ne ha)
          rw [upd_ne (fun z => by rw [z, hq] at h2; cases h2)]
          exact h2
end
/-! ### documents as texts, by the law -/
theorem at_cons {x : V} {xs : List V} : atI (x :: xs) 0 = some x := atI_nat (j := 0) rfl
theorem at_one {x y : V} {xs : List V} : atI (x :: y :: xs) 1 = some y := atI_nat (j := 1) rfl
theorem sum_len : ∀ ys : List Str, (ys.map (·.length)).sum = (ys.map (·.cps.toList)).flatten.length
  | [] => rfl
  | y :: ys => by
    rw [List.map_cons, List.map_cons, List.flatten_cons, List.length_append, List.sum_cons, sum_len ys, Array.length_toList]
    rfl
theorem nosign : ("" : Str) = ⟨#[]⟩ := by decide +kernel
def sg : List (Key × V) := [(.inr "<", .str "&lt;"), (.inr ">", .str "&gt;"), (.inr "&", .str "&amp;")]
theorem sL_inj {a b : List Nat} (h : sL a = sL b) : a = b := by
  have := congrArg (fun z : Str => z.cps.toList) h
  exact this
theorem sg_get (c : Nat) : (valV sg (.inr (sL [c]))).getD (.str (sL [c])) = .str (sL (escC c)) := by
  have a1 : ("<" : Str) = sL [60] := by decide +kernel
  have a2 : (">" : Str) = sL [62] := by decide +kernel
  have a3 : ("&" : Str) = sL [38] := by decide +kernel
  have b1 : ("&lt;" : Str) = sL [38, 108, 116, 59] := by decide +kernel
  have b2 : ("&gt;" : Str) = sL [38, 103, 116, 59] := by decide +kernel
  have b3 : ("&amp;" : Str) = sL [38, 97, 109, 112, 59] := by decide +kernel
  have key : ∀ d : Nat, decide ((Sum.inr (sL [d]) : Key) = .inr (sL [c])) = decide (d = c) := fun d => by
    by_cases e : d = c
    · subst e
      simp
    · rw [decide_eq_false e, decide_eq_false fun z => e (by
        have := sL_inj (Sum.inr.inj z)
        exact (List.cons.inj this).1)]
  unfold sg valV escC
  rw [a1, a2, a3, b1, b2, b3]
  by_cases h1 : c = 60
  · subst h1
    simp
  by_cases h2 : c = 62
  · subst h2
    simp [sL]
  by_cases h3 : c = 38
  · subst h3
    simp [sL]
  rw [if_neg h1, if_neg h2, if_neg h3]
  simp only [List.find?, key]
  rw [decide_eq_false fun z => h1 z.symm, decide_eq_false fun z => h2 z.symm, decide_eq_false fun z => h3 z.symm]
  rfl
def spEscaped : Sp := fun vs H Q _ => ∃ z : Str, vs = [.str z] ∧ z.cps.size ≤ 1000 ∧ ∀ H', Ex H H' → Q (.str (esc z)) H'
theorem val_sL {σ : L2.St} {H : Hp} {ta tb : TE} {a b : List Nat} (h : Val ta σ H (.str (sL a))) (h' : Val tb σ H (.str (sL b))) (hz : a.length + b.length ≤ 100000) :
    Val (tOp (fun x y H Q => ∃ i j, x = .str i ∧ y = .str j ∧ i.length + j.length ≤ sizeLine ∧ Q (.str (i ++ j)) H) ta tb) σ H (.str (sL (a ++ b))) :=
  val_op h h' fun _ q => ⟨_, _, rfl, rfl, sz_of (by rw [sL_len, sL_len]; exact hz), by rw [sL_app]; exact q⟩
section
variable {P : Program} {w : World} {K : PySem.W.Frag} {mg : Str → Option Value} {base : Heap}
theorem ok__law_escaped (T : TX K mg) : Can P w K mg base CX0 1 (He.fAd K at__law_escaped) ps__law_escaped [] spEscaped := mk__law_escaped T fun fd F => def0 F sc__law_escaped (fun vs H Q E h => by
  obtain ⟨z, rfl, _⟩ := h
  rfl) fun cdv A outer s H vs Q E hr h => by
  obtain ⟨z, rfl, hz, k⟩ := h
  refine ⟨_, (pss_cons (ps_set (i := 1) sc__law_escaped.nd rfl (Or.inr rfl) (pe_disp (pps_cons pe_str pe_str (pps_cons pe_str pe_str (pps_cons pe_str pe_str pps_nil))) (by rfl) (by rfl) (fun z => by cases z) (by decide)))
  (pss_one (ps_ret (pe_join pe_str (by exact (pe_lc (own := [("letter", 2)]) (g := gName 2) (tt := tYes) rfl sc__law_escaped.nd (pi_str (pv 0)) (blkOk_by (own := [("letter", 2)]) (N := N__law_escaped) (sc := defScope s__law_escaped) (by decide +kernel)) (fun _ _ _ _ _ => by exact (pg_name (i := 2) sc__law_escaped.nd rfl (Or.inl rfl))) (fun _ _ _ _ _ => by exact pts_nil) (fun _ _ _ _ _ => by exact (pe_dget2 (hu_of hr) (pv 1) (pv 2) (pv 2) ⟨rfl, rfl, rfl, rfl⟩)))))))), ?_⟩
  refine st_seq fun p hp => ?_
  simp only [tPairs, tC]
  refine ⟨upd_same, sg, rfl, by decide, ?_⟩
  dsimp only [gName]
  rw [upd_upd, show mergeK [] sg = sg by decide +kernel]
  have e0 : Ex H (upd H p (.dK sg)) := Ex.new hp
  have h0 : upd H p (.dK sg) p = some (.dK sg) := upd_same
  revert e0 h0
  generalize upd H p (.dK sg) = H0
  intro e0 h0
  refine ⟨⟨_, rfl⟩, ?_⟩
  refine ⟨_, rfl, z, rfl, fun D hD => lc_it walk_str (fun i G => Ex H0 G ∧ ∃ ys : List Str, G D = some (.lst (ys.map V.str)) ∧ ys.length = i ∧ ys.map (·.cps.toList) = (z.cps.toList.take i).map escC) ⟨Ex.new hD, [], upd_same, rfl, rfl⟩ (fun _ _ _ _ => trivial) ?_ ?_⟩
  · rintro i x G G' hi ⟨e, ys, hG, hl, hm⟩ ⟨rfl, c, hc, rfl⟩
    refine ⟨rfl, ?_⟩
    refine ⟨_, rfl, p, rfl, .inl ⟨_, .inl (e _ _ h0)⟩, _, rfl, _, rfl, _, DGet.k (k := .inr ⟨#[c]⟩) (e _ _ h0), _, hG, sz_lt (by rw [List.length_map]; omega), e.mut hD, ys ++ [sL (escC c)], ?_, by rw [List.length_append, hl]; rfl, ?_⟩
    · rw [upd_same, List.map_append]
      show some (HO.lst (ys.map V.str ++ [(valV sg (.inr (sL [c]))).getD (.str (sL [c]))])) = _
      rw [sg_get]
      rfl
    · have hc' : z.cps.toList[i]? = some c := by rw [← hc, Array.getElem?_toList]
      rw [List.map_append, hm, List.take_succ, hc', List.map_append]
      rfl
  · rintro G ⟨e, ys, hG, hl, hm⟩
    rw [← Array.length_toList, List.take_length] at hm
    refine ⟨_, D, ys, rfl, rfl, .inl (SqL.of hG), ?_, ?_⟩
    · rw [sum_len, hm]
      have h5 := escL_len z.cps.toList
      have h6 : z.cps.toList.length = z.cps.size := Array.length_toList
      have h7 : (escL z.cps.toList) = (z.cps.toList.map escC).flatten := List.flatMap_def ..
      rw [h7] at h5
      show _ + ys.length * 0 ≤ _
      omega
    · rw [nosign, join0, hm, ← List.flatMap_def]
      exact k G (e0.trans e)
def spWritten (K : PySem.W.Frag) (n : Nat) : Sp := fun vs H Q _ => ∃ (x : V) (b : Bool) (t : Tr) (k : Nat), vs = [x, .bl b] ∧ k < n ∧ k ≤ 5 ∧ okTr k t ∧ Dp K H x t.d ∧ ∀ H', Ex H H' → Q (.str (sL (wr b t))) H'
/-- the parts of an element, as values -/
theorem el_parts {H : Hp} {x : V} {n : Str} {cs : List Tr} (h : Dp K H x (Tr.el n cs).d) : ∃ (a l : Addr) (ys : List V), x = .ref a ∧ SqT K H a [.str n, .ref l] ∧ SqL K H l ys ∧ DpAll K H ys (Tr.ds cs) := by
  cases h with
  | @tup a xs _ sx ax =>
    cases ax with
    | cons h1 r =>
      cases h1
      cases r with
      | cons h2 r2 =>
        cases r2
        cases h2 with
        | @lst l ys _ sl al => exact ⟨a, l, ys, rfl, sx, sl, al⟩
theorem dsAt {H : Hp} {ys : List V} {cs : List Tr} {i : Nat} {x : V} (h : DpAll K H ys (Tr.ds cs)) (e : ys[i]? = some x) : ∃ c, cs[i]? = some c ∧ Dp K H x c.d := by
  obtain ⟨d, hd, hx⟩ := dpa_at h e
  rw [ds_map, List.getElem?_map] at hd
  cases hc : cs[i]? with
  | none => rw [hc] at hd; cases hd
  | some c =>
    rw [hc] at hd
    cases hd
    exact ⟨c, rfl, hx⟩
theorem ok__law_written (T : TX K mg) : ∀ n, Can P w K mg base CX0 (n + 2) (He.fAd K at__law_written) ps__law_written [] (spWritten K n)
  | 0 => by
    obtain ⟨fd, _, b⟩ := mk__law_written (P := P) (w := w) (base := base) (CX := CX0) (k := 0) (sp := fun _ _ _ _ => False) T fun fd F => ⟨fun _ _ _ _ h => h.elim, fun _ _ _ _ _ _ _ _ _ _ _ _ _ h => h.elim⟩
    exact ⟨fd, ⟨fun _ _ _ _ ⟨_, _, _, _, _, h, _⟩ => absurd h (Nat.not_lt_zero _), fun _ _ _ _ _ _ _ _ _ _ _ _ _ ⟨_, _, _, _, _, h, _⟩ => absurd h (Nat.not_lt_zero _)⟩, b⟩
  | n + 1 => by
    obtain ⟨fd_s, G__law_written, ds_s, v__law_written, b__law_written⟩ := ok__law_written T n
    obtain ⟨fd__law_escaped, G__law_escaped, ds__law_escaped, v__law_escaped, b__law_escaped⟩ := ok__law_escaped (P := P) (w := w) (base := base) T
    exact mk__law_written T fun fd F => def0 F sc__law_written (fun vs H Q E h => by
      obtain ⟨x, b, t, k, rfl, _⟩ := h
      rfl) fun cdv A outer s H vs Q E hr h => by
      obtain ⟨x, b, t, k, rfl, hk, h5, hok, hx, kk⟩ := h
      refine ⟨_, (pss_cons (ps_if (pt_val (pe_callB (cIsi K rfl) (by rfl) T.n_isinstance (by decide +kernel) (pa_cons (pv 0) (pa_cons (pe_bltn (v := .ty "str") rfl T.n_str (by decide +kernel) rfl) pa_nil)))) (pss_one (ps_ret (pe_call G__law_escaped (hr.mono (by first | decide | omega)) rfl T.g__law_escaped T.k__law_escaped b__law_escaped v__law_escaped pass0 (pa_cons (pv 0) pa_nil)))) pss_nil)
  (pss_cons (ps_if (PW.pt (pw_and (pt_cmpR op_eq (pe_callB (cLen K rfl) (by rfl) T.n_len PySem.boot_len (pa_cons (pe_ix (ixT K rfl) (pv 0) pe_int (fun _ _ => rfl)) pa_nil)) pe_int (nomark _)) (pw_and1 (pt_not (pt_val (pv 1)))))) (pss_one (ps_ret (pe_op op_add_str (pe_op op_add_str pe_str (pe_ix (ixT K rfl) (pv 0) pe_int (fun _ _ => rfl))) pe_str))) pss_nil)
  (pss_cons (ps_set (i := 2) sc__law_written.nd rfl (Or.inl rfl) (pe_join pe_str (by exact (pe_lc (own := [("child", 3)]) (g := gName 3) (tt := tYes) rfl sc__law_written.nd (iLst K rfl (pe_ix (ixT K rfl) (pv 0) pe_int (fun _ _ => rfl))) (blkOk_by (own := [("child", 3)]) (N := N__law_written) (sc := defScope s__law_written) (by decide +kernel)) (fun _ _ _ _ _ => by exact (pg_name (i := 3) sc__law_written.nd rfl (Or.inl rfl))) (fun _ _ _ _ _ => by exact pts_nil) (fun _ _ _ _ _ => by exact (pe_call G__law_written (hr.mono (by first | decide | omega)) rfl T.g__law_written T.k__law_written b__law_written v__law_written pass0 (pa_cons (pv 3) (pa_cons (pv 1) pa_nil))))))))
  (pss_one (ps_ret (pe_op op_add_str (pe_op op_add_str (pe_op op_add_str (pe_op op_add_str (pe_op op_add_str (pe_op op_add_str pe_str (pe_ix (ixT K rfl) (pv 0) pe_int (fun _ _ => rfl))) pe_str) (pv 2)) pe_str) (pe_ix (ixT K rfl) (pv 0) pe_int (fun _ _ => rfl))) pe_str)))))), ?_⟩
      have tx := ty_dp hx
      have hlen := wr_len b hok
      have hb5 := bnd_le h5
      cases t with
      | txt z =>
        have hz : okText 5 z := by cases k <;> exact hok
        cases hx
        replace tx : TyX K H (.str z) (.type "str") := tx
        refine st_seq (st_yes (ans_val (val_isi (b := true) (val_var rfl) tx (by decide +kernel))) ?_)
        refine go_ret ?_
        refine ⟨_, rfl, z, rfl, by have := hz.2.1; omega, fun H' e => ?_⟩
        have := kk H' e
        rw [wr] at this
        exact this
      | el nm cs =>
        obtain ⟨k', rfl⟩ : ∃ k', k = k' + 1 := by
          cases k with
          | zero => exact hok.elim
          | succ k' => exact ⟨k', rfl⟩
        obtain ⟨hn, hc3, _, hcs⟩ := hok
        replace tx : TyX K H x (.type "tuple") := tx
        obtain ⟨a, l, ys, rfl, sx, sl, al⟩ := el_parts hx
        have hyl : ys.length = cs.length := by rw [dpa_len al, ds_map, List.length_map]
        have hnl := name_len hn
        have nmv : ∀ {σ : L2.St} {G : Hp}, σ[0]? = some (some (.ref a)) → Ex H G → Val (tOp (rIxT K) (tVar 0) (tC (.int 0))) σ G (.str (sL nm.cps.toList)) := fun hσ e => val_is (val_ixT (val_var hσ) val_c (ex_t e sx) at_cons) (by rw [sL_of])
        have c1 : ∀ {σ : L2.St} {G : Hp} (z : Str) (q : List Nat), z.cps.toList = q → Val (tC (.str z)) σ G (.str (sL q)) := fun z q e => val_is val_c (by rw [← e, sL_of])
        refine st_seq (st_no (ans_val (val_isi (b := false) (val_var rfl) tx (by decide +kernel))) ?_)
        refine st_seq (st_if (ans_and3 (ans_v (val_eq (val_lenL (val_ixT (val_var rfl) val_c sx at_one) sl) val_c rfl)) fun _ => ans_not (ans_val (val_var rfl))) (fun h => ?_) (fun h => ?_))
        · have h0 : cs = [] ∧ b = false := by
            have h1 := Bool.and_eq_true_iff.mp h
            have h2 := V.int.inj (of_decide_eq_true h1.1)
            refine ⟨List.length_eq_zero_iff.mp (by omega), ?_⟩
            cases b with
            | true => cases h1.2
            | false => rfl
          obtain ⟨rfl, rfl⟩ := h0
          refine st_ret (val_is (val_sL (val_sL (c1 "<" [60] (by decide +kernel)) (nmv rfl (Ex.refl _)) (by simp only [List.length_append, List.length_cons, List.length_nil]; omega)) (c1 "/>" [47, 62] (by decide +kernel)) (by simp only [List.length_append, List.length_cons, List.length_nil]; omega)) ?_) (kk H (Ex.refl _))
          rw [wr]
          rfl
        · have hw : wr b (.el nm cs) = [60] ++ nm.cps.toList ++ [62] ++ wrs b cs ++ [60, 47] ++ nm.cps.toList ++ [62] := by
            rw [wr, if_neg]
            intro z
            rw [hyl] at h
            cases cs with
            | nil =>
              cases b with
              | true => cases z
              | false => cases h
            | cons _ _ => cases z
          dsimp only [tNext]
          refine st_seq (go_asg ?_)
          refine ⟨⟨_, rfl⟩, ?_⟩
          refine ⟨_, rfl, a, _, 1, _, rfl, rfl, sx, at_one, l, rfl, ⟨_, sl⟩, fun D hD => lc_list (xs := ys) (fun i G => Ex H G ∧ ∃ zs : List Str, G D = some (.lst (zs.map V.str)) ∧ zs.length = i ∧ zs.map (·.cps.toList) = (cs.take i).map (wr b)) ⟨Ex.new hD, [], upd_same, rfl, rfl⟩ (fun i G _ ⟨e, _⟩ => ex_l e sl) ?_ ?_⟩
          · rintro i y G hy ⟨e, zs, hG, hl, hm⟩
            obtain ⟨c, hc, hyc⟩ := dsAt al hy
            have hi := lt_of_at hc
            refine ⟨rfl, ?_⟩
            refine ⟨_, rfl, _, rfl, y, b, c, k', rfl, by omega, by omega, hcs c (List.mem_of_getElem? hc), dp_ex e hyc, fun G2 e2 => ?_⟩
            refine ⟨_, e2 _ _ hG, sz_lt (by rw [List.length_map]; omega), (e.trans e2).mut hD, zs ++ [sL (wr b c)], by rw [upd_same, List.map_append]; rfl, by rw [List.length_append, hl]; rfl, ?_⟩
            rw [List.map_append, hm, List.take_succ, hc, List.map_append]
            rfl
          · rintro G ⟨e, zs, hG, hl, hm⟩
            rw [hyl, List.take_length] at hm
            have hwl : (wrs b cs).length ≤ 10000 := by
              rw [hw] at hlen
              simp only [List.length_append] at hlen
              omega
            refine ⟨_, D, zs, rfl, rfl, .inl (SqL.of hG), ?_, ?_⟩
            · rw [sum_len]
              have : (zs.map (·.cps.toList)).flatten.length ≤ 10000 := by rw [hm, ← wrs_flat]; exact hwl
              show _ + zs.length * 0 ≤ _
              omega
            · rw [nosign, join0, hm, ← wrs_flat]
              dsimp only [gName]
              refine st_ret (val_is (val_sL (val_sL (val_sL (val_sL (val_sL (val_sL (c1 "<" [60] (by decide +kernel)) (nmv rfl e) (by simp only [List.length_append, List.length_cons, List.length_nil]; omega)) (c1 ">" [62] (by decide +kernel)) (by simp only [List.length_append, List.length_cons, List.length_nil]; omega)) (val_var rfl) (by simp only [List.length_append, List.length_cons, List.length_nil]; omega)) (c1 "</" [60, 47] (by decide +kernel)) (by simp only [List.length_append, List.length_cons, List.length_nil]; omega)) (nmv rfl e) (by simp only [List.length_append, List.length_cons, List.length_nil]; omega)) (c1 ">" [62] (by decide +kernel)) (by simp only [List.length_append, List.length_cons, List.length_nil]; omega)) ?_) (kk G e)
              rw [hw]
end
/-! ### the program's writer -/
theorem def0T {P : Program} {w : World} {K : PySem.W.Frag} {mg : Str → Option Value} {base : Heap} {x qual : Str} {params : Arguments} {body : List Stmt} {scope : Scope} {dvs : List V} {kws : List (Str × V)} {f : Addr} {fd : FuncData} {N ps : List Str} {k : Nat} {sp : Sp}
    (F : FunD K x qual params body scope dvs kws f fd) (S : FnScope N ps scope) (hnc : ∀ y ∈ scope.names, y.2 ≠ .cell) (hps : 1 ≤ ps.length) (len : ∀ vs H Q E, sp vs H Q E → vs.length = ps.length)
    (hb : ∀ (cdv : Value) (A : Around) (outer : List Env) (s : Shared) (H : Hp) (vs : List V) (Q : VK) (E : XK), Room k (A.deeper (envOfC qual scope s.heap.objs.size f cdv)) → sp vs H Q E →
      ∃ t, PSsT (cxOf CX0 P w K mg base N qual scope f cdv A outer s H E) body t ∧ t { nx := fun _ H' => Q .non H', rt := Q } (start N vs) H) : FnOk P w K mg base CX0 (k + 1) f fd ps sp := by
  obtain ⟨oc, od, dV, kV, doc, pm, an, cdv, ct, osl, rfl, lk, hcd, _, _⟩ := F.ex
  exact fn_ofT lk hcd S hnc hps len fun A outer s H vs Q E hr hsp => hb cdv A outer s H vs Q E hr hsp
structure Ent where
  a : Addr
  x : V
  t : Tr
  f : Bool
def outE (e : Ent) : List Nat := if e.f then (match e.t with
  | .el n _ => [60, 47] ++ n.cps.toList ++ [62]
  | .txt _ => []) else wr false e.t
mutual
def cost : Tr → Nat
  | .txt _ => 1
  | .el _ cs => 3 + costs cs
def costs : List Tr → Nat
  | [] => 0
  | c :: cs => cost c + costs cs
end
theorem cost_pos : ∀ t : Tr, 1 ≤ cost t
  | .txt _ => by rw [cost]; exact Nat.le_refl _
  | .el _ cs => by rw [cost]; omega
theorem costs_sum : ∀ cs : List Tr, costs cs = (cs.map cost).sum
  | [] => by rw [costs]; rfl
  | c :: cs => by rw [costs, costs_sum cs, List.map_cons, List.sum_cons]
def costE (e : Ent) : Nat := if e.f then 1 else cost e.t
/-- names and texts are short -/
def fitT : Nat → Tr → Prop
  | _, .txt z => z.cps.size ≤ 1000
  | 0, .el _ _ => False
  | k + 1, .el n cs => n.cps.toList.length ≤ 12 ∧ ∀ c ∈ cs, fitT k c
def okE (K : PySem.W.Frag) (H G : Hp) (e : Ent) : Prop := G e.a = some (.tup [e.x, .bl e.f]) ∧ Dp K H e.x e.t.d ∧ (∃ k, fitT k e.t) ∧ (e.f = true → e.t.isT = false)
theorem okE.up {K : PySem.W.Frag} {H G : Hp} {e : Ent} {q : Addr} {o : HO} {l : List V} (h : okE K H G e) (hq : G q = some (.lst l)) : okE K H (upd G q o) e := ⟨by
  rw [upd_ne fun z => by rw [← z, h.1] at hq; cases hq]
  exact h.1, h.2⟩
theorem okE.ex {K : PySem.W.Frag} {H G G' : Hp} {e : Ent} (h : okE K H G e) (x : Ex G G') : okE K H G' e := ⟨x _ _ h.1, h.2⟩
theorem L_le : ∀ L : List Ent, L.length ≤ (L.map costE).sum
  | [] => Nat.le_refl _
  | e :: L => by
    have h1 := L_le L
    have h2 : 1 ≤ costE e := by
      unfold costE
      split
      · exact Nat.le_refl _
      · exact cost_pos _
    rw [List.length_cons, List.map_cons, List.sum_cons]
    omega
theorem es_cost {es : List Ent} (h : ∀ e ∈ es, e.f = false) : (es.map costE).sum = costs (es.map Ent.t) := by
  rw [costs_sum, List.map_map]
  congr 1
  refine List.map_congr_left fun e he => ?_
  unfold costE
  rw [if_neg (by rw [h e he]; nofun)]
  rfl
theorem es_out {es : List Ent} (h : ∀ e ∈ es, e.f = false) : (es.map outE).flatten = wrs false (es.map Ent.t) := by
  rw [wrs_flat, List.map_map]
  congr 1
  refine List.map_congr_left fun e he => ?_
  unfold outE
  rw [if_neg (by rw [h e he]; nofun)]
  rfl
theorem len_costs : ∀ cs : List Tr, cs.length ≤ costs cs
  | [] => Nat.zero_le _
  | c :: cs => by
    have h1 := len_costs cs
    have h2 := cost_pos c
    rw [costs, List.length_cons]
    omega
def spWrite (K : PySem.W.Frag) : Sp := fun vs H Q _ => ∃ (x : V) (t : Tr) (k : Nat), vs = [x] ∧ Dp K H x t.d ∧ fitT k t ∧ cost t ≤ 10000 ∧ (wr false t).length ≤ 100000 ∧ ∀ H', Ex H H' → Q (.str (sL (wr false t))) H'
theorem val_fs3 {σ : L2.St} {H : Hp} {te : TE} {z1 z2 n : Str} {l1 l2 : List Nat} (h : Val te σ H (.str n)) (h1 : z1.cps.toList = l1) (h2 : z2.cps.toList = l2) (hz : l1.length + n.cps.toList.length + l2.length ≤ 1000) :
    Val (fun σ H Q => tJs [tC (.str z1), tFmt te, tC (.str z2)] Str.empty σ H fun out H1 => Q (.str out) H1) σ H (.str (sL (l1 ++ n.cps.toList ++ l2))) := fun Q q => by
  have e0 : Str.empty = sL [] := by decide +kernel
  have e1 : z1 = sL l1 := sL_ext h1
  have e2 : z2 = sL l2 := sL_ext h2
  have e3 : n = sL n.cps.toList := (sL_of n).symm
  have ln : n.length = n.cps.toList.length := Array.length_toList.symm
  refine ⟨z1, rfl, sz_of (by rw [e0, e1, sL_app, sL_len]; simp only [List.nil_append]; omega), h _ (.inl ⟨n, rfl, sz_of (by omega), n, rfl, sz_of ?_, z2, rfl, sz_of ?_, ?_⟩)⟩
  · rw [e0, e1, e3, sL_app, sL_app, sL_len]
    simp only [List.nil_append, List.length_append]
    omega
  · rw [e0, e1, e2, e3, sL_app, sL_app, sL_app, sL_len]
    simp only [List.nil_append, List.length_append]
    omega
  · have : Str.empty ++ z1 ++ n ++ z2 = sL (l1 ++ n.cps.toList ++ l2) := by
      rw [e0, e1, e2]
      conv => lhs; rw [e3]
      rw [sL_app, sL_app, sL_app]
      rfl
    show Q (.str (Str.empty ++ z1 ++ n ++ z2)) H
    rw [this]
    exact q
section
variable {P : Program} {w : World} {K : PySem.W.Frag} {mg : Str → Option Value} {base : Heap}
theorem ok__written (T : TX K mg) : Can P w K mg base CX0 1 (He.fAd K at__written) ps__written [] spEscaped := mk__written T fun fd F => def0T F sc__written (by decide +kernel) (by decide) (fun vs H Q E h => by
  obtain ⟨z, rfl, _⟩ := h
  rfl) fun cdv A outer s H vs Q E hr h => by
  obtain ⟨z, rfl, hz, k⟩ := h
  refine ⟨_, CwR.psst_one (CwR.pst_ret (CwR.pet_replT (CwR.pet_replT (CwR.pet_replC (pv 0))))), ?_⟩
  refine go_ret ?_
  have l1 : ∀ x : Str, (Txt.replace x "&" "&amp;").length ≤ 5 * x.length + x.length + 5 := fun x => Nat.le_trans (TK.replace_len x "&" "&amp;") (by rw [show ("&amp;" : Str).length = 5 by decide +kernel]; omega)
  have l2 : ∀ x : Str, (Txt.replace x "<" "&lt;").length ≤ 4 * x.length + x.length + 4 := fun x => Nat.le_trans (TK.replace_len x "<" "&lt;") (by rw [show ("&lt;" : Str).length = 4 by decide +kernel]; omega)
  have h1 := l1 z
  have h2 := l2 (Txt.replace z "&" "&amp;")
  have hz' : z.length ≤ 1000 := hz
  have n1 : ("&amp;" : Str).length = 5 := by decide +kernel
  have n2 : ("&lt;" : Str).length = 4 := by decide +kernel
  have n3 : ("&gt;" : Str).length = 4 := by decide +kernel
  refine ⟨_, rfl, z, rfl, by rw [n1]; omega, _, rfl, by rw [n2]; omega, _, rfl, by rw [n3]; omega, ?_⟩
  rw [esc_three]
  exact k H (Ex.refl _)
theorem ok_write_document (T : TX K mg) : Can P w K mg base CX0 2 (He.fAd K at_write_document) ps_write_document [] (spWrite K) := by
  obtain ⟨fd__written, G__written, ds__written, v__written, b__written⟩ := ok__written (P := P) (w := w) (base := base) T
  exact mk_write_document T fun fd F => def0 F sc_write_document (fun vs H Q E h => by
    obtain ⟨x, t, k, rfl, _⟩ := h
    rfl) fun cdv A outer s H vs Q E hr h => by
    obtain ⟨x, t, k, rfl, hx, hf, hc, hw, kk⟩ := h
    refine ⟨_, (pss_cons (ps_set (i := 1) sc_write_document.nd rfl (Or.inl rfl) (pe_lst pa_nil))
  (pss_cons (ps_set (i := 2) sc_write_document.nd rfl (Or.inl rfl) (pe_lst (pa_cons (pe_tup (pa_cons (pv 0) (pa_cons pe_bl pa_nil))) pa_nil)))
  (pss_cons (ps_while PassesOwn.never (tTruth K rfl (pv 2))
  (pss_cons (ps_asg (eBm0 K rfl PySem.F.plainAttrs_list PySem.F.slot_list_pop PySem.F.type_list_pop mt_pop (pv 2)) (pg_tup rfl (pgs_cons (pg_name (i := 3) sc_write_document.nd rfl (Or.inl rfl)) (pgs_cons (pg_name (i := 4) sc_write_document.nd rfl (Or.inl rfl)) pgs_nil))))
  (pss_one (ps_if (pt_val (pe_callB (cIsi K rfl) (by rfl) T.n_isinstance (by decide +kernel) (pa_cons (pv 3) (pa_cons (pe_bltn (v := .ty "str") rfl T.n_str (by decide +kernel) rfl) pa_nil)))) (pss_one (ps_expr (eBm K rfl PySem.F.plainAttrs_list PySem.F.slot_list_append PySem.F.type_list_append mt_append (pv 1) (pa_cons (pe_call G__written (hr.mono (by first | decide | omega)) rfl T.g__written T.k__written b__written v__written pass0 (pa_cons (pv 3) pa_nil)) pa_nil)))) (pss_one (ps_if (pt_val (pv 4)) (pss_one (ps_expr (eBm K rfl PySem.F.plainAttrs_list PySem.F.slot_list_append PySem.F.type_list_append mt_append (pv 1) (pa_cons (pe_joined (.cons pe_str (.cons (pe_fmt (pe_ix (ixT K rfl) (pv 3) pe_int (fun _ _ => rfl))) (.cons pe_str .nil)))) pa_nil)))) (pss_one (ps_if (pt_not (tTruth K rfl (pe_ix (ixT K rfl) (pv 3) pe_int (fun _ _ => rfl)))) (pss_one (ps_expr (eBm K rfl PySem.F.plainAttrs_list PySem.F.slot_list_append PySem.F.type_list_append mt_append (pv 1) (pa_cons (pe_joined (.cons pe_str (.cons (pe_fmt (pe_ix (ixT K rfl) (pv 3) pe_int (fun _ _ => rfl))) (.cons pe_str .nil)))) pa_nil)))) (pss_cons (ps_expr (eBm K rfl PySem.F.plainAttrs_list PySem.F.slot_list_append PySem.F.type_list_append mt_append (pv 1) (pa_cons (pe_joined (.cons pe_str (.cons (pe_fmt (pe_ix (ixT K rfl) (pv 3) pe_int (fun _ _ => rfl))) (.cons pe_str .nil)))) pa_nil)))
  (pss_cons (ps_expr (eBm K rfl PySem.F.plainAttrs_list PySem.F.slot_list_append PySem.F.type_list_append mt_append (pv 2) (pa_cons (pe_tup (pa_cons (pv 3) (pa_cons pe_bl pa_nil))) pa_nil)))
  (pss_one (ps_for PassesOwn.never rfl (iRvs K rfl (by rfl) T.n_reversed (pa_cons (pe_ix (ixT K rfl) (pv 3) pe_int (fun _ _ => rfl)) pa_nil)) (pg_name (i := 5) sc_write_document.nd rfl (Or.inl rfl))
  (pss_one (ps_expr (eBm K rfl PySem.F.plainAttrs_list PySem.F.slot_list_append PySem.F.type_list_append mt_append (pv 2) (pa_cons (pe_tup (pa_cons (pv 5) (pa_cons pe_bl pa_nil))) pa_nil))))))))))))))))
  (pss_one (ps_ret (pe_join pe_str (pv 1))))))), ?_⟩
    refine st_seq ⟨by show 0 ≤ sizeLine; decide, fun p hp => ?_⟩
    dsimp only [gName]
    refine st_seq ⟨_, rfl, by show 2 ≤ sizeLine; decide, fun a ha => ⟨by show 1 ≤ sizeLine; decide, fun q hq => ?_⟩⟩
    dsimp only [gName]
    have hpa : p ≠ a := fun z => by rw [← z, upd_same] at ha; cases ha
    have hqa : q ≠ a := fun z => by rw [z, upd_same] at hq; cases hq
    have hpq : p ≠ q := fun z => by rw [← z, upd_ne hpa, upd_same] at hq; cases hq
    have hqH : H q = none := by
      rw [upd_ne hqa, upd_ne hpq.symm] at hq
      exact hq
    have haH : H a = none := by
      rw [upd_ne hpa.symm] at ha
      exact ha
    refine st_seq ⟨fun m σ G => ∃ (v3 v4 v5 : Option V) (ps : List Str) (L : List Ent), σ = [some x, some (.ref p), some (.ref q), v3, v4, v5] ∧ m = (L.map costE).sum ∧ Ex H G ∧ G p = some (.lst (ps.map V.str)) ∧ G q = some (.lst (L.map fun e => V.ref e.a).reverse) ∧ (∀ e ∈ L, okE K H G e) ∧ (ps.map (·.cps.toList)).flatten ++ (L.map outE).flatten = wr false t ∧ ps.length + m ≤ cost t, ⟨cost t, _, _, _, [], [⟨a, x, t, false⟩], rfl, ?_, ?_, ?_, ?_, ?_, ?_, ?_⟩, ?_⟩
    · show cost t = cost t + 0
      rw [Nat.add_zero]
    · exact ((Ex.new hp).mut haH).mut hqH
    · show (upd _ q _) p = _
      rw [upd_ne hpq, upd_ne hpa, upd_same]
      rfl
    · exact upd_same
    · intro e he
      rw [List.mem_singleton.mp he]
      refine ⟨?_, hx, ⟨k, hf⟩, nofun⟩
      show (upd _ q _) a = _
      rw [upd_ne hqa.symm, upd_same]
    · show [] ++ (wr false t ++ []) = _
      rw [List.nil_append, List.append_nil]
    · show 0 + cost t ≤ cost t
      omega
    rintro m σ G ⟨v3, v4, v5, ps, L, rfl, rfl, eG, hGp, hGq, hL, hout, hcost⟩
    refine ⟨_, rfl, _, .inl ⟨_, SqL.of hGq, rfl⟩, ?_⟩
    cases L with
    | nil =>
      refine iteF ?_
      refine ⟨⟨_, rfl⟩, ?_⟩
      have e1 : (ps.map (·.cps.toList)).flatten = wr false t := by
        rw [← hout]
        simp
      refine ⟨_, rfl, _, p, ps, rfl, rfl, .inl (SqL.of hGp), ?_, ?_⟩
      · rw [sum_len, e1]
        show _ + ps.length * 0 ≤ _
        omega
      · rw [nosign, join0, e1]
        exact kk G eG
    | cons e r =>
      have hne : (!((List.map (fun e => V.ref e.a) (e :: r)).reverse).isEmpty) = true := by simp
      rw [hne]
      refine iteT ⟨fun σ' G' => ∃ m', m' < ((e :: r).map costE).sum ∧ ∃ (v3 v4 v5 : Option V) (ps : List Str) (L : List Ent), σ' = [some x, some (.ref p), some (.ref q), v3, v4, v5] ∧ m' = (L.map costE).sum ∧ Ex H G' ∧ G' p = some (.lst (ps.map V.str)) ∧ G' q = some (.lst (L.map fun e => V.ref e.a).reverse) ∧ (∀ e ∈ L, okE K H G' e) ∧ (ps.map (·.cps.toList)).flatten ++ (L.map outE).flatten = wr false t ∧ ps.length + m' ≤ cost t, fun _ _ h => h, ?_⟩
      obtain ⟨ea, ex, et, ef⟩ := e
      obtain ⟨he1, he2, ⟨ke, he3⟩, he4⟩ := hL _ (List.mem_cons_self ..)
      have hxs : (List.map (fun e => V.ref e.a) (⟨ea, ex, et, ef⟩ :: r)).reverse = (List.map (fun e : Ent => V.ref e.a) r).reverse ++ [V.ref ea] := by rw [List.map_cons, List.reverse_cons]
      rw [hxs] at hGq
      have hsum : (List.map costE (⟨ea, ex, et, ef⟩ :: r)).sum = costE ⟨ea, ex, et, ef⟩ + (r.map costE).sum := by rw [List.map_cons, List.sum_cons]
      rw [hsum] at hcost ⊢
      rw [List.map_cons, List.flatten_cons] at hout
      refine st_seq ⟨_, rfl, .inl ⟨rfl, _, SqL.of hGq⟩, q, _, V.ref ea, rfl, rfl, hGq, by simp, ea, _, rfl, SqT.of ((hL _ (List.mem_cons_self ..)).up hGq).1, rfl, _, _, rfl, _, _, rfl, rfl, ?_⟩
      have e1 : Ex H (upd G q (.lst ((List.map (fun e : Ent => V.ref e.a) r).reverse ++ [V.ref ea]).dropLast)) := eG.mut hqH
      have G1p : upd G q (.lst ((List.map (fun e : Ent => V.ref e.a) r).reverse ++ [V.ref ea]).dropLast) p = some (.lst (ps.map V.str)) := by
        rw [upd_ne hpq]
        exact hGp
      have G1q : upd G q (.lst ((List.map (fun e : Ent => V.ref e.a) r).reverse ++ [V.ref ea]).dropLast) q = some (.lst (List.map (fun e : Ent => V.ref e.a) r).reverse) := by rw [upd_same, List.dropLast_concat]
      have okr : ∀ e ∈ r, okE K H (upd G q (.lst ((List.map (fun e : Ent => V.ref e.a) r).reverse ++ [V.ref ea]).dropLast)) e := fun e he => (hL e (List.mem_cons_of_mem _ he)).up hGq
      generalize upd G q (.lst ((List.map (fun e : Ent => V.ref e.a) r).reverse ++ [V.ref ea]).dropLast) = G1 at e1 G1p G1q okr ⊢
      have hrl := L_le r
      have hps : (ps.map V.str).length < sizeLine := sz_lt (by rw [List.length_map]; omega)
      have fin : ∀ (G2 : Hp) (v3 v4 v5 : Option V) (o : List Nat), Ex G1 G2 → outE ⟨ea, ex, et, ef⟩ = o → ∃ m', m' < costE ⟨ea, ex, et, ef⟩ + (r.map costE).sum ∧ ∃ (w3 w4 w5 : Option V) (ps' : List Str) (L : List Ent), [some x, some (.ref p), some (.ref q), v3, v4, v5] = [some x, some (.ref p), some (.ref q), w3, w4, w5] ∧ m' = (L.map costE).sum ∧ Ex H (upd G2 p (.lst (ps.map V.str ++ [V.str (sL o)]))) ∧ upd G2 p (.lst (ps.map V.str ++ [V.str (sL o)])) p = some (.lst (ps'.map V.str)) ∧ upd G2 p (.lst (ps.map V.str ++ [V.str (sL o)])) q = some (.lst (L.map fun e => V.ref e.a).reverse) ∧ (∀ e ∈ L, okE K H (upd G2 p (.lst (ps.map V.str ++ [V.str (sL o)]))) e) ∧ (ps'.map (·.cps.toList)).flatten ++ (L.map outE).flatten = wr false t ∧ ps'.length + m' ≤ cost t := fun G2 v3 v4 v5 o e2 ho => by
        have hc1 : 1 ≤ costE ⟨ea, ex, et, ef⟩ := by
          unfold costE
          split
          · exact Nat.le_refl _
          · exact cost_pos _
        refine ⟨_, by omega, v3, v4, v5, ps ++ [sL o], r, rfl, rfl, (e1.trans e2).mut hp, ?_, ?_, fun e he => ((okr e he).ex e2).up (e2 _ _ G1p), ?_, ?_⟩
        · rw [upd_same, List.map_append]
          rfl
        · rw [upd_ne hpq.symm]
          exact e2 _ _ G1q
        · rw [← hout, ← ho, List.map_append, List.flatten_append, List.append_assoc]
          congr 1
          show (outE _ ++ []) ++ _ = _
          rw [List.append_nil]
        · rw [List.length_append]
          show ps.length + 1 + _ ≤ _
          omega
      have tx : TyX K G1 ex (.type (nameD et.d)) := ty_dp (dp_ex e1 he2)
      cases et with
      | txt z =>
        have hef : ef = false := by
          cases ef with
          | false => rfl
          | true => cases he4 rfl
        subst hef
        replace tx : TyX K G1 ex (.type "str") := tx
        cases he2
        have hz : z.cps.size ≤ 1000 := by cases ke <;> exact he3
        refine st_yes (ans_val (val_isi (b := true) (val_var rfl) tx (by decide +kernel))) ?_
        refine ⟨_, rfl, .inl ⟨rfl, _, SqL.of G1p⟩, _, rfl, z, rfl, hz, fun G2 e2 => ⟨p, _, _, rfl, rfl, e2 _ _ G1p, hps, ?_⟩⟩
        exact fin G2 _ _ _ _ e2 (by show wr false (.txt z) = escL z.cps.toList; rw [wr])
      | el nm cs =>
        replace tx : TyX K G1 ex (.type "tuple") := tx
        obtain ⟨a', l, ys, rfl, sx, sl, al⟩ := el_parts he2
        have hyl : ys.length = cs.length := by rw [dpa_len al, ds_map, List.length_map]
        obtain ⟨ke, rfl⟩ : ∃ k', ke = k' + 1 := by
          cases ke with
          | zero => exact he3.elim
          | succ k' => exact ⟨k', rfl⟩
        obtain ⟨hn, hcs⟩ := he3
        refine st_no (ans_val (val_isi (b := false) (val_var rfl) tx (by decide +kernel))) ?_
        have nmv : Val (tOp (rIxT K) (tVar 3) (tC (.int 0))) [some x, some (.ref p), some (.ref q), some (.ref a'), some (.bl ef), v5] G1 (.str nm) := val_ixT (val_var rfl) val_c (ex_t e1 sx) at_cons
        cases ef with
        | true =>
          refine st_yes (ans_val (val_var rfl)) ?_
          refine st_app G1p (val_var rfl) (val_fs3 nmv (l1 := [60, 47]) (l2 := [62]) (by decide +kernel) (by decide +kernel) (by simp only [List.length_cons, List.length_nil]; omega)) hps ?_
          exact fin G1 _ _ _ _ (Ex.refl _) rfl
        | false =>
          refine st_no (ans_val (val_var rfl)) ?_
          refine st_if (ans_not (b := !ys.isEmpty) fun Q q => (val_ixT (val_var rfl) val_c (ex_t e1 sx) at_one) _ ⟨_, .inl ⟨ys, ex_l e1 sl, rfl⟩, q⟩) (fun hy => ?_) (fun hy => ?_)
          · have h0 : cs = [] := by
              cases cs with
              | nil => rfl
              | cons c r =>
                cases ys with
                | nil => cases hyl
                | cons _ _ => cases hy
            subst h0
            refine st_app G1p (val_var rfl) (val_fs3 nmv (l1 := [60]) (l2 := [47, 62]) (by decide +kernel) (by decide +kernel) (by simp only [List.length_cons, List.length_nil]; omega)) hps ?_
            exact fin G1 _ _ _ _ (Ex.refl _) (by
              show wr false (.el nm []) = _
              rw [wr]
              rfl)
          · have hcs0 : cs.isEmpty = false := by
              cases cs with
              | nil =>
                cases ys with
                | nil => cases hy
                | cons _ _ => cases hyl
              | cons _ _ => rfl
            have hct : costE ⟨ea, .ref a', .el nm cs, false⟩ = 3 + costs cs := by
              show cost (.el nm cs) = _
              rw [cost]
            rw [hct] at hcost ⊢
            have hcl := len_costs cs
            refine st_seq (st_app G1p (val_var rfl) (val_fs3 nmv (l1 := [60]) (l2 := [62]) (by decide +kernel) (by decide +kernel) (by simp only [List.length_cons, List.length_nil]; omega)) hps ?_)
            have okr2 : ∀ e ∈ r, okE K H (upd G1 p (.lst (ps.map V.str ++ [V.str (sL ([60] ++ nm.cps.toList ++ [62]))]))) e := fun e he => (okr e he).up G1p
            have e2 : Ex H (upd G1 p (.lst (ps.map V.str ++ [V.str (sL ([60] ++ nm.cps.toList ++ [62]))]))) := e1.mut hp
            have G2p : upd G1 p (.lst (ps.map V.str ++ [V.str (sL ([60] ++ nm.cps.toList ++ [62]))])) p = some (.lst ((ps ++ [sL ([60] ++ nm.cps.toList ++ [62])]).map V.str)) := by
              rw [upd_same, List.map_append]
              rfl
            have G2q : upd G1 p (.lst (ps.map V.str ++ [V.str (sL ([60] ++ nm.cps.toList ++ [62]))])) q = some (.lst (List.map (fun e : Ent => V.ref e.a) r).reverse) := by
              rw [upd_ne hpq.symm]
              exact G1q
            generalize upd G1 p (.lst (ps.map V.str ++ [V.str (sL ([60] ++ nm.cps.toList ++ [62]))])) = G2 at okr2 e2 G2p G2q ⊢
            refine st_seq ⟨_, rfl, .inl ⟨rfl, _, SqL.of G2q⟩, _, rfl, by show 2 ≤ sizeLine; decide, fun b hb => ⟨q, _, _, rfl, rfl, by rw [upd_ne (ne_of_none G2q hb)]; exact G2q, sz_lt (by rw [List.length_reverse, List.length_map]; omega), ?_⟩⟩
            have nbq : b ≠ q := (ne_of_none G2q hb).symm
            have nbp : b ≠ p := (ne_of_none G2p hb).symm
            refine ⟨_, rfl, a', _, 1, _, rfl, rfl, ex_t (((e2.trans (Ex.new hb)).mut hqH)) sx, at_one, l, ys, rfl, ex_l (((e2.trans (Ex.new hb)).mut hqH)) sl, for_it walk_rev (fun i σ G => ∃ (v5 : Option V) (es : List Ent), σ = [some x, some (.ref p), some (.ref q), some (.ref a'), some (.bl false), v5] ∧ Ex H G ∧ G p = some (.lst ((ps ++ [sL ([60] ++ nm.cps.toList ++ [62])]).map V.str)) ∧ es.map Ent.t = cs.drop (cs.length - i) ∧ (∀ e ∈ es, e.f = false) ∧ G q = some (.lst (List.map (fun e : Ent => V.ref e.a) (es ++ ⟨b, .ref a', .el nm cs, true⟩ :: r)).reverse) ∧ ∀ e ∈ es ++ ⟨b, .ref a', .el nm cs, true⟩ :: r, okE K H G e) ⟨_, [], rfl, (e2.trans (Ex.new hb)).mut hqH, ?_, ?_, nofun, ?_, ?_⟩ (fun i σ G _ ⟨_, _, _, e, _⟩ => ex_l e sl) ?_ ?_⟩
            · rw [upd_ne hpq, upd_ne nbp.symm]
              exact G2p
            · rw [Nat.sub_zero, List.drop_length]
              rfl
            · rw [upd_same, List.nil_append, List.map_cons, List.reverse_cons]
            · intro e he
              have hbq : upd G2 b (.tup [V.ref a', .bl true]) q = some (.lst (List.map (fun e : Ent => V.ref e.a) r).reverse) := by
                rw [upd_ne nbq.symm]
                exact G2q
              rcases List.mem_cons.mp he with z | he
              · rw [z]
                exact okE.up ⟨upd_same, he2, ⟨ke + 1, hn, hcs⟩, fun _ => rfl⟩ hbq
              · exact ((okr2 e he).ex (Ex.new hb)).up hbq
            · rintro i y σ G G' hi ⟨v5, es, rfl, eG, hp3, hes, hesf, hq3, hok⟩ ⟨rfl, hy⟩
              obtain ⟨c, hc, hyc⟩ := dsAt al hy
              have hesl : es.length ≤ cs.length := by
                have := congrArg List.length hes
                rw [List.length_map, List.length_drop] at this
                omega
              refine ⟨_, rfl, .inl ⟨rfl, _, SqL.of hq3⟩, _, rfl, by show 2 ≤ sizeLine; decide, fun b2 hb2 => ⟨q, _, _, rfl, rfl, by rw [upd_ne (ne_of_none hq3 hb2)]; exact hq3, sz_lt (by rw [List.length_reverse, List.length_map, List.length_append, List.length_cons]; omega), ?_⟩⟩
              have n2q : b2 ≠ q := (ne_of_none hq3 hb2).symm
              have n2p : b2 ≠ p := (ne_of_none hp3 hb2).symm
              have hq4 : upd G' b2 (.tup [y, .bl false]) q = some (.lst (List.map (fun e : Ent => V.ref e.a) (es ++ ⟨b, .ref a', .el nm cs, true⟩ :: r)).reverse) := by
                rw [upd_ne n2q.symm]
                exact hq3
              refine ⟨_, ⟨b2, y, c, false⟩ :: es, rfl, (eG.trans (Ex.new hb2)).mut hqH, ?_, ?_, ?_, ?_, ?_⟩
              · rw [upd_ne hpq, upd_ne n2p.symm]
                exact hp3
              · rw [List.map_cons, hes]
                have hi' : i < cs.length := by omega
                have hlt : cs.length - (i + 1) < cs.length := by omega
                rw [List.drop_eq_getElem_cons hlt, show cs.length - (i + 1) + 1 = cs.length - i by omega]
                have : cs.length - (i + 1) = ys.length - 1 - i := by omega
                rw [← this, List.getElem?_eq_getElem hlt] at hc
                rw [Option.some.inj hc]
              · intro e he
                rcases List.mem_cons.mp he with z | he
                · rw [z]
                · exact hesf e he
              · rw [upd_same, List.cons_append, List.map_cons, List.reverse_cons]
              · intro e he
                rcases List.mem_cons.mp he with z | he
                · rw [z]
                  exact okE.up ⟨upd_same, hyc, ⟨ke, hcs c (List.mem_of_getElem? hc)⟩, nofun⟩ hq4
                · exact ((hok e he).ex (Ex.new hb2)).up hq4
            · rintro σ G ⟨v5, es, rfl, eG, hp3, hes, hesf, hq3, hok⟩
              rw [hyl, Nat.sub_self, List.drop_zero] at hes
              refine ⟨_, ?_, _, _, _, ps ++ [sL ([60] ++ nm.cps.toList ++ [62])], es ++ ⟨b, .ref a', .el nm cs, true⟩ :: r, rfl, rfl, eG, hp3, hq3, hok, ?_, ?_⟩
              · rw [List.map_append, List.sum_append, List.map_cons, List.sum_cons, es_cost hesf, hes]
                show costs cs + (1 + _) < _
                omega
              · rw [← hout, List.map_append, List.flatten_append, List.map_append, List.flatten_append, es_out hesf, hes]
                have ho : outE ⟨ea, .ref a', .el nm cs, false⟩ = [60] ++ nm.cps.toList ++ [62] ++ wrs false cs ++ [60, 47] ++ nm.cps.toList ++ [62] := by
                  show wr false (.el nm cs) = _
                  rw [wr, hcs0]
                  rfl
                rw [ho]
                have ho2 : outE ⟨b, .ref a', .el nm cs, true⟩ = [60, 47] ++ nm.cps.toList ++ [62] := rfl
                have ho3 : (List.map (fun z : Str => z.cps.toList) [sL ([60] ++ nm.cps.toList ++ [62])]).flatten = [60] ++ nm.cps.toList ++ [62] := by
                  show ([60] ++ nm.cps.toList ++ [62]) ++ [] = _
                  rw [List.append_nil]
                have ho4 : (List.map outE (⟨b, .ref a', .el nm cs, true⟩ :: r)).flatten = [60, 47] ++ nm.cps.toList ++ [62] ++ (List.map outE r).flatten := by rw [List.map_cons, List.flatten_cons, ho2]
                rw [ho4, ho3]
                simp only [List.append_assoc]
              · rw [List.length_append, List.map_append, List.sum_append, List.map_cons, List.sum_cons, es_cost hesf, hes]
                show ps.length + 1 + (costs cs + (1 + _)) ≤ _
                omega
end
/-! ### the program's reader, on right texts -/
/-- what stands from i on -/
def remS (z : Str) (i : Nat) (l : List Nat) : Prop := i ≤ z.cps.size ∧ z.cps.toList.drop i = l
theorem remS.len {z : Str} {i : Nat} {l : List Nat} (h : remS z i l) : i + l.length = z.cps.size := by
  have := congrArg List.length h.2
  rw [List.length_drop, Array.length_toList] at this
  have := h.1
  omega
theorem remS.adv {z : Str} {i : Nat} {a l : List Nat} (h : remS z i (a ++ l)) : remS z (i + a.length) l := by
  have h1 := h.len
  rw [List.length_append] at h1
  refine ⟨by omega, ?_⟩
  rw [← List.drop_drop, h.2, List.drop_left]
theorem remS.ne {z : Str} {i c : Nat} {l : List Nat} (h : remS z i (c :: l)) : i < z.cps.size ∧ z.cps.toList[i]? = some c := by
  have h1 := h.len
  rw [List.length_cons] at h1
  refine ⟨by omega, ?_⟩
  have := congrArg (fun l => l[0]?) h.2
  simpa using this
theorem sw3 {z y : Str} {i : Nat} {l : List Nat} (h : remS z i l) : Txt.startswith3 z y (i : Int) = decide (l.take y.cps.toList.length = y.cps.toList) := by
  have hi := h.1
  have h1 := h.len
  have hf : fromIndex z.length (i : Int) = i := by
    unfold fromIndex
    rw [if_neg (by omega)]
    omega
  unfold Txt.startswith3
  rw [hf, StrLaws.subAt_eq, h.2]
  have hy : y.length = y.cps.toList.length := Array.length_toList.symm
  have hz : z.length = z.cps.size := rfl
  by_cases e : l.take y.cps.toList.length = y.cps.toList
  · have h2 := congrArg List.length e
    rw [List.length_take] at h2
    rw [decide_eq_true e, hy, e]
    simp
    rw [hz]
    have : y.cps.toList.length = y.cps.size := Array.length_toList
    omega
  · rw [decide_eq_false e, hy]
    simp only [Bool.and_eq_false_iff]
    refine .inr ?_
    simpa using e
/-- the reading at o: its text, where it is, how many nodes, the stack -/
def RdO (K : PySem.W.Frag) (H : Hp) (o : Addr) (z : Str) (i n : Nat) (st : Addr) : Prop := ∃ dx, H o = some (.ins (He.ga K "Reading") dx (flds_Reading (.str z) (.int (i : Int)) (.int (n : Int)) (.ref st)))
theorem RdO.on {K : PySem.W.Frag} {H : Hp} {o : Addr} {z : Str} {i n : Nat} {st : Addr} (h : RdO K H o z i n st) : H o ≠ none := by
  obtain ⟨dx, h⟩ := h
  rw [h]
  nofun
theorem RdO.ex {K : PySem.W.Frag} {H H' : Hp} {o : Addr} {z : Str} {i n : Nat} {st : Addr} (h : RdO K H o z i n st) (e : Ex H H') : RdO K H' o z i n st := h.imp fun _ g => e _ _ g
theorem RdO.kp {K : PySem.W.Frag} {S : List Addr} {H H' : Hp} {o : Addr} {z : Str} {i n : Nat} {st : Addr} (h : RdO K H o z i n st) (e : Kp S H H') (ho : o ∉ S) : RdO K H' o z i n st := h.imp fun _ g => e.at g ho
def spNo : Sp := fun _ _ _ _ => False
def letters : List Nat := [97, 98, 99, 100, 101, 102, 103, 104, 105, 106, 107, 108]
def spSign : Sp := fun vs H Q _ => ∃ c : Nat, vs = [.str (sL [c])] ∧ c ∈ signCs ∧ Q (.bl true) H
def spLetter : Sp := fun vs H Q _ => ∃ c : Nat, vs = [.str (sL [c])] ∧ (c ∈ letters ∨ c = 47 ∨ c = 62) ∧ Q (.bl (decide (c ∈ letters))) H
def spBegins (K : PySem.W.Frag) : Sp := fun vs H Q _ => ∃ (o : Addr) (wd z : Str) (i n : Nat) (st : Addr) (l : List Nat), vs = [.ref o, .str wd] ∧ RdO K H o z i n st ∧ remS z i l ∧ Q (.bl (decide (l.take wd.cps.toList.length = wd.cps.toList))) H
theorem lt1 (a c : Nat) : (!decide ([c] < [a])) = decide (a ≤ c) := by
  have e : ([c] < [a]) ↔ c < a := by
    rw [List.cons_lt_cons_iff]
    constructor
    · rintro (h | ⟨_, h⟩)
      · exact h
      · cases h
    · exact fun h => .inl h
  by_cases h : c < a
  · rw [decide_eq_true (e.mpr h), decide_eq_false (by omega)]
    rfl
  · rw [decide_eq_false (fun z => h (e.mp z)), decide_eq_true (by omega)]
    rfl
theorem val_chS {σ : L2.St} {H : Hp} {te : TE} {za zb : Str} {a b c : Nat} (h : Val te σ H (.str (sL [c]))) (ea : za.cps.toList = [a]) (eb : zb.cps.toList = [b]) :
    Val (tChain (fun x y H Q => ∃ i j, x = V.str i ∧ y = V.str j ∧ Q (V.bl !decide (j.cps.toList < i.cps.toList)) H) (fun x y H Q => ∃ i j, x = V.str i ∧ y = V.str j ∧ Q (V.bl !decide (j.cps.toList < i.cps.toList)) H) (tC (.str za)) te (tC (.str zb))) σ H (.bl (decide (a ≤ c) && decide (c ≤ b))) := fun Q q => by
  refine h _ ⟨_, _, rfl, rfl, _, rfl, ?_⟩
  rw [ea, sL_list, lt1]
  by_cases e : a ≤ c
  · rw [decide_eq_true e] at q ⊢
    refine iteT ⟨_, _, rfl, rfl, ?_⟩
    rw [eb, sL_list, lt1]
    exact q
  · rw [decide_eq_false e] at q ⊢
    exact iteF q
def signW : List (List Str) := [["&lt;", "<"], ["&gt;", ">"], ["&amp;", "&"]]
def signT : List Nat := [60, 62, 38]
theorem signW_at {i : Nat} {zs : List Str} (h : signW[i]? = some zs) : ∃ (c : Nat) (wd sg : Str), zs = [wd, sg] ∧ signT[i]? = some c ∧ wd = sL (escC c) ∧ sg = sL [c] ∧ c ∈ signT := by
  match i, h with
  | 0, h => cases h; exact ⟨60, _, _, rfl, rfl, by decide +kernel, by decide +kernel, by decide⟩
  | 1, h => cases h; exact ⟨62, _, _, rfl, rfl, by decide +kernel, by decide +kernel, by decide⟩
  | 2, h => cases h; exact ⟨38, _, _, rfl, rfl, by decide +kernel, by decide +kernel, by decide⟩
  | n + 3, h => cases h
theorem escC_at {c d : Nat} (hc : c ∈ signCs) (hd : d ∈ signT) (l : List Nat) : decide ((escC c ++ l).take (escC d).length = escC d) = decide (c = d) := by
  simp only [signT, List.mem_cons, List.not_mem_nil, or_false] at hd
  simp only [signCs, List.mem_cons, List.not_mem_nil, or_false] at hc
  rcases hd with rfl | rfl | rfl <;> rcases hc with rfl | rfl | rfl | rfl | rfl | rfl | rfl | rfl | rfl | rfl | rfl | rfl <;> simp [escC]
theorem escC_one {c : Nat} (h : c ∉ signT) : escC c = [c] := by
  simp only [signT, List.mem_cons, List.not_mem_nil, or_false, not_or] at h
  unfold escC
  rw [if_neg h.1, if_neg h.2.1, if_neg h.2.2]
theorem not_amp : ∀ c ∈ signCs, c ∉ signT → (!(Builtin.Str.occurrences "&>" (sL [c]) 0 (("&>" : Str)).length 1).isEmpty) = false := by decide +kernel
def spNext (K : PySem.W.Frag) : Sp := fun vs H Q _ => ∃ (o : Addr) (z : Str) (i n : Nat) (st : Addr) (c : Nat) (l : List Nat), vs = [.ref o] ∧ RdO K H o z i n st ∧ c ∈ signCs ∧ remS z i (escC c ++ l) ∧ z.cps.size ≤ 100000 ∧
  ∀ (p : Addr) (H' : Hp), H p = none → Ex H H' → H' p = some (.tup [.str (sL (escC c)), .str (sL [c])]) → Q (.ref p) H'
theorem pu_reached (a0 a1 a2 a3 x : V) : putF "reached" x (flds_Reading a0 a1 a2 a3) = flds_Reading a0 x a2 a3 := by
  show putF "reached" x [("source", a0), ("reached", a1), ("nodes", a2), ("stack", a3)] = _
  rw [putF, if_neg (by decide +kernel), putF, if_pos rfl]
theorem pu_nodes (a0 a1 a2 a3 x : V) : putF "nodes" x (flds_Reading a0 a1 a2 a3) = flds_Reading a0 a1 x a3 := by
  show putF "nodes" x [("source", a0), ("reached", a1), ("nodes", a2), ("stack", a3)] = _
  rw [putF, if_neg (by decide +kernel), putF, if_neg (by decide +kernel), putF, if_pos rfl]
theorem fn_len (a0 a1 a2 a3 : V) : (flds_Reading a0 a1 a2 a3).length < 1000 := by show 4 < 1000; decide
def spCount (K : PySem.W.Frag) : Sp := fun vs H Q _ => ∃ (o : Addr) (z : Str) (i n : Nat) (st : Addr) (xs : List V), vs = [.ref o] ∧ RdO K H o z i n st ∧ SqL K H st xs ∧ xs.length ≤ 60 ∧ n < 5000 ∧ ∀ H', RdO K H' o z i (n + 1) st → Kp [o] H H' → Q .non H'
def spTagEnd (K : PySem.W.Frag) : Sp := fun vs H Q _ => ∃ (o : Addr) (z : Str) (i n : Nat) (st : Addr) (l : List Nat), vs = [.ref o] ∧ RdO K H o z i n st ∧ remS z i (62 :: l) ∧ ∀ H', RdO K H' o z (i + 1) n st → Kp [o] H H' → Q .non H'
def spName (K : PySem.W.Frag) : Sp := fun vs H Q _ => ∃ (o : Addr) (z : Str) (i n : Nat) (st : Addr) (a t : Nat) (nm : Str) (l : List Nat), vs = [.ref o, .int (a : Int)] ∧ RdO K H o z i n st ∧ nm ∈ fourNames ∧ remS z a (nm.cps.toList ++ t :: l) ∧ (t = 47 ∨ t = 62) ∧ z.cps.size ≤ 100000 ∧
  ∀ H', RdO K H' o z (a + nm.cps.toList.length) n st → Kp [o] H H' → Q (.str nm) H'
theorem escC_head {c : Nat} (h : c ∈ signCs) (l : List Nat) : decide ((escC c ++ l).take 1 = [60]) = false := by
  simp only [signCs, List.mem_cons, List.not_mem_nil, or_false] at h
  rcases h with rfl | rfl | rfl | rfl | rfl | rfl | rfl | rfl | rfl | rfl | rfl | rfl <;> simp [escC]
def spText (K : PySem.W.Frag) : Sp := fun vs H Q _ => ∃ (o : Addr) (z : Str) (i n : Nat) (st t lp : Addr) (pre vs' : List V) (nv : V) (tz : Str) (l : List Nat), vs = [.ref o] ∧ RdO K H o z i n st ∧ okText 200 tz ∧ remS z i (escL tz.cps.toList ++ 60 :: l) ∧ z.cps.size ≤ 100000 ∧
  H st = some (.lst (pre ++ [.ref t])) ∧ H t = some (.tup [nv, .ref lp]) ∧ H lp = some (.lst vs') ∧ vs'.length ≤ 10000 ∧ pre.length < 60 ∧ n < 5000 ∧
  ∀ H', RdO K H' o z (i + (escL tz.cps.toList).length) (n + 1) st → H' lp = some (.lst (vs' ++ [.str tz])) → Kp [o, lp] H H' → Q .non H'
/-- behind the name of a begin tag -/
def tagTail (b : Bool) (l : List Nat) : List Nat := if b then 47 :: 62 :: l else 62 :: l
def spBegin (K : PySem.W.Frag) : Sp := fun vs H Q _ => ∃ (o : Addr) (z : Str) (i n : Nat) (st t lp : Addr) (pre vs' : List V) (nv : V) (nm : Str) (b : Bool) (l : List Nat), vs = [.ref o] ∧ RdO K H o z i n st ∧ nm ∈ fourNames ∧ remS z i (60 :: (nm.cps.toList ++ tagTail b l)) ∧ z.cps.size ≤ 100000 ∧
  H st = some (.lst (pre ++ [.ref t])) ∧ H t = some (.tup [nv, .ref lp]) ∧ H lp = some (.lst vs') ∧ lp ≠ st ∧ vs'.length ≤ 10000 ∧ pre.length < 60 ∧ n < 5000 ∧
  ∀ (H' : Hp) (t' l' : Addr), H t' = none → H l' = none → t' ≠ l' → RdO K H' o z (i + 1 + nm.cps.toList.length + (if b then 2 else 1)) (n + 1) st → H' t' = some (.tup [.str nm, .ref l']) → H' l' = some (.lst []) → H' lp = some (.lst (vs' ++ [.ref t'])) →
    H' st = some (.lst (if b then pre ++ [.ref t] else pre ++ [.ref t] ++ [.ref t'])) → Kp [o, lp, st] H H' → Q .non H'
def spEnd (K : PySem.W.Frag) : Sp := fun vs H Q _ => ∃ (o : Addr) (z : Str) (i n : Nat) (st t lp : Addr) (pre : List V) (nm : Str) (l : List Nat), vs = [.ref o] ∧ RdO K H o z i n st ∧ nm ∈ fourNames ∧ remS z i (60 :: 47 :: (nm.cps.toList ++ 62 :: l)) ∧ z.cps.size ≤ 100000 ∧
  H st = some (.lst (pre ++ [.ref t])) ∧ H t = some (.tup [.str nm, .ref lp]) ∧ ∀ H', RdO K H' o z (i + 2 + nm.cps.toList.length + 1) n st → H' st = some (.lst pre) → Kp [o, st] H H' → Q .non H'
def spPart (K : PySem.W.Frag) : Sp := fun vs H Q E => spEnd K vs H Q E ∨ spBegin K vs H Q E ∨ spText K vs H Q E
theorem name_no_slash : ∀ nm ∈ fourNames, ∀ r : List Nat, (60 :: (nm.cps.toList ++ r)).take 2 ≠ [60, 47] := by
  have g : ∀ nm ∈ fourNames, ∃ c r, nm.cps.toList = c :: r ∧ c ≠ 47 := by
    intro nm h
    have q : ∀ nm ∈ fourNames, nm.cps.toList ≠ [] ∧ nm.cps.toList.head? ≠ some 47 := by decide +kernel
    obtain ⟨q1, q2⟩ := q nm h
    cases e : nm.cps.toList with
    | nil => exact absurd e q1
    | cons c r =>
      rw [e] at q2
      exact ⟨c, r, rfl, fun z => q2 (by rw [z]; rfl)⟩
  intro nm h r e
  obtain ⟨c, r2, e1, e2⟩ := g nm h
  rw [e1] at e
  have := (List.cons.inj (List.cons.inj e).2).1
  exact e2 this
theorem esc_no_tag {c : Nat} (h : c ∈ signCs) (l : List Nat) : (escC c ++ l).take 2 ≠ [60, 47] := by
  simp only [signCs, List.mem_cons, List.not_mem_nil, or_false] at h
  rcases h with rfl | rfl | rfl | rfl | rfl | rfl | rfl | rfl | rfl | rfl | rfl | rfl <;> simp [escC]
def spInit (K : PySem.W.Frag) : Sp := fun vs H Q _ => ∃ (o dx : Addr) (z : Str), vs = [.ref o, .str z] ∧ H o = some (.ins (He.ga K "Reading") dx []) ∧
  ∀ (H' : Hp) (st t l : Addr), H st = none → H t = none → H l = none → st ≠ t → st ≠ l → t ≠ l → RdO K H' o z 0 0 st → H' st = some (.lst [.ref t]) → H' t = some (.tup [.str "", .ref l]) → H' l = some (.lst []) → Kp [o] H H' → Q .non H'
section
variable {P : Program} {w : World} {K : PySem.W.Frag} {mg : Str → Option Value} {base : Heap}
theorem rd_fld (T : TX K mg) {σ : L2.St} {H : Hp} {o : Addr} {z : Str} {i n : Nat} {st : Addr} (h : RdO K H o z i n st) (hσ : σ[0]? = some (some (.ref o))) :
    Val (tFld K (tVar 0) "source") σ H (.str z) ∧ Val (tFld K (tVar 0) "reached") σ H (.int (i : Int)) ∧ Val (tFld K (tVar 0) "nodes") σ H (.int (n : Int)) ∧ Val (tFld K (tVar 0) "stack") σ H (.ref st) := by
  obtain ⟨dx, h⟩ := h
  exact ⟨fun Q q => ⟨_, hσ, o, _, dx, _, _, rfl, h, T.cl_Reading, T.na_Reading_source, fl_Reading_source .., q⟩, fun Q q => ⟨_, hσ, o, _, dx, _, _, rfl, h, T.cl_Reading, T.na_Reading_reached, fl_Reading_reached .., q⟩,
    fun Q q => ⟨_, hσ, o, _, dx, _, _, rfl, h, T.cl_Reading, T.na_Reading_nodes, fl_Reading_nodes .., q⟩, fun Q q => ⟨_, hσ, o, _, dx, _, _, rfl, h, T.cl_Reading, T.na_Reading_stack, fl_Reading_stack .., q⟩⟩
theorem ok__refuse (T : TX K mg) : Can P w K mg base CX0 0 (He.fAd K at__refuse) ps__refuse [] spNo := mk__refuse T fun fd F => ⟨fun _ _ _ _ h => h.elim, fun _ _ _ _ _ _ _ _ _ _ _ _ _ h => h.elim⟩
theorem ok_is_sign (T : TX K mg) : Can P w K mg base CX0 1 (He.fAd K at_is_sign) ps_is_sign [] spSign := mk_is_sign T fun fd F => def0 F sc_is_sign (fun vs H Q E h => by
  obtain ⟨c, rfl, _⟩ := h
  rfl) fun cdv A outer s H vs Q E hr h => by
  obtain ⟨c, rfl, hc, k⟩ := h
  refine ⟨_, (pss_one (ps_ret (pe_or (pe_cmpR op_eq (pv 0) pe_str (nomark _)) (pe_one (pe_chain op_le_str op_le_str pe_str (pv 0) pe_str))))), ?_⟩
  refine go_ret ?_
  refine ⟨_, rfl, rfl, decide (c = 10), by
    by_cases e : c = 10
    · subst e
      rfl
    · rw [decide_eq_false e, decide_eq_false fun z => e (by
        have h1 : ("\n" : Str) = sL [10] := by decide +kernel
        have h2 := V.str.inj z
        rw [h1] at h2
        exact (List.cons.inj (sL_inj h2)).1)], ?_⟩
  by_cases e : c = 10
  · rw [decide_eq_true e]
    exact iteT k
  · rw [decide_eq_false e]
    refine iteF (val_chS (a := 32) (b := 126) (val_var rfl) (by decide +kernel) (by decide +kernel) _ ?_)
    have : (decide (32 ≤ c) && decide (c ≤ 126)) = true := by
      have h : ∀ c ∈ signCs, c = 10 ∨ (decide (32 ≤ c) && decide (c ≤ 126)) = true := by decide +kernel
      exact (h c hc).resolve_left e
    rw [this]
    exact k
theorem ok_is_letter (T : TX K mg) : Can P w K mg base CX0 1 (He.fAd K at_is_letter) ps_is_letter [] spLetter := mk_is_letter T fun fd F => def0 F sc_is_letter (fun vs H Q E h => by
  obtain ⟨c, rfl, _⟩ := h
  rfl) fun cdv A outer s H vs Q E hr h => by
  obtain ⟨c, rfl, hc, k⟩ := h
  refine ⟨_, (pss_one (ps_ret (pe_chain op_le_str op_le_str pe_str (pv 0) pe_str))), ?_⟩
  refine go_ret (val_chS (a := 97) (b := 122) (val_var rfl) (by decide +kernel) (by decide +kernel) _ ?_)
  have : (decide (97 ≤ c) && decide (c ≤ 122)) = decide (c ∈ letters) := by
    rcases hc with h | rfl | rfl
    · have g : ∀ c ∈ letters, (decide (97 ≤ c) && decide (c ≤ 122)) = decide (c ∈ letters) := by decide +kernel
      exact g c h
    · decide +kernel
    · decide +kernel
  rw [this]
  exact k
theorem ok_Reading_begins (T : TX K mg) : Can P w K mg base CX0 1 (He.fAd K at_Reading_begins) ps_Reading_begins [] (spBegins K) := mk_Reading_begins T fun fd F => def0 F sc_Reading_begins (fun vs H Q E h => by
  obtain ⟨o, wd, z, i, n, st, l, rfl, _⟩ := h
  rfl) fun cdv A outer s H vs Q E hr h => by
  obtain ⟨o, wd, z, i, n, st, l, rfl, R, hl, k⟩ := h
  refine ⟨_, (pss_one (ps_ret (eBm K rfl PySem.F.plainAttrs_str PySem.F.slot_str_startswith PySem.F.type_str_startswith mt_startswith3 (eFld K rfl (pv 0) rfl) (pa_cons (pv 1) (pa_cons (eFld K rfl (pv 0) rfl) pa_nil))))), ?_⟩
  obtain ⟨f1, f2, _, _⟩ := rd_fld (K := K) (mg := mg) T R (σ := [some (.ref o), some (.str wd)]) rfl
  refine go_ret (f1 _ ⟨rfl, _, rfl, f2 _ ⟨z, wd, i, rfl, rfl, ?_⟩⟩)
  rw [sw3 hl]
  exact k
theorem rd_begins {σ : L2.St} {H : Hp} {o : Addr} {z wd : Str} {i n : Nat} {st : Addr} {l : List Nat} {te : TE} (R : RdO K H o z i n st) (hl : remS z i l) (hσ : σ[0]? = some (some (.ref o))) (h : Val te σ H (.str wd)) {Q : VK}
    (q : Q (.bl (decide (l.take wd.cps.toList.length = wd.cps.toList))) H) : tMeth (He.ga K "Reading") "begins" (spBegins K) [] E0 (tVar 0) (tCons te tNil) σ H Q := by
  obtain ⟨dx, hR⟩ := R
  exact ⟨_, hσ, o, dx, _, rfl, hR, fn_Reading_begins .., h _ ⟨o, wd, z, i, n, st, l, rfl, ⟨dx, hR⟩, hl, q⟩⟩
theorem ok_Reading_next_sign (T : TX K mg) : Can P w K mg base CX0 2 (He.fAd K at_Reading_next_sign) ps_Reading_next_sign [] (spNext K) := by
  obtain ⟨fd_Reading_begins, G_Reading_begins, ds_Reading_begins, v_Reading_begins, b_Reading_begins⟩ := ok_Reading_begins (P := P) (w := w) (base := base) T
  obtain ⟨fd_is_sign, G_is_sign, ds_is_sign, v_is_sign, b_is_sign⟩ := ok_is_sign (P := P) (w := w) (base := base) T
  obtain ⟨fd__refuse, G__refuse, ds__refuse, v__refuse, b__refuse⟩ := ok__refuse (P := P) (w := w) (base := base) T
  exact mk_Reading_next_sign T fun fd F => def0 F sc_Reading_next_sign (fun vs H Q E h => by
    obtain ⟨o, z, i, n, st, c, l, rfl, _⟩ := h
    rfl) fun cdv A outer s H vs Q E hr h => by
    obtain ⟨o, z, i, n, st, c, l, rfl, R, hc, hl, hz, k⟩ := h
    refine ⟨_, (pss_cons (ps_for PassesOwn.never rfl (iTpl K rfl (pe_glob (v := .ref (He.ga K "WRITTEN_SIGNS")) rfl T.g_WRITTEN_SIGNS rfl)) (pg_tup rfl (pgs_cons (pg_name (i := 1) sc_Reading_next_sign.nd rfl (Or.inl rfl)) (pgs_cons (pg_name (i := 2) sc_Reading_next_sign.nd rfl (Or.inl rfl)) pgs_nil)))
  (pss_one (ps_if (pt_val (pe_meth (pv 0) T.cl_Reading T.me_Reading_begins G_Reading_begins (hr.mono (by first | decide | omega)) b_Reading_begins v_Reading_begins pass0 (pa_cons (pv 1) pa_nil))) (pss_one (ps_ret (pe_tup (pa_cons (pv 1) (pa_cons (pv 2) pa_nil))))) pss_nil)))
  (pss_cons (ps_set (i := 3) sc_Reading_next_sign.nd rfl (Or.inl rfl) (eFld K rfl (pv 0) rfl))
  (pss_cons (ps_if (PW.pt (pw_or (pt_cmpR op_eq (pv 3) (pe_callB call_len_str (by rfl) T.n_len PySem.boot_len (pa_cons (eFld K rfl (pv 0) rfl) pa_nil)) (nomark _)) (pw_or (pt_not (pt_val (pe_call G_is_sign (hr.mono (by first | decide | omega)) rfl T.g_is_sign T.k_is_sign b_is_sign v_is_sign pass0 (pa_cons (pe_ix ix_str (eFld K rfl (pv 0) rfl) (pv 3) (fun _ _ => rfl)) pa_nil)))) (pw_or1 (pt_cmpR op_in_str (pe_ix ix_str (eFld K rfl (pv 0) rfl) (pv 3) (fun _ _ => rfl)) pe_str (by rfl)))))) (pss_one (ps_expr (pe_call G__refuse (hr.mono (by first | decide | omega)) rfl T.g__refuse T.k__refuse b__refuse v__refuse pass0 (pa_cons (eFld K rfl (pv 0) rfl) (pa_cons (pv 3) (pa_cons pe_str pa_nil)))))) pss_nil)
  (pss_one (ps_ret (pe_tup (pa_cons (pe_ix ix_str (eFld K rfl (pv 0) rfl) (pv 3) (fun _ _ => rfl)) (pa_cons (pe_ix ix_str (eFld K rfl (pv 0) rfl) (pv 3) (fun _ _ => rfl)) pa_nil)))))))), ?_⟩
    obtain ⟨as, ha1, ha2, ha3⟩ := T.tu_WRITTEN_SIGNS
    refine st_seq ⟨_, rfl, ⟨_, ha2 H⟩, for_it (walk_tup (K := K)) (fun j σ G => ∃ v1 v2 : Option V, σ = [some (.ref o), v1, v2, none] ∧ G = H ∧ ∀ (m d : Nat), m < j → signT[m]? = some d → c ≠ d) ⟨_, _, rfl, rfl, fun m d hm => by omega⟩ (fun j σ G _ _ => ha2 G) ?_ ?_⟩
    · rintro j y σ G G' hj ⟨v1, v2, rfl, rfl, hno⟩ ⟨rfl, hy⟩
      have hj' : j < as.length := by rw [List.length_map] at hj; exact hj
      rw [List.getElem?_map, List.getElem?_eq_getElem hj'] at hy
      obtain rfl := Option.some.inj hy
      have hj3 : j < signW.length := by rw [ha1] at hj'; exact hj'
      obtain ⟨d, wd, sg, hzs, hd, hwd, hsg, hdT⟩ := signW_at (List.getElem?_eq_getElem hj3)
      have hb : SqT K G' as[j] ([wd, sg].map V.str) := ha3 j _ _ (List.getElem?_eq_getElem hj') (by rw [← hzs]; exact List.getElem?_eq_getElem hj3) G'
      subst hwd hsg
      refine ⟨_, _, rfl, hb, rfl, _, _, rfl, _, _, rfl, rfl, ?_⟩
      refine rd_begins (K := K) R hl rfl (val_var rfl) ⟨_, rfl, ?_⟩
      rw [sL_list, escC_at hc hdT]
      by_cases e : c = d
      · subst e
        rw [decide_eq_true rfl]
        exact iteT ⟨_, rfl, _, rfl, by show 2 ≤ sizeLine; decide, fun p hp => k p _ hp (Ex.new hp) upd_same⟩
      · rw [decide_eq_false e]
        refine iteF ⟨_, _, rfl, rfl, fun m d' hm hd' => ?_⟩
        by_cases hmj : m < j
        · exact hno m d' hmj hd'
        · obtain rfl : m = j := by omega
          rw [hd] at hd'
          rw [← Option.some.inj hd']
          exact e
    · rintro σ G ⟨v1, v2, rfl, rfl, hno⟩
      rw [List.length_map, ha1] at hno
      have hnt : c ∉ signT := fun h => by
        simp only [signT, List.mem_cons, List.not_mem_nil, or_false] at h
        rcases h with rfl | rfl | rfl
        · exact hno 0 60 (by decide) rfl rfl
        · exact hno 1 62 (by decide) rfl rfl
        · exact hno 2 38 (by decide) rfl rfl
      have f := fun (σ : L2.St) (hσ : σ[0]? = some (some (.ref o))) => rd_fld (K := K) T R hσ
      rw [escC_one hnt] at hl k
      have hne := hl.ne
      have chV : ∀ {σ : L2.St}, σ[0]? = some (some (.ref o)) → σ[3]? = some (some (.int (i : Int))) → Val (tOp rIxS (tFld K (tVar 0) "source") (tVar 3)) σ G (.str (sL [c])) := fun h0 h3 => val_op (f _ h0).1 (val_var h3) fun Q q => ⟨z, i, c, rfl, rfl, sz_of hz, atI_nat hne.2, q⟩
      dsimp only
      refine st_seq (go_asg ((f _ rfl).2.1 _ ?_))
      dsimp only [gName]
      refine st_seq (st_no (ans_or (ans_v (val_is (w := .bl false) (val_eq (val_var rfl) (val_cb (va_one (f _ rfl).1) fun Q q => ⟨z, rfl, sz_of hz, q⟩) rfl) (by
        rw [decide_eq_false fun e => by
          have := V.int.inj e
          have hzl : z.length = z.cps.size := rfl
          omega]))) (ans_or (ans_is (ans_not (ans_val (val_call (va_one (chV rfl rfl)) fun Q q => ⟨c, rfl, hc, q⟩))) rfl) (ans_v (val_is (val_op (chV rfl rfl) val_c fun Q q => ⟨_, _, rfl, rfl, q⟩) (by rw [not_amp c hc hnt]))))) ?_)
      exact (chV rfl rfl) _ ((chV rfl rfl) _ ⟨by show 2 ≤ sizeLine; decide, fun p hp => k p _ hp (Ex.new hp) upd_same⟩)
theorem ok_Reading_count_node (T : TX K mg) : Can P w K mg base CX0 1 (He.fAd K at_Reading_count_node) ps_Reading_count_node [] (spCount K) := by
  obtain ⟨fd__refuse, G__refuse, ds__refuse, v__refuse, b__refuse⟩ := ok__refuse (P := P) (w := w) (base := base) T
  exact mk_Reading_count_node T fun fd F => def0 F sc_Reading_count_node (fun vs H Q E h => by
    obtain ⟨o, z, i, n, st, xs, rfl, _⟩ := h
    rfl) fun cdv A outer s H vs Q E hr h => by
    obtain ⟨o, z, i, n, st, xs, rfl, R, hx, hx60, hn, k⟩ := h
    refine ⟨_, (pss_cons (ps_if (pt_cmpR op_gt (pe_callB (cLen K rfl) (by rfl) T.n_len PySem.boot_len (pa_cons (eFld K rfl (pv 0) rfl) pa_nil)) (pe_glob (v := .int 60) rfl T.c_MOST_DEPTH.choose_spec ⟨_, rfl⟩) (nomark _)) (pss_one (ps_expr (pe_call G__refuse (hr.mono (by first | decide | omega)) rfl T.g__refuse T.k__refuse b__refuse v__refuse pass0 (pa_cons (eFld K rfl (pv 0) rfl) (pa_cons (eFld K rfl (pv 0) rfl) (pa_cons pe_str pa_nil)))))) pss_nil)
  (pss_cons (ps_if (pt_cmpR op_eq (eFld K rfl (pv 0) rfl) (pe_glob (v := .int 5000) rfl T.c_MOST_NODES.choose_spec ⟨_, rfl⟩) (nomark _)) (pss_one (ps_expr (pe_call G__refuse (hr.mono (by first | decide | omega)) rfl T.g__refuse T.k__refuse b__refuse v__refuse pass0 (pa_cons (eFld K rfl (pv 0) rfl) (pa_cons (eFld K rfl (pv 0) rfl) (pa_cons pe_str pa_nil)))))) pss_nil)
  (pss_one (sFdAug K rfl in_add (pv 0) pe_int)))), ?_⟩
    obtain ⟨f1, f2, f3, f4⟩ := rd_fld (K := K) (mg := mg) T R (σ := [some (.ref o)]) rfl
    refine st_seq (st_no (ans_v (val_is (w := .bl false) (val_I (val_lenL f4 hx) val_c) (by rw [decide_eq_false (by omega)]))) ?_)
    refine st_seq (st_no (ans_v (val_is (w := .bl false) (val_eq f3 val_c rfl) (by rw [decide_eq_false (fun e => by have := V.int.inj e; omega)]))) ?_)
    obtain ⟨dx, hR⟩ := R
    refine ⟨_, rfl, o, _, dx, _, _, rfl, hR, T.cl_Reading, T.na_Reading_nodes, fl_Reading_nodes .., _, _, rfl, rfl, dx, _, hR, fn_len .., ?_⟩
    rw [pu_nodes]
    exact k _ ⟨dx, upd_same⟩ Kp.up
theorem ok_Reading_read_tag_end (T : TX K mg) : Can P w K mg base CX0 2 (He.fAd K at_Reading_read_tag_end) ps_Reading_read_tag_end [] (spTagEnd K) := by
  obtain ⟨fd_Reading_begins, G_Reading_begins, ds_Reading_begins, v_Reading_begins, b_Reading_begins⟩ := ok_Reading_begins (P := P) (w := w) (base := base) T
  obtain ⟨fd__refuse, G__refuse, ds__refuse, v__refuse, b__refuse⟩ := ok__refuse (P := P) (w := w) (base := base) T
  exact mk_Reading_read_tag_end T fun fd F => def0 F sc_Reading_read_tag_end (fun vs H Q E h => by
    obtain ⟨o, z, i, n, st, l, rfl, _⟩ := h
    rfl) fun cdv A outer s H vs Q E hr h => by
    obtain ⟨o, z, i, n, st, l, rfl, R, hl, k⟩ := h
    refine ⟨_, (pss_cons (ps_if (pt_not (pt_val (pe_meth (pv 0) T.cl_Reading T.me_Reading_begins G_Reading_begins (hr.mono (by first | decide | omega)) b_Reading_begins v_Reading_begins pass0 (pa_cons pe_str pa_nil)))) (pss_one (ps_expr (pe_call G__refuse (hr.mono (by first | decide | omega)) rfl T.g__refuse T.k__refuse b__refuse v__refuse pass0 (pa_cons (eFld K rfl (pv 0) rfl) (pa_cons (eFld K rfl (pv 0) rfl) (pa_cons pe_str pa_nil)))))) pss_nil)
  (pss_one (sFdAug K rfl in_add (pv 0) pe_int))), ?_⟩
    have hgt : (">" : Str).cps.toList = [62] := by decide +kernel
    refine st_seq (st_no (ans_is (ans_not (b := true) fun Q q => rd_begins (K := K) R hl rfl val_c ⟨_, rfl, by rw [hgt]; exact q⟩) rfl) ?_)
    obtain ⟨dx, hR⟩ := R
    refine ⟨_, rfl, o, _, dx, _, _, rfl, hR, T.cl_Reading, T.na_Reading_reached, fl_Reading_reached .., _, _, rfl, rfl, dx, _, hR, fn_len .., ?_⟩
    rw [pu_reached]
    exact k _ ⟨dx, upd_same⟩ Kp.up
theorem ok_Reading_read_name (T : TX K mg) : Can P w K mg base CX0 2 (He.fAd K at_Reading_read_name) ps_Reading_read_name [] (spName K) := by
  obtain ⟨fd_is_letter, G_is_letter, ds_is_letter, v_is_letter, b_is_letter⟩ := ok_is_letter (P := P) (w := w) (base := base) T
  obtain ⟨fd__refuse, G__refuse, ds__refuse, v__refuse, b__refuse⟩ := ok__refuse (P := P) (w := w) (base := base) T
  exact mk_Reading_read_name T fun fd F => def0 F sc_Reading_read_name (fun vs H Q E h => by
    obtain ⟨o, z, i, n, st, a, t, nm, l, rfl, _⟩ := h
    rfl) fun cdv A outer s H vs Q E hr h => by
    obtain ⟨o, z, i, n, st, a, t, nm, l, rfl, R, hnm, hl, ht, hz, k⟩ := h
    refine ⟨_, (pss_cons (ps_set (i := 2) sc_Reading_read_name.nd rfl (Or.inl rfl) (pv 1))
  (pss_cons (ps_while PassesOwn.never (PW.pt (pw_and (pt_cmpR op_lt (pv 2) (pe_callB call_len_str (by rfl) T.n_len PySem.boot_len (pa_cons (eFld K rfl (pv 0) rfl) pa_nil)) (nomark _)) (pw_and1 (pt_val (pe_call G_is_letter (hr.mono (by first | decide | omega)) rfl T.g_is_letter T.k_is_letter b_is_letter v_is_letter pass0 (pa_cons (pe_ix ix_str (eFld K rfl (pv 0) rfl) (pv 2) (fun _ _ => rfl)) pa_nil))))))
  (pss_one (ps_aug (i := 2) sc_Reading_read_name.nd rfl (Or.inl rfl) pe_int ip_add)))
  (pss_cons (ps_if (pt_not (pt_chain op_le op_le pe_int (pe_op op_sub (pv 2) (pv 1)) (pe_glob (v := .int 12) rfl T.c_NAME_LETTERS.choose_spec ⟨_, rfl⟩))) (pss_one (ps_expr (pe_call G__refuse (hr.mono (by first | decide | omega)) rfl T.g__refuse T.k__refuse b__refuse v__refuse pass0 (pa_cons (eFld K rfl (pv 0) rfl) (pa_cons (pv 1) (pa_cons pe_str pa_nil)))))) pss_nil)
  (pss_cons (sFd K rfl (pv 0) (pv 2) rfl)
  (pss_one (ps_ret (pe_slice sl_str (eFld K rfl (pv 0) rfl) (po_some (pv 1)) (po_some (pv 2))))))))), ?_⟩
    have f := fun (σ : L2.St) (hσ : σ[0]? = some (some (.ref o))) => rd_fld (K := K) T R hσ
    have hlen := hl.len
    rw [List.length_append, List.length_cons] at hlen
    have hlet : ∀ c ∈ nm.cps.toList, c ∈ letters := by
      have g : ∀ n ∈ fourNames, ∀ c ∈ n.cps.toList, c ∈ letters := by decide +kernel
      exact g nm hnm
    have h12 : 1 ≤ nm.cps.toList.length ∧ nm.cps.toList.length ≤ 12 := by
      have g : ∀ n ∈ fourNames, 1 ≤ n.cps.toList.length ∧ n.cps.toList.length ≤ 12 := by decide +kernel
      exact g nm hnm
    have hat : ∀ j c, (nm.cps.toList ++ t :: l)[j]? = some c → z.cps.toList[a + j]? = some c := fun j c e => by
      rw [← hl.2, List.getElem?_drop] at e
      exact e
    have chV : ∀ {σ : L2.St} (j c : Nat), σ[0]? = some (some (.ref o)) → σ[2]? = some (some (.int ((a : Int) + (j : Int)))) → (nm.cps.toList ++ t :: l)[j]? = some c → Val (tOp rIxS (tFld K (tVar 0) "source") (tVar 2)) σ H (.str (sL [c])) := fun j c h0 h2 e => val_op (f _ h0).1 (val_var h2) fun Q q => ⟨z, _, c, rfl, rfl, sz_of hz, (by
      have := atI_nat (hat j c e)
      rwa [Int.natCast_add] at this), q⟩
    refine st_seq (go_asg ⟨_, rfl, ?_⟩)
    dsimp only [gName]
    refine st_seq ⟨fun m σ G => ∃ j : Nat, σ = [some (.ref o), some (.int (a : Int)), some (.int ((a : Int) + (j : Int)))] ∧ m = nm.cps.toList.length - j ∧ j ≤ nm.cps.toList.length ∧ G = H, ⟨_, 0, by rw [show (a : Int) + ((0 : Nat) : Int) = a by omega] <;> rfl, rfl, Nat.zero_le _, rfl⟩, ?_⟩
    rintro m σ G ⟨j, rfl, rfl, hj, rfl⟩
    have cond : ∀ c, (nm.cps.toList ++ t :: l)[j]? = some c → (c ∈ letters ∨ c = 47 ∨ c = 62) → Ans (tAnd (tTest (tOp (rI0 fun i j => V.bl (decide (i < j))) (tVar 2) (tCB (fun xs H Q => ∃ z, xs = [V.str z] ∧ z.length ≤ sizeLine ∧ Q (V.int (z.length : Int)) H) (tCons (tFld K (tVar 0) "source") tNil)))) (tB (tCall spLetter [] E0 (tCons (tOp rIxS (tFld K (tVar 0) "source") (tVar 2)) tNil)))) [some (.ref o), some (.int (a : Int)), some (.int ((a : Int) + (j : Int)))] G (decide (c ∈ letters)) := fun c e h =>
      ans_is (ans_and3 (a := true) (b := decide (c ∈ letters)) (ans_v (val_is (val_I (val_var rfl) (val_cb (va_one (f _ rfl).1) fun Q q => ⟨z, rfl, sz_of hz, q⟩)) (by
        have hzl : z.length = z.cps.size := rfl
        rw [decide_eq_true (by omega)]))) fun _ => ans_val (val_call (va_one (chV j c rfl rfl e)) fun Q q => ⟨c, rfl, h, q⟩)) (Bool.true_and _)
    by_cases hjl : j < nm.cps.toList.length
    · have e : (nm.cps.toList ++ t :: l)[j]? = some nm.cps.toList[j] := by rw [List.getElem?_append_left hjl, List.getElem?_eq_getElem hjl]
      have hm := hlet _ (List.getElem_mem hjl)
      refine cond _ e (.inl hm) _ ?_
      rw [decide_eq_true hm]
      refine iteT ⟨fun σ' G' => ∃ m', m' < nm.cps.toList.length - j ∧ ∃ j : Nat, σ' = [some (.ref o), some (.int (a : Int)), some (.int ((a : Int) + (j : Int)))] ∧ m' = nm.cps.toList.length - j ∧ j ≤ nm.cps.toList.length ∧ G' = G, fun _ _ h => h, ?_⟩
      refine ⟨_, rfl, _, _, rfl, rfl, _, by omega, j + 1, ?_, rfl, by omega, rfl⟩
      rw [show (a : Int) + ((j + 1 : Nat) : Int) = (a : Int) + (j : Int) + 1 by omega]
      rfl
    · obtain rfl : j = nm.cps.toList.length := by omega
      have e : (nm.cps.toList ++ t :: l)[nm.cps.toList.length]? = some t := by rw [List.getElem?_append_right (Nat.le_refl _), Nat.sub_self] <;> rfl
      have hm : t ∉ letters := by
        rcases ht with rfl | rfl
        · decide
        · decide
      refine cond _ e (.inr ht) _ ?_
      rw [decide_eq_false hm]
      refine iteF ?_
      dsimp only
      refine st_seq (st_no (ans_is (ans_not (ans_v (val_chain val_c (val_I (val_var rfl) (val_var rfl)) val_c))) (by
        rw [decide_eq_true (by omega), decide_eq_true (by omega)]
        rfl)) ?_)
      obtain ⟨dx, hR⟩ := R
      refine st_seq ⟨_, rfl, _, rfl, o, _, dx, _, rfl, hR, T.cl_Reading, T.na_Reading_reached, fn_len .., ?_⟩
      rw [pu_reached, show (a : Int) + (nm.cps.toList.length : Int) = ((a + nm.cps.toList.length : Nat) : Int) by omega]
      have R' : RdO K (upd G o (.ins (He.ga K "Reading") dx (flds_Reading (.str z) (.int ((a + nm.cps.toList.length : Nat) : Int)) (.int (n : Int)) (.ref st)))) o z (a + nm.cps.toList.length) n st := ⟨dx, upd_same⟩
      dsimp only
      refine go_ret ?_
      refine (rd_fld (K := K) T R' (σ := [some (.ref o), some (.int (a : Int)), some (.int ((a + nm.cps.toList.length : Nat) : Int))]) rfl).1 _ ?_
      refine ⟨_, rfl, _, rfl, _, rfl, _, rfl, z, rfl, sz_of hz, ?_⟩
      have hcut : cutS z (some (a : Int)) (some ((a + nm.cps.toList.length : Nat) : Int)) = nm := by
        refine TL.ext_tl ?_
        show ((z.cps.toList.drop (HT.sIx z.length 0 (some (a : Int)))).take (HT.sIx z.length z.length (some ((a + nm.cps.toList.length : Nat) : Int)) - HT.sIx z.length 0 (some (a : Int)))) = nm.cps.toList
        have hzl : z.length = z.cps.size := rfl
        rw [HT.sIx_nat, HT.sIx_nat, Nat.min_eq_left (by omega), Nat.min_eq_left (by omega), hl.2, Nat.add_sub_cancel_left, List.take_left]
      rw [hcut]
      exact k _ R' Kp.up
theorem ok_Reading_read_text (T : TX K mg) : Can P w K mg base CX0 3 (He.fAd K at_Reading_read_text) ps_Reading_read_text [] (spText K) := by
  obtain ⟨fd_Reading_begins, G_Reading_begins, ds_Reading_begins, v_Reading_begins, b_Reading_begins⟩ := ok_Reading_begins (P := P) (w := w) (base := base) T
  obtain ⟨fd_Reading_next_sign, G_Reading_next_sign, ds_Reading_next_sign, v_Reading_next_sign, b_Reading_next_sign⟩ := ok_Reading_next_sign (P := P) (w := w) (base := base) T
  obtain ⟨fd_Reading_count_node, G_Reading_count_node, ds_Reading_count_node, v_Reading_count_node, b_Reading_count_node⟩ := ok_Reading_count_node (P := P) (w := w) (base := base) T
  obtain ⟨fd__refuse, G__refuse, ds__refuse, v__refuse, b__refuse⟩ := ok__refuse (P := P) (w := w) (base := base) T
  exact mk_Reading_read_text T fun fd F => def0 F sc_Reading_read_text (fun vs H Q E h => by
    obtain ⟨o, z, i, n, st, t, lp, pre, vs', nv, tz, l, rfl, _⟩ := h
    rfl) fun cdv A outer s H vs Q E hr h => by
    obtain ⟨o, z, i, n, st, t, lp, pre, vs', nv, tz, l, rfl, R, htz, hl, hz, hst, htt, hlp, hvl, hpre, hn, k⟩ := h
    refine ⟨_, (pss_cons (ps_set (i := 1) sc_Reading_read_text.nd rfl (Or.inl rfl) (pe_lst pa_nil))
  (pss_cons (ps_while PassesOwn.never (pt_not (pt_val (pe_meth (pv 0) T.cl_Reading T.me_Reading_begins G_Reading_begins (hr.mono (by first | decide | omega)) b_Reading_begins v_Reading_begins pass0 (pa_cons pe_str pa_nil))))
  (pss_cons (ps_asg (pe_meth0 (pv 0) T.cl_Reading T.me_Reading_next_sign G_Reading_next_sign (hr.mono (by first | decide | omega)) b_Reading_next_sign v_Reading_next_sign pass0) (pg_tup rfl (pgs_cons (pg_name (i := 2) sc_Reading_read_text.nd rfl (Or.inl rfl)) (pgs_cons (pg_name (i := 3) sc_Reading_read_text.nd rfl (Or.inl rfl)) pgs_nil))))
  (pss_cons (ps_if (pt_cmpR op_eq (pe_callB (cLen K rfl) (by rfl) T.n_len PySem.boot_len (pa_cons (pv 1) pa_nil)) (pe_glob (v := .int 200) rfl T.c_TEXT_CHARACTERS.choose_spec ⟨_, rfl⟩) (nomark _)) (pss_one (ps_expr (pe_call G__refuse (hr.mono (by first | decide | omega)) rfl T.g__refuse T.k__refuse b__refuse v__refuse pass0 (pa_cons (eFld K rfl (pv 0) rfl) (pa_cons (eFld K rfl (pv 0) rfl) (pa_cons pe_str pa_nil)))))) pss_nil)
  (Evl.pss_cut (ps_if (pt_not (tTruth K rfl (pv 1))) (pss_one (ps_expr (pe_meth0 (pv 0) T.cl_Reading T.me_Reading_count_node G_Reading_count_node (hr.mono (by first | decide | omega)) b_Reading_count_node v_Reading_count_node pass0))) pss_nil)
  (pss_cons (ps_expr (eBm K rfl PySem.F.plainAttrs_list PySem.F.slot_list_append PySem.F.type_list_append mt_append (pv 1) (pa_cons (pv 3) pa_nil)))
  (pss_one (sFdAug K rfl in_add (pv 0) (pe_callB call_len_str (by rfl) T.n_len PySem.boot_len (pa_cons (pv 2) pa_nil)))))))))
  (pss_one (ps_expr (eBm K rfl PySem.F.plainAttrs_list PySem.F.slot_list_append PySem.F.type_list_append mt_append (pe_ix (ixT K rfl) (pe_ix (ixL K rfl) (eFld K rfl (pv 0) rfl) (pe_un un_neg pe_int) (fun _ _ => rfl)) pe_int (fun _ _ => rfl)) (pa_cons (pe_join pe_str (pv 1)) pa_nil)))))), ?_⟩
    obtain ⟨t1, t200, tc⟩ := htz
    have tsz : tz.cps.toList.length = tz.cps.size := Array.length_toList
    refine st_seq ⟨by show 0 ≤ sizeLine; decide, fun sp hsp => ?_⟩
    dsimp only [gName]
    have nso : sp ≠ o := fun e => R.on (e ▸ hsp)
    have nss : sp ≠ st := fun e => by rw [e, hst] at hsp; cases hsp
    have nst : sp ≠ t := fun e => by rw [e, htt] at hsp; cases hsp
    have nsl : sp ≠ lp := fun e => by rw [e, hlp] at hsp; cases hsp
    have noo : ∀ {a : Addr} {u : HO}, H a = some u → (∀ C dx fs, u ≠ .ins C dx fs) → a ≠ o := fun {a u} ha hu e => by
      obtain ⟨dx, hR⟩ := R
      rw [e, hR] at ha
      exact hu _ _ _ (Option.some.inj ha).symm
    have n1 : st ≠ o := noo hst nofun
    have n2 : t ≠ o := noo htt nofun
    have n3 : lp ≠ o := noo hlp nofun
    have hrem : ∀ j, remS z (i + (escL (tz.cps.toList.take j)).length) (escL (tz.cps.toList.drop j) ++ 60 :: l) := fun j => by
      refine remS.adv (a := escL (tz.cps.toList.take j)) ?_
      rw [← List.append_assoc]
      have : escL (tz.cps.toList.take j) ++ escL (tz.cps.toList.drop j) = escL tz.cps.toList := by
        unfold escL
        rw [← List.flatMap_append, List.take_append_drop]
      rw [this]
      exact hl
    refine st_seq ⟨fun m σ G => ∃ (j : Nat) (v2 v3 : Option V), σ = [some (.ref o), some (.ref sp), v2, v3] ∧ m = tz.cps.size - j ∧ j ≤ tz.cps.size ∧ Kp [o] H G ∧ RdO K G o z (i + (escL (tz.cps.toList.take j)).length) (if j = 0 then n else n + 1) st ∧ G sp = some (.lst ((tz.cps.toList.take j).map fun c => V.str (sL [c]))), ⟨_, 0, none, none, rfl, rfl, Nat.zero_le _, Kp.new hsp, R.ex (Ex.new hsp), upd_same⟩, ?_⟩
    rintro m σ G ⟨j, v2, v3, rfl, rfl, hj, eG, RG, hs⟩
    have hlt : ("<" : Str).cps.toList = [60] := by decide +kernel
    have hst' := eG.at hst (by simpa using n1)
    have htt' := eG.at htt (by simpa using n2)
    have hlp' := eG.at hlp (by simpa using n3)
    by_cases hjl : j < tz.cps.size
    · have hj2 : j < tz.cps.toList.length := by omega
      have hc := tc _ (List.getElem_mem hj2)
      have hd : tz.cps.toList.drop j = tz.cps.toList[j] :: tz.cps.toList.drop (j + 1) := List.drop_eq_getElem_cons hj2
      have hrj := hrem j
      have hE : escL (tz.cps.toList.drop j) = escC tz.cps.toList[j] ++ escL (tz.cps.toList.drop (j + 1)) := by
        rw [hd]
        rfl
      rw [hE, List.append_assoc] at hrj
      have hcj : tz.cps.toList[j]? = some tz.cps.toList[j] := List.getElem?_eq_getElem hj2
      generalize tz.cps.toList[j] = c at hc hd hrj hE hcj
      refine rd_begins (K := K) RG hrj rfl val_c ⟨_, rfl, ?_⟩
      rw [hlt]
      show if (!decide ((escC c ++ (escL (tz.cps.toList.drop (j + 1)) ++ 60 :: l)).take 1 = [60])) = true then _ else _
      rw [escC_head hc]
      refine iteT ⟨fun σ' G' => ∃ m', m' < tz.cps.size - j ∧ ∃ (j : Nat) (v2 v3 : Option V), σ' = [some (.ref o), some (.ref sp), v2, v3] ∧ m' = tz.cps.size - j ∧ j ≤ tz.cps.size ∧ Kp [o] H G' ∧ RdO K G' o z (i + (escL (tz.cps.toList.take j)).length) (if j = 0 then n else n + 1) st ∧ G' sp = some (.lst ((tz.cps.toList.take j).map fun c => V.str (sL [c]))), fun _ _ h => h, ?_⟩
      have hlen2 : (escL (tz.cps.toList.take (j + 1))).length = (escL (tz.cps.toList.take j)).length + (escC c).length := by
        rw [List.take_succ, hcj]
        unfold escL
        rw [List.flatMap_append, List.length_append]
        congr 1
        show (escC c ++ []).length = _
        rw [List.append_nil]
      have hC5 := (escC_len c).2
      have hlj : ((tz.cps.toList.take j).map fun c => V.str (sL [c])).length = j := by rw [List.length_map, List.length_take]; omega
      obtain ⟨dx, hRG⟩ := id RG
      refine st_seq ⟨_, rfl, o, dx, _, rfl, hRG, fn_Reading_next_sign .., o, z, _, _, st, c, _, rfl, RG, hc, hrj, hz, fun tp G2 htp e2 h2 => ?_⟩
      refine ⟨tp, _, rfl, SqT.of h2, rfl, _, _, rfl, _, _, rfl, rfl, ?_⟩
      have R2 := RG.ex e2
      have hs2 := e2 _ _ hs
      refine st_seq (st_no (ans_v (val_is (w := .bl false) (val_eq (val_lenL (val_var rfl) (SqL.of hs2)) val_c rfl) (by
        rw [hlj, decide_eq_false (fun e => by have := V.int.inj e; omega)]))) ?_)
      refine ⟨fun σ' G3 => σ' = [some (.ref o), some (.ref sp), some (.str (sL (escC c))), some (.str (sL [c]))] ∧ Kp [o] G2 G3 ∧ RdO K G3 o z (i + (escL (tz.cps.toList.take j)).length) (n + 1) st, ?_, ?_⟩
      · refine st_if (ans_not (b := !((tz.cps.toList.take j).map fun c => V.str (sL [c])).isEmpty) fun Q q => ⟨_, rfl, _, .inl ⟨_, SqL.of hs2, rfl⟩, q⟩) (fun h => ?_) (fun h => ?_)
        · have hj0 : j = 0 := by
            cases j with
            | zero => rfl
            | succ j =>
              exfalso
              have : ((tz.cps.toList.take (j + 1)).map fun c => V.str (sL [c])) ≠ [] := fun z => by
                rw [z] at hlj
                cases hlj
              cases hq : ((tz.cps.toList.take (j + 1)).map fun c => V.str (sL [c])) with
              | nil => exact this hq
              | cons _ _ => rw [hq] at h; cases h
          rw [if_pos hj0] at R2
          obtain ⟨dx2, hR2⟩ := id R2
          exact ⟨_, rfl, o, dx2, _, rfl, hR2, fn_Reading_count_node .., o, z, _, n, st, _, rfl, R2, SqL.of (e2 _ _ hst'), by rw [List.length_append, List.length_singleton]; omega, hn, fun G3 R3 e3 => ⟨rfl, e3, R3⟩⟩
        · have hj0 : j ≠ 0 := fun z => by
            subst z
            cases h
          rw [if_neg hj0] at R2
          exact ⟨rfl, Kp.refl, R2⟩
      · rintro σ' G3 ⟨rfl, e3, R3⟩
        have hs3 := e3.at hs2 (by simpa using nso)
        refine st_seq (st_app hs3 (val_var rfl) (val_var rfl) (sz_lt (by rw [hlj]; omega)) ?_)
        obtain ⟨dx3, hR3⟩ := R3
        have hR4 : upd G3 sp (.lst (((tz.cps.toList.take j).map fun c => V.str (sL [c])) ++ [V.str (sL [c])])) o = some (.ins (He.ga K "Reading") dx3 (flds_Reading (.str z) (.int ((i + (escL (tz.cps.toList.take j)).length : Nat) : Int)) (.int ((n + 1 : Nat) : Int)) (.ref st))) := by
          rw [upd_ne nso.symm]
          exact hR3
        refine ⟨_, rfl, o, _, dx3, _, _, rfl, hR4, T.cl_Reading, T.na_Reading_reached, fl_Reading_reached .., _, rfl, sL (escC c), rfl, sz_of (by rw [sL_len]; omega), _, _, rfl, rfl, dx3, _, hR4, fn_len .., ?_⟩
        rw [pu_reached, sL_len, show ((i + (escL (tz.cps.toList.take j)).length : Nat) : Int) + ((escC c).length : Int) = ((i + (escL (tz.cps.toList.take (j + 1))).length : Nat) : Int) by omega]
        refine ⟨_, ?_, j + 1, _, _, rfl, rfl, by omega, ?_, ?_, ?_⟩
        · omega
        · exact (((eG.trans (Kp.of e2)).trans e3).mut hsp).trans Kp.up
        · rw [if_neg (by omega)]
          exact ⟨dx3, upd_same⟩
        · rw [upd_ne nso, upd_same, List.take_succ, hcj, List.map_append]
          rfl
    · obtain rfl : j = tz.cps.size := by omega
      have hfull : tz.cps.toList.take tz.cps.size = tz.cps.toList := by rw [← tsz, List.take_length]
      have hrj := hrem tz.cps.size
      rw [← tsz, List.drop_length, List.take_length] at hrj
      rw [hfull] at RG hs
      rw [if_neg (by omega)] at RG
      refine rd_begins (K := K) (l := 60 :: l) RG hrj rfl val_c ⟨_, rfl, ?_⟩
      rw [hlt]
      refine iteF ?_
      dsimp only
      have f4 := (rd_fld (K := K) T RG (σ := [some (.ref o), some (.ref sp), v2, v3]) rfl).2.2.2
      have vt : Val (tOp (rIxT K) (tOp (rIxL K) (tFld K (tVar 0) "stack") (tUn (rU fun i => .int (-i)) (tC (.int 1)))) (tC (.int 1))) [some (.ref o), some (.ref sp), v2, v3] G (.ref lp) := val_ixT (val_ixL f4 (val_neg val_c) (SqL.of hst') (atI_last _ _)) val_c (SqT.of htt') at_one
      refine vt _ ⟨.inl ⟨rfl, _, SqL.of hlp'⟩, ?_⟩
      have hys : (tz.cps.toList.map fun c => V.str (sL [c])) = (tz.cps.toList.map fun c => sL [c]).map V.str := by rw [List.map_map]; rfl
      rw [hys] at hs
      have hfl : ((tz.cps.toList.map fun c => sL [c]).map fun y : Str => y.cps.toList).flatten = tz.cps.toList := by
        rw [List.map_map]
        generalize tz.cps.toList = q
        induction q with
        | nil => rfl
        | cons a q ih =>
          rw [List.map_cons, List.flatten_cons, ih]
          rfl
      refine ⟨⟨_, rfl⟩, _, rfl, _, sp, _, rfl, rfl, .inl (SqL.of hs), ?_, ?_⟩
      · rw [sum_len, hfl]
        show _ + _ * 0 ≤ _
        omega
      · rw [nosign, join0, hfl, sL_of]
        refine ⟨lp, vs', _, rfl, rfl, hlp', small9 (by omega), ?_⟩
        refine k _ ?_ upd_same ((eG.mono (by simp)).trans (Kp.put (by simp)))
        obtain ⟨dx, hRG⟩ := RG
        exact ⟨dx, by rw [upd_ne n3.symm]; exact hRG⟩
theorem ok_Reading_read_begin_tag (T : TX K mg) : Can P w K mg base CX0 3 (He.fAd K at_Reading_read_begin_tag) ps_Reading_read_begin_tag [] (spBegin K) := by
  obtain ⟨fd_Reading_begins, G_Reading_begins, ds_Reading_begins, v_Reading_begins, b_Reading_begins⟩ := ok_Reading_begins (P := P) (w := w) (base := base) T
  obtain ⟨fd_Reading_read_name, G_Reading_read_name, ds_Reading_read_name, v_Reading_read_name, b_Reading_read_name⟩ := ok_Reading_read_name (P := P) (w := w) (base := base) T
  obtain ⟨fd_Reading_read_tag_end, G_Reading_read_tag_end, ds_Reading_read_tag_end, v_Reading_read_tag_end, b_Reading_read_tag_end⟩ := ok_Reading_read_tag_end (P := P) (w := w) (base := base) T
  obtain ⟨fd_Reading_count_node, G_Reading_count_node, ds_Reading_count_node, v_Reading_count_node, b_Reading_count_node⟩ := ok_Reading_count_node (P := P) (w := w) (base := base) T
  obtain ⟨fd__refuse, G__refuse, ds__refuse, v__refuse, b__refuse⟩ := ok__refuse (P := P) (w := w) (base := base) T
  exact mk_Reading_read_begin_tag T fun fd F => def0 F sc_Reading_read_begin_tag (fun vs H Q E h => by
    obtain ⟨o, z, i, n, st, t, lp, pre, vs', nv, nm, b, l, rfl, _⟩ := h
    rfl) fun cdv A outer s H vs Q E hr h => by
    obtain ⟨o, z, i, n, st, t, lp, pre, vs', nv, nm, b, l, rfl, R, hnm, hl, hz, hst, htt, hlp, nls, hvl, hpre, hn, k⟩ := h
    refine ⟨_, (pss_cons (ps_if (pt_cmpR op_eq (pe_op op_add (eFld K rfl (pv 0) rfl) pe_int) (pe_callB call_len_str (by rfl) T.n_len PySem.boot_len (pa_cons (eFld K rfl (pv 0) rfl) pa_nil)) (nomark _)) (pss_one (ps_expr (pe_call G__refuse (hr.mono (by first | decide | omega)) rfl T.g__refuse T.k__refuse b__refuse v__refuse pass0 (pa_cons (eFld K rfl (pv 0) rfl) (pa_cons (pe_op op_add (eFld K rfl (pv 0) rfl) pe_int) (pa_cons pe_str pa_nil)))))) pss_nil)
  (pss_cons (ps_expr (pe_meth0 (pv 0) T.cl_Reading T.me_Reading_count_node G_Reading_count_node (hr.mono (by first | decide | omega)) b_Reading_count_node v_Reading_count_node pass0))
  (pss_cons (ps_set (i := 1) sc_Reading_read_begin_tag.nd rfl (Or.inl rfl) (pe_tup (pa_cons (pe_meth (pv 0) T.cl_Reading T.me_Reading_read_name G_Reading_read_name (hr.mono (by first | decide | omega)) b_Reading_read_name v_Reading_read_name pass0 (pa_cons (pe_op op_add (eFld K rfl (pv 0) rfl) pe_int) pa_nil)) (pa_cons (pe_lst pa_nil) pa_nil))))
  (pss_cons (ps_expr (eBm K rfl PySem.F.plainAttrs_list PySem.F.slot_list_append PySem.F.type_list_append mt_append (pe_ix (ixT K rfl) (pe_ix (ixL K rfl) (eFld K rfl (pv 0) rfl) (pe_un un_neg pe_int) (fun _ _ => rfl)) pe_int (fun _ _ => rfl)) (pa_cons (pv 1) pa_nil)))
  (pss_cons (ps_if (pt_val (pe_meth (pv 0) T.cl_Reading T.me_Reading_begins G_Reading_begins (hr.mono (by first | decide | omega)) b_Reading_begins v_Reading_begins pass0 (pa_cons pe_str pa_nil))) (pss_one (sFdAug K rfl in_add (pv 0) pe_int)) (pss_one (ps_expr (eBm K rfl PySem.F.plainAttrs_list PySem.F.slot_list_append PySem.F.type_list_append mt_append (eFld K rfl (pv 0) rfl) (pa_cons (pv 1) pa_nil)))))
  (pss_one (ps_expr (pe_meth0 (pv 0) T.cl_Reading T.me_Reading_read_tag_end G_Reading_read_tag_end (hr.mono (by first | decide | omega)) b_Reading_read_tag_end v_Reading_read_tag_end pass0)))))))), ?_⟩
    have noo : ∀ {a : Addr} {u : HO}, H a = some u → (∀ C dx fs, u ≠ .ins C dx fs) → a ≠ o := fun {a u} ha hu e => by
      obtain ⟨dx, hR⟩ := R
      rw [e, hR] at ha
      exact hu _ _ _ (Option.some.inj ha).symm
    have n1 : st ≠ o := noo hst nofun
    have n2 : t ≠ o := noo htt nofun
    have n3 : lp ≠ o := noo hlp nofun
    have f := rd_fld (K := K) T R (σ := [some (.ref o), none]) rfl
    have hl1 : remS z (i + 1) (nm.cps.toList ++ tagTail b l) := remS.adv (a := [60]) hl
    have hl2 := hl1.adv
    have hln := hl1.len
    rw [List.length_append] at hln
    have htl : 1 ≤ (tagTail b l).length := by cases b <;> simp [tagTail]
    have hzl : z.length = z.cps.size := rfl
    have hn12 : 1 ≤ nm.cps.toList.length := by
      have g : ∀ n ∈ fourNames, 1 ≤ n.cps.toList.length := by decide +kernel
      exact g nm hnm
    refine st_seq (st_no (ans_v (val_is (w := .bl false) (val_eq (val_I f.2.1 val_c) (val_cb (va_one f.1) fun Q q => ⟨z, rfl, sz_of hz, q⟩) rfl) (by
      rw [decide_eq_false (fun e => by
        have := V.int.inj e
        omega)]))) ?_)
    obtain ⟨dx, hR⟩ := id R
    refine st_seq ⟨_, rfl, o, dx, _, rfl, hR, fn_Reading_count_node .., o, z, i, n, st, _, rfl, R, SqL.of hst, by rw [List.length_append, List.length_singleton]; omega, hn, fun H1 R1 e1 => ?_⟩
    obtain ⟨dx1, hR1⟩ := id R1
    have f1 := rd_fld (K := K) T R1 (σ := [some (.ref o), none]) rfl
    obtain ⟨t0, l0, ht0, hl0⟩ : ∃ t0 l0, tagTail b l = t0 :: l0 ∧ (t0 = 47 ∨ t0 = 62) := by
      cases b with
      | true => exact ⟨47, 62 :: l, rfl, .inl rfl⟩
      | false => exact ⟨62, l, rfl, .inr rfl⟩
    dsimp only
    refine st_seq (go_asg ?_)
    refine ⟨_, rfl, o, dx1, _, rfl, hR1, fn_Reading_read_name .., (val_I f1.2.1 val_c) _ ?_⟩
    refine ⟨o, z, i, n + 1, st, i + 1, t0, nm, l0, by rw [show (i : Int) + 1 = ((i + 1 : Nat) : Int) by omega] <;> rfl, R1, hnm, by rw [← ht0]; exact hl1, hl0, hz, fun H2 R2 e2 => ?_⟩
    refine ⟨by show 0 ≤ sizeLine; decide, fun l' hl' => ⟨by show 2 ≤ sizeLine; decide, fun t' ht' => ?_⟩⟩
    dsimp only [gName]
    have e12 : Kp [o] H H2 := e1.trans e2
    have on2 : ∀ a ∈ [o], H2 a ≠ none := fun a ha => by rw [List.mem_singleton.mp ha]; exact R2.on
    have hlH : H l' = none := e12.back on2 hl'
    have ntl : t' ≠ l' := fun e => by rw [e, upd_same] at ht'; cases ht'
    have ht2 : H2 t' = none := by rw [upd_ne ntl] at ht'; exact ht'
    have htH : H t' = none := e12.back on2 ht2
    have lo : ∀ {a : Addr} {u : HO}, H2 a = some u → upd (upd H2 l' (.lst [])) t' (.tup [.str nm, .ref l']) a = some u := fun {a u} h => by
      rw [upd_ne (ne_of_none h ht2), upd_ne (ne_of_none h hl')]
      exact h
    have gst := lo (e12.at hst (by simpa using n1))
    have gtt := lo (e12.at htt (by simpa using n2))
    have glp := lo (e12.at hlp (by simpa using n3))
    have gt : upd (upd H2 l' (.lst [])) t' (.tup [.str nm, .ref l']) t' = some (.tup [.str nm, .ref l']) := upd_same
    have gl : upd (upd H2 l' (.lst [])) t' (.tup [.str nm, .ref l']) l' = some (.lst []) := by rw [upd_ne ntl.symm, upd_same]
    have RG : RdO K (upd (upd H2 l' (.lst [])) t' (.tup [.str nm, .ref l'])) o z (i + 1 + nm.cps.toList.length) (n + 1) st := (R2.ex (Ex.new hl')).ex (Ex.new ht')
    have eG : Kp [o, lp, st] H (upd (upd H2 l' (.lst [])) t' (.tup [.str nm, .ref l'])) := (e12.mono (by simp)).trans ((Kp.new hl').trans (Kp.new ht'))
    generalize upd (upd H2 l' (.lst [])) t' (.tup [.str nm, .ref l']) = G at gst gtt glp gt gl RG eG ⊢
    have fin : ∀ X : Hp, Kp [o, lp, st] H X → X t' = some (.tup [.str nm, .ref l']) → X l' = some (.lst []) → X lp = some (.lst (vs' ++ [.ref t'])) → X st = some (.lst (if b then pre ++ [.ref t] else pre ++ [.ref t] ++ [.ref t'])) →
        RdO K X o z (i + 1 + nm.cps.toList.length + (if b then 1 else 0)) (n + 1) st → tMeth (He.ga K "Reading") "read_tag_end" (spTagEnd K) [] E0 (tVar 0) tNil [some (.ref o), some (.ref t')] X (fun _ H' => Q .non H') := fun X x1 x2 x3 x4 x5 x6 => by
      have hend : remS z (i + 1 + nm.cps.toList.length + (if b then 1 else 0)) (62 :: l) := by
        cases b with
        | true => exact remS.adv (a := [47]) hl2
        | false => exact hl2
      have nX : ∀ {a : Addr} {u : HO}, X a = some u → (∀ C dx fs, u ≠ .ins C dx fs) → a ≠ o := fun {a u} ha hu e => by
        obtain ⟨dx, hR⟩ := x6
        rw [e, hR] at ha
        exact hu _ _ _ (Option.some.inj ha).symm
      obtain ⟨dx6, h6⟩ := id x6
      refine ⟨_, rfl, o, dx6, _, rfl, h6, fn_Reading_read_tag_end .., o, z, _, _, st, l, rfl, x6, hend, fun H5 R5 e5 => ?_⟩
      refine k H5 t' l' htH hlH ntl ?_ (e5.at x2 (by simpa using nX x2 nofun)) (e5.at x3 (by simpa using nX x3 nofun)) (e5.at x4 (by simpa using n3)) (e5.at x5 (by simpa using n1)) (x1.trans (e5.mono (by simp)))
      cases b <;> exact R5
    have ftop : Val (tOp (rIxT K) (tOp (rIxL K) (tFld K (tVar 0) "stack") (tUn (rU fun i => .int (-i)) (tC (.int 1)))) (tC (.int 1))) [some (.ref o), some (.ref t')] G (.ref lp) := val_ixT (val_ixL (rd_fld (K := K) T RG (σ := [some (.ref o), some (.ref t')]) rfl).2.2.2 (val_neg val_c) (SqL.of gst) (atI_last _ _)) val_c (SqT.of gtt) at_one
    refine st_seq (st_app glp ftop (val_var rfl) (small9 (by omega)) ?_)
    have nlt : lp ≠ t' := fun e => by rw [e, gt] at glp; cases glp
    have nll : lp ≠ l' := fun e => by rw [← e, hlp] at hlH; cases hlH
    have nst' : st ≠ t' := fun e => by rw [e, gt] at gst; cases gst
    have nsl' : st ≠ l' := fun e => by rw [← e, hst] at hlH; cases hlH
    have g2t : upd G lp (.lst (vs' ++ [V.ref t'])) t' = some (.tup [.str nm, .ref l']) := by rw [upd_ne nlt.symm]; exact gt
    have g2l : upd G lp (.lst (vs' ++ [V.ref t'])) l' = some (.lst []) := by rw [upd_ne nll.symm]; exact gl
    have g2p : upd G lp (.lst (vs' ++ [V.ref t'])) lp = some (.lst (vs' ++ [V.ref t'])) := upd_same
    have g2s : upd G lp (.lst (vs' ++ [V.ref t'])) st = some (.lst (pre ++ [.ref t])) := by rw [upd_ne nls.symm]; exact gst
    have R2G : RdO K (upd G lp (.lst (vs' ++ [V.ref t']))) o z (i + 1 + nm.cps.toList.length) (n + 1) st := by
      obtain ⟨dx, hR⟩ := RG
      exact ⟨dx, by rw [upd_ne n3.symm]; exact hR⟩
    have e2G : Kp [o, lp, st] H (upd G lp (.lst (vs' ++ [V.ref t']))) := eG.trans (Kp.put (by simp))
    generalize upd G lp (.lst (vs' ++ [V.ref t'])) = G2 at g2t g2l g2p g2s R2G e2G ⊢
    have h47 : ("/" : Str).cps.toList = [47] := by decide +kernel
    refine st_seq ?_
    refine rd_begins (K := K) R2G hl2 rfl val_c ⟨_, rfl, ?_⟩
    rw [h47]
    cases b with
    | true =>
      refine iteT ?_
      obtain ⟨dx7, h7⟩ := R2G
      refine ⟨_, rfl, o, _, dx7, _, _, rfl, h7, T.cl_Reading, T.na_Reading_reached, fl_Reading_reached .., _, _, rfl, rfl, dx7, _, h7, fn_len .., ?_⟩
      rw [pu_reached]
      have nt' : t' ≠ o := fun e => by rw [e, h7] at g2t; cases g2t
      have nl' : l' ≠ o := fun e => by rw [e, h7] at g2l; cases g2l
      exact fin _ (e2G.trans (Kp.put (by simp))) (by rw [upd_ne nt']; exact g2t) (by rw [upd_ne nl']; exact g2l) (by rw [upd_ne n3]; exact g2p) (by rw [upd_ne n1]; exact g2s) ⟨dx7, upd_same⟩
    | false =>
      refine iteF ?_
      refine st_app g2s (rd_fld (K := K) T R2G (σ := [some (.ref o), some (.ref t')]) rfl).2.2.2 (val_var rfl) (sz_lt (by rw [List.length_append, List.length_singleton]; omega)) ?_
      obtain ⟨dx7, h7⟩ := R2G
      exact fin _ (e2G.trans (Kp.put (by simp))) (by rw [upd_ne nst'.symm]; exact g2t) (by rw [upd_ne nsl'.symm]; exact g2l) (by rw [upd_ne nls]; exact g2p) upd_same ⟨dx7, by rw [upd_ne n1.symm]; exact h7⟩
theorem ok_Reading_read_end_tag (T : TX K mg) : Can P w K mg base CX0 3 (He.fAd K at_Reading_read_end_tag) ps_Reading_read_end_tag [] (spEnd K) := by
  obtain ⟨fd_Reading_read_name, G_Reading_read_name, ds_Reading_read_name, v_Reading_read_name, b_Reading_read_name⟩ := ok_Reading_read_name (P := P) (w := w) (base := base) T
  obtain ⟨fd_Reading_read_tag_end, G_Reading_read_tag_end, ds_Reading_read_tag_end, v_Reading_read_tag_end, b_Reading_read_tag_end⟩ := ok_Reading_read_tag_end (P := P) (w := w) (base := base) T
  obtain ⟨fd__refuse, G__refuse, ds__refuse, v__refuse, b__refuse⟩ := ok__refuse (P := P) (w := w) (base := base) T
  exact mk_Reading_read_end_tag T fun fd F => def0 F sc_Reading_read_end_tag (fun vs H Q E h => by
    obtain ⟨o, z, i, n, st, t, lp, pre, nm, l, rfl, _⟩ := h
    rfl) fun cdv A outer s H vs Q E hr h => by
    obtain ⟨o, z, i, n, st, t, lp, pre, nm, l, rfl, R, hnm, hl, hz, hst, htt, k⟩ := h
    refine ⟨_, (pss_cons (ps_set (i := 1) sc_Reading_read_end_tag.nd rfl (Or.inl rfl) (pe_op op_add (eFld K rfl (pv 0) rfl) pe_int))
  (pss_cons (ps_set (i := 2) sc_Reading_read_end_tag.nd rfl (Or.inl rfl) (pe_meth (pv 0) T.cl_Reading T.me_Reading_read_name G_Reading_read_name (hr.mono (by first | decide | omega)) b_Reading_read_name v_Reading_read_name pass0 (pa_cons (pv 1) pa_nil)))
  (pss_cons (ps_set (i := 3) sc_Reading_read_end_tag.nd rfl (Or.inl rfl) (pe_ix (ixT K rfl) (pe_ix (ixL K rfl) (eFld K rfl (pv 0) rfl) (pe_un un_neg pe_int) (fun _ _ => rfl)) pe_int (fun _ _ => rfl)))
  (pss_cons (ps_set (i := 4) sc_Reading_read_end_tag.nd rfl (Or.inl rfl) (pe_and (pe_cmpR op_eq (eFld K rfl (pv 0) rfl) (pe_callB call_len_str (by rfl) T.n_len PySem.boot_len (pa_cons (eFld K rfl (pv 0) rfl) pa_nil)) (nomark _)) (pe_one (eBm K rfl PySem.F.plainAttrs_str PySem.F.slot_str_startswith PySem.F.type_str_startswith mt_startswith (pv 3) (pa_cons (pv 2) pa_nil)))))
  (pss_cons (ps_if (PW.pt (pw_and (pt_cmpR op_ne (pv 2) (pv 3) (nomark _)) (pw_and1 (pt_not (pt_val (pv 4)))))) (pss_one (ps_expr (pe_call G__refuse (hr.mono (by first | decide | omega)) rfl T.g__refuse T.k__refuse b__refuse v__refuse pass0 (pa_cons (eFld K rfl (pv 0) rfl) (pa_cons (pv 1) (pa_cons pe_str pa_nil)))))) pss_nil)
  (pss_cons (ps_expr (pe_meth0 (pv 0) T.cl_Reading T.me_Reading_read_tag_end G_Reading_read_tag_end (hr.mono (by first | decide | omega)) b_Reading_read_tag_end v_Reading_read_tag_end pass0))
  (pss_one (ps_expr (eBm0 K rfl PySem.F.plainAttrs_list PySem.F.slot_list_pop PySem.F.type_list_pop mt_pop (eFld K rfl (pv 0) rfl)))))))))), ?_⟩
    have noo : ∀ {a : Addr} {u : HO}, H a = some u → (∀ C dx fs, u ≠ .ins C dx fs) → a ≠ o := fun {a u} ha hu e => by
      obtain ⟨dx, hR⟩ := R
      rw [e, hR] at ha
      exact hu _ _ _ (Option.some.inj ha).symm
    have n1 : st ≠ o := noo hst nofun
    have n2 : t ≠ o := noo htt nofun
    have f := rd_fld (K := K) T R (σ := [some (.ref o), none, none, none, none]) rfl
    have hl1 : remS z (i + 2) (nm.cps.toList ++ 62 :: l) := remS.adv (a := [60, 47]) hl
    have hl2 := hl1.adv
    have hln := hl2.len
    rw [List.length_cons] at hln
    have hzl : z.length = z.cps.size := rfl
    refine st_seq (go_asg (val_I f.2.1 val_c _ ?_))
    dsimp only [gName]
    obtain ⟨dx, hR⟩ := id R
    refine st_seq (go_asg ?_)
    refine ⟨_, rfl, o, dx, _, rfl, hR, fn_Reading_read_name .., _, rfl, o, z, i, n, st, i + 2, 62, nm, l, by rw [show (i : Int) + 2 = ((i + 2 : Nat) : Int) by omega] <;> rfl, R, hnm, hl1, .inr rfl, hz, fun H1 R1 e1 => ?_⟩
    dsimp only [gName]
    have hst1 := e1.at hst (by simpa using n1)
    have htt1 := e1.at htt (by simpa using n2)
    have f1 := rd_fld (K := K) T R1 (σ := [some (.ref o), some (.int ((i : Int) + 2)), some (.str nm), none, none]) rfl
    refine st_seq (go_asg (val_ixT (val_ixL f1.2.2.2 (val_neg val_c) (SqL.of hst1) (atI_last _ _)) val_c (SqT.of htt1) at_cons _ ?_))
    dsimp only [gName]
    have f2 := rd_fld (K := K) T R1 (σ := [some (.ref o), some (.int ((i : Int) + 2)), some (.str nm), some (.str nm), none]) rfl
    refine st_seq (go_asg (val_is (w := .bl false) (val_and (a := false) (b := false) (val_is (val_eq f2.2.1 (val_cb (va_one f2.1) fun Q q => ⟨z, rfl, sz_of hz, q⟩) rfl) (by rw [decide_eq_false fun e => by have := V.int.inj e; omega])) nofun) rfl _ ?_))
    dsimp only [gName]
    have f3 := rd_fld (K := K) T R1 (σ := [some (.ref o), some (.int ((i : Int) + 2)), some (.str nm), some (.str nm), some (.bl false)]) rfl
    refine st_seq (st_no (ans_is (ans_and3 (a := false) (b := false) (ans_v (val_is (w := .bl false) (val_ne (val_var rfl) (val_var rfl) rfl) (by simp))) nofun) rfl) ?_)
    obtain ⟨dx1, hR1⟩ := id R1
    refine st_seq ⟨_, rfl, o, dx1, _, rfl, hR1, fn_Reading_read_tag_end .., o, z, _, n, st, l, rfl, R1, hl2, fun H2 R2 e2 => ?_⟩
    have hst2 := e2.at hst1 (by simpa using n1)
    dsimp only
    obtain ⟨dx2, hR2⟩ := R2
    refine ⟨_, rfl, o, _, dx2, _, _, rfl, hR2, T.cl_Reading, T.na_Reading_stack, fl_Reading_stack .., .inl ⟨rfl, _, SqL.of hst2⟩, st, _, V.ref t, rfl, rfl, hst2, by simp, ?_⟩
    rw [List.dropLast_concat]
    refine k _ ?_ upd_same (((e1.trans e2).mono (by simp)).trans (Kp.put (by simp)))
    exact ⟨dx2, by rw [upd_ne n1.symm]; exact hR2⟩
theorem ok_Reading_read_root (T : TX K mg) : Can P w K mg base CX0 4 (He.fAd K at_Reading_read_root) ps_Reading_read_root [] (spBegin K) := by
  obtain ⟨fd_Reading_begins, G_Reading_begins, ds_Reading_begins, v_Reading_begins, b_Reading_begins⟩ := ok_Reading_begins (P := P) (w := w) (base := base) T
  obtain ⟨fd_Reading_read_begin_tag, G_Reading_read_begin_tag, ds_Reading_read_begin_tag, v_Reading_read_begin_tag, b_Reading_read_begin_tag⟩ := ok_Reading_read_begin_tag (P := P) (w := w) (base := base) T
  obtain ⟨fd__refuse, G__refuse, ds__refuse, v__refuse, b__refuse⟩ := ok__refuse (P := P) (w := w) (base := base) T
  exact mk_Reading_read_root T fun fd F => def0 F sc_Reading_read_root (fun vs H Q E h => by
    obtain ⟨o, z, i, n, st, t, lp, pre, vs', nv, nm, b, l, rfl, _⟩ := h
    rfl) fun cdv A outer s H vs Q E hr h => by
    obtain ⟨o, z, i, n, st, t, lp, pre, vs', nv, nm, b, l, rfl, R, hnm, hl, hz, hst, htt, hlp, nls, hvl, hpre, hn, k⟩ := h
    refine ⟨_, (pss_cons (ps_if (pt_not (pt_val (pe_meth (pv 0) T.cl_Reading T.me_Reading_begins G_Reading_begins (hr.mono (by first | decide | omega)) b_Reading_begins v_Reading_begins pass0 (pa_cons pe_str pa_nil)))) (pss_one (ps_expr (pe_call G__refuse (hr.mono (by first | decide | omega)) rfl T.g__refuse T.k__refuse b__refuse v__refuse pass0 (pa_cons (eFld K rfl (pv 0) rfl) (pa_cons (eFld K rfl (pv 0) rfl) (pa_cons pe_str pa_nil)))))) pss_nil)
  (pss_one (ps_expr (pe_meth0 (pv 0) T.cl_Reading T.me_Reading_read_begin_tag G_Reading_read_begin_tag (hr.mono (by first | decide | omega)) b_Reading_read_begin_tag v_Reading_read_begin_tag pass0)))), ?_⟩
    have hlt : ("<" : Str).cps.toList = [60] := by decide +kernel
    refine st_seq (st_no (ans_is (ans_not (b := true) fun Q q => rd_begins (K := K) R hl rfl val_c ⟨_, rfl, by rw [hlt]; exact q⟩) rfl) ?_)
    obtain ⟨dx, hR⟩ := id R
    exact ⟨_, rfl, o, dx, _, rfl, hR, fn_Reading_read_begin_tag .., o, z, i, n, st, t, lp, pre, vs', nv, nm, b, l, rfl, R, hnm, hl, hz, hst, htt, hlp, nls, hvl, hpre, hn, k⟩
theorem ok_Reading_read_part (T : TX K mg) : Can P w K mg base CX0 4 (He.fAd K at_Reading_read_part) ps_Reading_read_part [] (spPart K) := by
  obtain ⟨fd_Reading_begins, G_Reading_begins, ds_Reading_begins, v_Reading_begins, b_Reading_begins⟩ := ok_Reading_begins (P := P) (w := w) (base := base) T
  obtain ⟨fd_Reading_read_begin_tag, G_Reading_read_begin_tag, ds_Reading_read_begin_tag, v_Reading_read_begin_tag, b_Reading_read_begin_tag⟩ := ok_Reading_read_begin_tag (P := P) (w := w) (base := base) T
  obtain ⟨fd_Reading_read_end_tag, G_Reading_read_end_tag, ds_Reading_read_end_tag, v_Reading_read_end_tag, b_Reading_read_end_tag⟩ := ok_Reading_read_end_tag (P := P) (w := w) (base := base) T
  obtain ⟨fd_Reading_read_text, G_Reading_read_text, ds_Reading_read_text, v_Reading_read_text, b_Reading_read_text⟩ := ok_Reading_read_text (P := P) (w := w) (base := base) T
  exact mk_Reading_read_part T fun fd F => def0 F sc_Reading_read_part (fun vs H Q E h => by
    rcases h with h | h | h
    · obtain ⟨o, z, i, n, st, t, lp, pre, nm, l, rfl, _⟩ := h
      rfl
    · obtain ⟨o, z, i, n, st, t, lp, pre, vs', nv, nm, b, l, rfl, _⟩ := h
      rfl
    · obtain ⟨o, z, i, n, st, t, lp, pre, vs', nv, tz, l, rfl, _⟩ := h
      rfl) fun cdv A outer s H vs Q E hr h => by
    refine ⟨_, (pss_one (ps_if (pt_val (pe_meth (pv 0) T.cl_Reading T.me_Reading_begins G_Reading_begins (hr.mono (by first | decide | omega)) b_Reading_begins v_Reading_begins pass0 (pa_cons pe_str pa_nil))) (pss_one (ps_expr (pe_meth0 (pv 0) T.cl_Reading T.me_Reading_read_end_tag G_Reading_read_end_tag (hr.mono (by first | decide | omega)) b_Reading_read_end_tag v_Reading_read_end_tag pass0))) (pss_one (ps_if (pt_val (pe_meth (pv 0) T.cl_Reading T.me_Reading_begins G_Reading_begins (hr.mono (by first | decide | omega)) b_Reading_begins v_Reading_begins pass0 (pa_cons pe_str pa_nil))) (pss_one (ps_expr (pe_meth0 (pv 0) T.cl_Reading T.me_Reading_read_begin_tag G_Reading_read_begin_tag (hr.mono (by first | decide | omega)) b_Reading_read_begin_tag v_Reading_read_begin_tag pass0))) (pss_one (ps_expr (pe_meth0 (pv 0) T.cl_Reading T.me_Reading_read_text G_Reading_read_text (hr.mono (by first | decide | omega)) b_Reading_read_text v_Reading_read_text pass0))))))), ?_⟩
    have hlt : ("<" : Str).cps.toList = [60] := by decide +kernel
    have hle : ("</" : Str).cps.toList = [60, 47] := by decide +kernel
    rcases h with h | h | h
    · obtain ⟨o, z, i, n, st, t, lp, pre, nm, l, rfl, R, hnm, hl, hz, hst, htt, k⟩ := h
      refine rd_begins (K := K) R hl rfl val_c ⟨_, rfl, ?_⟩
      rw [hle]
      refine iteT ?_
      obtain ⟨dx, hR⟩ := id R
      exact ⟨_, rfl, o, dx, _, rfl, hR, fn_Reading_read_end_tag .., o, z, i, n, st, t, lp, pre, nm, l, rfl, R, hnm, hl, hz, hst, htt, k⟩
    · obtain ⟨o, z, i, n, st, t, lp, pre, vs', nv, nm, b, l, rfl, R, hnm, hl, hz, hst, htt, hlp, nls, hvl, hpre, hn, k⟩ := h
      refine rd_begins (K := K) R hl rfl val_c ⟨_, rfl, ?_⟩
      rw [hle, show ([60, 47] : List Nat).length = 2 from rfl, decide_eq_false (name_no_slash nm hnm _)]
      refine iteF ?_
      refine rd_begins (K := K) R hl rfl val_c ⟨_, rfl, ?_⟩
      rw [hlt]
      refine iteT ?_
      obtain ⟨dx, hR⟩ := id R
      exact ⟨_, rfl, o, dx, _, rfl, hR, fn_Reading_read_begin_tag .., o, z, i, n, st, t, lp, pre, vs', nv, nm, b, l, rfl, R, hnm, hl, hz, hst, htt, hlp, nls, hvl, hpre, hn, k⟩
    · obtain ⟨o, z, i, n, st, t, lp, pre, vs', nv, tz, l, rfl, R, htz, hl, hz, hst, htt, hlp, hvl, hpre, hn, k⟩ := h
      obtain ⟨c, r, hcr⟩ : ∃ c r, tz.cps.toList = c :: r := by
        cases e : tz.cps.toList with
        | nil =>
          have h1 : tz.cps.toList.length = tz.cps.size := Array.length_toList
          have h2 := htz.1
          rw [e] at h1
          simp at h1
          omega
        | cons c r => exact ⟨c, r, rfl⟩
      have hc : c ∈ signCs := htz.2.2 c (by rw [hcr]; exact List.mem_cons_self ..)
      have hl' : remS z i (escC c ++ (escL r ++ 60 :: l)) := by
        rw [← List.append_assoc]
        have : escC c ++ escL r = escL tz.cps.toList := by rw [hcr]; rfl
        rw [this]
        exact hl
      refine rd_begins (K := K) R hl' rfl val_c ⟨_, rfl, ?_⟩
      rw [hle, show ([60, 47] : List Nat).length = 2 from rfl, decide_eq_false (esc_no_tag hc _)]
      refine iteF ?_
      refine rd_begins (K := K) R hl' rfl val_c ⟨_, rfl, ?_⟩
      rw [hlt]
      show if decide ((escC c ++ (escL r ++ 60 :: l)).take 1 = [60]) = true then _ else _
      rw [escC_head hc]
      refine iteF ?_
      obtain ⟨dx, hR⟩ := id R
      exact ⟨_, rfl, o, dx, _, rfl, hR, fn_Reading_read_text .., o, z, i, n, st, t, lp, pre, vs', nv, tz, l, rfl, R, htz, hl, hz, hst, htt, hlp, hvl, hpre, hn, k⟩
theorem ok_Reading_init (T : TX K mg) : Can P w K mg base CX0 1 (He.fAd K at_Reading_init) ps_Reading_init [] (spInit K) := mk_Reading_init T fun fd F => def0 F sc_Reading_init (fun vs H Q E h => by
  obtain ⟨o, dx, z, rfl, _⟩ := h
  rfl) fun cdv A outer s H vs Q E hr h => by
  obtain ⟨o, dx, z, rfl, ho, k⟩ := h
  refine ⟨_, (pss_cons (sFd K rfl (pv 0) (pv 1) rfl)
  (pss_cons (sFd K rfl (pv 0) pe_int rfl)
  (pss_cons (sFd K rfl (pv 0) pe_int rfl)
  (pss_one (sFd K rfl (pv 0) (pe_lst (pa_cons (pe_tup (pa_cons pe_str (pa_cons (pe_lst pa_nil) pa_nil))) pa_nil)) rfl))))), ?_⟩
  refine st_seq ⟨_, rfl, _, rfl, o, _, dx, [], rfl, ho, T.cl_Reading, T.na_Reading_source, by decide, ?_⟩
  refine st_seq ⟨_, rfl, o, _, dx, [("source", .str z)], rfl, upd_same, T.cl_Reading, T.na_Reading_reached, (by decide : 1 < 1000), ?_⟩
  rw [pf_Reading_reached, upd_upd]
  dsimp only
  refine st_seq ⟨_, rfl, o, _, dx, _, rfl, upd_same, T.cl_Reading, T.na_Reading_nodes, (by decide : 2 < 1000), ?_⟩
  rw [pf_Reading_nodes, upd_upd]
  dsimp only
  have oX : upd H o (.ins (He.ga K "Reading") dx [("source", .str z), ("reached", .int 0), ("nodes", .int 0)]) o = some (.ins (He.ga K "Reading") dx [("source", .str z), ("reached", .int 0), ("nodes", .int 0)]) := upd_same
  have eX : Kp [o] H (upd H o (.ins (He.ga K "Reading") dx [("source", .str z), ("reached", .int 0), ("nodes", .int 0)])) := Kp.up
  generalize upd H o (.ins (He.ga K "Reading") dx [("source", .str z), ("reached", .int 0), ("nodes", .int 0)]) = X at oX eX ⊢
  have back : ∀ a, X a = none → H a = none := fun a h => eX.back (fun b hb => by rw [List.mem_singleton.mp hb, oX]; nofun) h
  refine ⟨by show 0 ≤ sizeLine; decide, fun l hl => ⟨by show 2 ≤ sizeLine; decide, fun t ht => ⟨by show 1 ≤ sizeLine; decide, fun st hst => ?_⟩⟩⟩
  have nlo : l ≠ o := fun e => by rw [e, oX] at hl; cases hl
  have htl : t ≠ l := fun e => by rw [e, upd_same] at ht; cases ht
  rw [upd_ne htl] at ht
  have nto : t ≠ o := fun e => by rw [e, oX] at ht; cases ht
  have hsn : st ≠ t := fun e => by rw [e, upd_same] at hst; cases hst
  rw [upd_ne hsn] at hst
  have hsl : st ≠ l := fun e => by rw [e, upd_same] at hst; cases hst
  rw [upd_ne hsl] at hst
  have nso : st ≠ o := fun e => by rw [e, oX] at hst; cases hst
  refine ⟨_, rfl, o, _, dx, [("source", .str z), ("reached", .int 0), ("nodes", .int 0)], rfl, by rw [upd_ne nso.symm, upd_ne nto.symm, upd_ne nlo.symm]; exact oX, T.cl_Reading, T.na_Reading_stack, (by decide : 3 < 1000), ?_⟩
  rw [pf_Reading_stack]
  refine k _ st t l (back _ hst) (back _ ht) (back _ hl) hsn hsl htl ⟨dx, upd_same⟩ ?_ ?_ ?_ ?_
  · rw [upd_ne nso, upd_same]
  · rw [upd_ne nto, upd_ne hsn.symm, upd_same]
  · rw [upd_ne nlo, upd_ne hsl.symm, upd_ne htl.symm, upd_same]
  · refine eX.trans (((Kp.new hl).trans (Kp.new ?_)).trans ((Kp.new ?_).trans (Kp.put (by simp))))
    · rw [upd_ne htl]
      exact ht
    · rw [upd_ne hsn, upd_ne hsl]
      exact hst
end
/-! ### the program's reader, whole -/
structure InvR (K : PySem.W.Frag) (H0 : Hp) (b : Bool) (root : Tr) (z : Str) (o st : Addr) (i n : Nat) (F : List Fr) (G : Hp) : Prop where
  rd : RdO K G o z i n st
  rem : remS z i (remF b F)
  stk : G st = some (.lst (F.map fun f => V.ref f.t).reverse)
  nd : (o :: st :: F.map Fr.l).Nodup
  fr : FrsOK K H0 (o :: st :: F.map Fr.l) G 0 [] F
  fin : finF [] F = [root]
  cost : n + nodF F ≤ 400
  ex : Ex H0 G
  ho : H0 o = none
  hs : H0 st = none
  len : F.length ≤ 6
theorem ex_kp {S : List Addr} {H0 G G' : Hp} (e : Ex H0 G) (k : Kp S G G') (h : ∀ a ∈ S, H0 a = none) : Ex H0 G' := fun a o ha => k a o (fun z => by rw [h a z] at ha; cases ha) (e a o ha)
section
variable {K : PySem.W.Frag} {H0 : Hp} {b : Bool} {root : Tr} {z : Str} {o st : Addr} {i n : Nat}
theorem frs_lst {S : List Addr} {G : Hp} : ∀ {r : List Fr} {p : Nat} {above : List V}, FrsOK K H0 S G p above r → ∀ f ∈ r, (∃ ys, G f.l = some (.lst ys)) ∧ H0 f.l = none
  | [], _, _, _, _, h => by cases h
  | f :: r, _, _, ⟨h1, h2⟩, g, hg => by
    rcases List.mem_cons.mp hg with rfl | hg
    · exact ⟨⟨_, h1.l⟩, h1.h⟩
    · exact frs_lst h2 g hg
theorem InvR.notup {F : List Fr} {G : Hp} (I : InvR K H0 b root z o st i n F G) : ∀ a ∈ o :: st :: F.map Fr.l, ∀ xs, G a ≠ some (.tup xs) := fun a ha xs => by
  rcases List.mem_cons.mp ha with rfl | ha
  · obtain ⟨dx, h⟩ := I.rd
    rw [h]
    nofun
  rcases List.mem_cons.mp ha with rfl | ha
  · rw [I.stk]
    nofun
  · obtain ⟨f, hf, rfl⟩ := List.mem_map.mp ha
    obtain ⟨⟨ys, h⟩, _⟩ := frs_lst I.fr f hf
    rw [h]
    nofun
theorem InvR.on {F : List Fr} {G : Hp} (I : InvR K H0 b root z o st i n F G) : ∀ a ∈ o :: st :: F.map Fr.l, G a ≠ none := fun a ha => by
  rcases List.mem_cons.mp ha with rfl | ha
  · exact I.rd.on
  rcases List.mem_cons.mp ha with rfl | ha
  · rw [I.stk]
    nofun
  · obtain ⟨f, hf, rfl⟩ := List.mem_map.mp ha
    obtain ⟨⟨ys, h⟩, _⟩ := frs_lst I.fr f hf
    rw [h]
    nofun
theorem InvR.fresh {F : List Fr} {G : Hp} (I : InvR K H0 b root z o st i n F G) : ∀ a ∈ o :: st :: F.map Fr.l, H0 a = none := fun a ha => by
  rcases List.mem_cons.mp ha with rfl | ha
  · exact I.ho
  rcases List.mem_cons.mp ha with rfl | ha
  · exact I.hs
  · obtain ⟨f, hf, rfl⟩ := List.mem_map.mp ha
    exact (frs_lst I.fr f hf).2
theorem st_split {G : Hp} {f : Fr} {r : List Fr} (h : G st = some (.lst ((f :: r).map fun f => V.ref f.t).reverse)) : G st = some (.lst ((r.map fun f => V.ref f.t).reverse ++ [.ref f.t])) := by
  rw [h, List.map_cons, List.reverse_cons]
/-- a begin tag -/
theorem InvR.begin {f : Fr} {r : List Fr} {G : Hp} {nm : Str} {cs rest : List Tr} {Q : VK} {E : XK} (I : InvR K H0 b root z o st i n (f :: r) G) (e : f.rest = .el nm cs :: rest) (hz : z.cps.size ≤ 100000)
    (k : ∀ (i' n' : Nat) (F' : List Fr) (G' : Hp), InvR K H0 b root z o st i' n' F' G' → i < i' → F' ≠ [] → lastRest F' = lastRest ({ f with rest := rest } :: r) → Q .non G') : spBegin K [.ref o] G Q E := by
  obtain ⟨h1, h2⟩ := I.fr
  have hok := h1.ok (.el nm cs) (by rw [e]; exact List.mem_cons_self ..)
  obtain ⟨j, hj⟩ : ∃ j, 5 - r.length = j + 1 := by
    cases q : 5 - r.length with
    | zero => rw [q] at hok; exact hok.elim
    | succ j => exact ⟨j, rfl⟩
  rw [hj] at hok
  obtain ⟨k1, k2, k3, k4⟩ := hok
  have hfew := h1.few
  rw [e, List.length_cons] at hfew
  have hnd := I.nd
  have hcost := I.cost
  rw [nodF, e, nods, nod] at hcost
  have hap : apartT rest := apartT_tail (by rw [← e]; exact h1.ap)
  have hvl : f.vs.length ≤ 10000 := by
    rw [dpa_len (h1.c G Kp.refl), ds_map, List.length_map]
    omega
  have hrem := I.rem
  rw [remF_cons e { f with rest := rest } rfl rfl, wr] at hrem
  have nls : f.l ≠ st := fun q => by
    have := (List.nodup_cons.mp (List.nodup_cons.mp hnd).2).1
    exact this (by rw [← q]; exact List.mem_cons_self ..)
  have hSub : ∀ a ∈ [o, f.l, st], a ∈ o :: st :: (f :: r).map Fr.l := by simp
  have hin : ∀ g ∈ r, g.l ∉ [o, f.l, st] := fun g hg q => by
    have hm : g.l ∈ r.map Fr.l := List.mem_map.mpr ⟨g, hg, rfl⟩
    obtain ⟨n1, n2⟩ := List.nodup_cons.mp hnd
    obtain ⟨n3, n4⟩ := List.nodup_cons.mp n2
    rw [List.map_cons] at n1 n3 n4
    obtain ⟨n5, _⟩ := List.nodup_cons.mp n4
    simp only [List.mem_cons, List.not_mem_nil, or_false] at q
    rcases q with q | q | q
    · exact n1 (by rw [← q]; exact List.mem_cons_of_mem _ (List.mem_cons_of_mem _ hm))
    · exact n5 (by rw [← q]; exact hm)
    · exact n3 (by rw [← q]; exact List.mem_cons_of_mem _ hm)
  refine ⟨o, z, i, n, st, f.t, f.l, (r.map fun f => V.ref f.t).reverse, f.vs, .str f.n, nm, cs.isEmpty && !b,
    if (cs.isEmpty && !b) = true then remF b ({ f with rest := rest } :: r) else wrs b cs ++ [60, 47] ++ nm.cps.toList ++ [62] ++ remF b ({ f with rest := rest } :: r), rfl, I.rd, k1, ?_, hz, st_split I.stk, h1.t, by have := h1.l; rwa [List.append_nil] at this, nls, hvl, ?_, by omega, ?_⟩
  · cases q : (cs.isEmpty && !b) with
    | true =>
      rw [q, if_pos rfl] at hrem
      rw [if_pos rfl]
      show remS z i (60 :: (nm.cps.toList ++ (47 :: 62 :: _)))
      have : ([60] ++ nm.cps.toList ++ [47, 62]) ++ remF b ({ f with rest := rest } :: r) = 60 :: (nm.cps.toList ++ 47 :: 62 :: remF b ({ f with rest := rest } :: r)) := by simp
      rwa [this] at hrem
    | false =>
      rw [q, if_neg nofun] at hrem
      rw [if_neg nofun]
      show remS z i (60 :: (nm.cps.toList ++ (62 :: _)))
      have : ([60] ++ nm.cps.toList ++ [62] ++ wrs b cs ++ [60, 47] ++ nm.cps.toList ++ [62]) ++ remF b ({ f with rest := rest } :: r) = 60 :: (nm.cps.toList ++ 62 :: (wrs b cs ++ [60, 47] ++ nm.cps.toList ++ [62] ++ remF b ({ f with rest := rest } :: r))) := by simp
      rwa [this] at hrem
  · have := I.len
    rw [List.length_reverse, List.length_map]
    rw [List.length_cons] at this
    omega
  · intro G1 t' l' ht' hl' ntl R1 g1 g2 g3 g4 e1
    have hS : ∀ a ∈ o :: st :: (f :: r).map Fr.l, a ≠ t' ∧ a ≠ l' := fun a ha => ⟨fun q => I.on a ha (q ▸ ht'), fun q => I.on a ha (q ▸ hl')⟩
    have hT : ∀ a ∈ [o, f.l, st], ∀ xs, G a ≠ some (.tup xs) := fun a ha => I.notup a (hSub a ha)
    have hEx : Ex H0 G1 := ex_kp I.ex e1 fun a ha => I.fresh a (hSub a ha)
    have htt : G1 f.t = some (.tup [.str f.n, .ref f.l]) := e1.at h1.t fun q => hT _ q _ h1.t
    cases q : (cs.isEmpty && !b) with
    | true =>
      rw [q, if_pos rfl] at hrem g4 R1
      have hcs : cs = [] := List.isEmpty_iff.mp (Bool.and_eq_true_iff.mp q).1
      subst hcs
      have eS : Kp (o :: st :: (f :: r).map Fr.l) G G1 := e1.mono hSub
      refine k _ _ ({ f with vs := f.vs ++ [.ref t'], ds := f.ds ++ [.el nm []], rest := rest } :: r) G1 ⟨R1, ?_, ?_, I.nd, ⟨⟨htt, ?_, ?_, ?_, hap, ?_, h1.n, h1.h⟩, h2.step e1 hT (fun vs ds c => c.step eS) hin⟩, ?_, ?_, hEx, I.ho, I.hs, I.len⟩ (by omega) nofun (by cases r <;> rfl)
      · have := hrem.adv
        have e2 : i + ([60] ++ nm.cps.toList ++ [47, 62]).length = i + 1 + nm.cps.toList.length + 2 := by
          simp only [List.length_append, List.length_cons, List.length_nil]
          omega
        rw [e2] at this
        cases r <;> exact this
      · rw [g4, List.map_cons, List.reverse_cons]
      · rw [List.append_nil]; exact g3
      · intro G2 e2
        rw [ds_app]
        refine dpAll_snoc (h1.c G2 (eS.trans e2)) ?_
        refine .tup (SqT.of (e2.at g1 fun q => (hS _ q).1 rfl)) (.cons (.str _) (.cons (.lst (SqL.of (e2.at g2 fun q => (hS _ q).2 rfl)) .nil) .nil))
      · show (f.ds ++ [Tr.el nm []]).length + rest.length + 0 ≤ 3
        rw [List.length_append, List.length_singleton]
        omega
      · exact fun c hc => h1.ok c (by rw [e]; exact List.mem_cons_of_mem _ hc)
      · rw [← I.fin]
        refine finF_eq ?_ rfl
        show f.ds ++ [Tr.el nm []] ++ [] ++ rest = f.ds ++ [] ++ f.rest
        rw [e]
        simp
      · show n + 1 + (nods rest + nodF r) ≤ 400
        omega
    | false =>
      rw [q, if_neg nofun] at hrem g4 R1
      have hon : ∀ a ∈ o :: st :: l' :: f.l :: r.map Fr.l, a = l' ∨ a ∈ o :: st :: (f :: r).map Fr.l := fun a ha => by
        simp only [List.map_cons, List.mem_cons] at ha ⊢
        rcases ha with h | h | h | h | h
        · exact .inr (.inl h)
        · exact .inr (.inr (.inl h))
        · exact .inl h
        · exact .inr (.inr (.inr (.inl h)))
        · exact .inr (.inr (.inr (.inr h)))
      have hC : ∀ vs ds, Clo K (o :: st :: (f :: r).map Fr.l) G vs ds → Clo K (o :: st :: l' :: f.l :: r.map Fr.l) G1 vs ds := fun vs ds c => c.open (e1.mono hSub) hl' hon
      refine k _ _ (⟨t', l', nm, [], [], cs⟩ :: { f with rest := rest } :: r) G1 ⟨R1, ?_, ?_, ?_, ⟨⟨g1, ?_, ?_, ?_, k3, ?_, fun _ => k1, ?_⟩, ⟨htt, ?_, hC _ _ h1.c, ?_, hap, ?_, h1.n, h1.h⟩, h2.step e1 hT hC hin⟩, ?_, ?_, hEx, I.ho, I.hs, ?_⟩ (by omega) nofun rfl
      · have hre : [60] ++ nm.cps.toList ++ [62] ++ wrs b cs ++ [60, 47] ++ nm.cps.toList ++ [62] ++ remF b ({ f with rest := rest } :: r) = ([60] ++ nm.cps.toList ++ [62]) ++ remF b (⟨t', l', nm, [], [], cs⟩ :: { f with rest := rest } :: r) := by
          show _ = ([60] ++ nm.cps.toList ++ [62]) ++ (wrs b cs ++ 60 :: 47 :: (nm.cps.toList ++ 62 :: remF b ({ f with rest := rest } :: r)))
          simp
        rw [hre] at hrem
        have := hrem.adv
        have e2 : i + ([60] ++ nm.cps.toList ++ [62]).length = i + 1 + nm.cps.toList.length + 1 := by
          simp only [List.length_append, List.length_cons, List.length_nil]
          omega
        rw [e2] at this
        exact this
      · rw [g4]
        simp
      · have a1 := hS o (by simp)
        have a2 := hS st (by simp)
        have a3 : l' ∉ (f :: r).map Fr.l := fun h => (hS l' (by simp only [List.mem_cons]; exact .inr (.inr h))).2 rfl
        show (o :: st :: l' :: (f :: r).map Fr.l).Nodup
        obtain ⟨n1, n2⟩ := List.nodup_cons.mp hnd
        obtain ⟨n3, n4⟩ := List.nodup_cons.mp n2
        refine List.nodup_cons.mpr ⟨fun h => ?_, List.nodup_cons.mpr ⟨fun h => ?_, List.nodup_cons.mpr ⟨a3, n4⟩⟩⟩
        · rcases List.mem_cons.mp h with h | h
          · exact n1 (by rw [h]; exact List.mem_cons_self ..)
          rcases List.mem_cons.mp h with h | h
          · exact a1.2 h
          · exact n1 (List.mem_cons_of_mem _ h)
        · rcases List.mem_cons.mp h with h | h
          · exact a2.2 h
          · exact n3 h
      · exact g2
      · exact fun G2 _ => .nil
      · show 0 + cs.length + 0 ≤ 3
        omega
      · intro c hc
        have := k4 c hc
        have e2 : 5 - ({ f with rest := rest } :: r : List Fr).length = j := by
          rw [List.length_cons]
          omega
        rw [e2]
        exact this
      · cases q2 : H0 l' with
        | none => rfl
        | some u =>
          have := I.ex _ _ q2
          rw [hl'] at this
          cases this
      · exact g3
      · show f.ds.length + rest.length + 1 ≤ 3
        omega
      · exact fun c hc => h1.ok c (by rw [e]; exact List.mem_cons_of_mem _ hc)
      · rw [← I.fin]
        show finF [.el nm ([] ++ [] ++ cs)] ({ f with rest := rest } :: r) = _
        refine finF_eq ?_ rfl
        show f.ds ++ [Tr.el nm ([] ++ [] ++ cs)] ++ rest = f.ds ++ [] ++ f.rest
        rw [e]
        simp
      · show n + 1 + (nods cs + (nods rest + nodF r)) ≤ 400
        omega
      · show r.length + 1 + 1 ≤ 6
        omega
/-- a text -/
theorem InvR.text {f : Fr} {r : List Fr} {G : Hp} {y : Str} {rest : List Tr} {Q : VK} {E : XK} (I : InvR K H0 b root z o st i n (f :: r) G) (hr : r ≠ []) (e : f.rest = .txt y :: rest) (hz : z.cps.size ≤ 100000)
    (k : ∀ (i' n' : Nat) (F' : List Fr) (G' : Hp), InvR K H0 b root z o st i' n' F' G' → i < i' → F' ≠ [] → lastRest F' = lastRest (f :: r) → Q .non G') : spText K [.ref o] G Q E := by
  obtain ⟨h1, h2⟩ := I.fr
  have hok : okText 5 y := by
    have := h1.ok (.txt y) (by rw [e]; exact List.mem_cons_self ..)
    generalize 5 - r.length = j at this
    cases j <;> exact this
  have hfew := h1.few
  rw [e, List.length_cons] at hfew
  have hnd := I.nd
  have hcost := I.cost
  rw [nodF, e, nods, nod] at hcost
  have hap : apartT rest := apartT_tail (by rw [← e]; exact h1.ap)
  have hvl : f.vs.length ≤ 10000 := by
    rw [dpa_len (h1.c G Kp.refl), ds_map, List.length_map]
    omega
  have hrem := I.rem
  rw [remF_cons e { f with rest := rest } rfl rfl, wr] at hrem
  have hSub : ∀ a ∈ [o, f.l], a ∈ o :: st :: (f :: r).map Fr.l := by simp
  obtain ⟨n1, n2⟩ := List.nodup_cons.mp hnd
  obtain ⟨n3, n4⟩ := List.nodup_cons.mp n2
  rw [List.map_cons] at n1 n3 n4
  obtain ⟨n5, _⟩ := List.nodup_cons.mp n4
  have hin : ∀ g ∈ r, g.l ∉ [o, f.l] := fun g hg q => by
    have hm : g.l ∈ r.map Fr.l := List.mem_map.mpr ⟨g, hg, rfl⟩
    simp only [List.mem_cons, List.not_mem_nil, or_false] at q
    rcases q with q | q
    · exact n1 (by rw [← q]; exact List.mem_cons_of_mem _ (List.mem_cons_of_mem _ hm))
    · exact n5 (by rw [← q]; exact hm)
  obtain ⟨l, hl⟩ : ∃ l, remF b ({ f with rest := rest } :: r) = 60 :: l := by
    cases r with
    | nil => exact absurd rfl hr
    | cons g r =>
      have := behind_txt (b := b) (by rw [← e]; exact h1.ap) (47 :: (f.n.cps.toList ++ 62 :: remF b (g :: r)))
      exact this
  refine ⟨o, z, i, n, st, f.t, f.l, (r.map fun f => V.ref f.t).reverse, f.vs, .str f.n, y, l, rfl, I.rd, ⟨hok.1, by have := hok.2.1; omega, hok.2.2⟩, by rw [← hl]; exact hrem, hz, st_split I.stk, h1.t, by have := h1.l; rwa [List.append_nil] at this, hvl, ?_, by omega, ?_⟩
  · have := I.len
    rw [List.length_reverse, List.length_map]
    rw [List.length_cons] at this
    omega
  · intro G1 R1 g3 e1
    have hT : ∀ a ∈ [o, f.l], ∀ xs, G a ≠ some (.tup xs) := fun a ha => I.notup a (hSub a ha)
    have hEx : Ex H0 G1 := ex_kp I.ex e1 fun a ha => I.fresh a (hSub a ha)
    have htt : G1 f.t = some (.tup [.str f.n, .ref f.l]) := e1.at h1.t fun q => hT _ q _ h1.t
    have eS : Kp (o :: st :: (f :: r).map Fr.l) G G1 := e1.mono hSub
    have hpos : 1 ≤ (escL y.cps.toList).length := by
      have h2 := hok.1
      have h3 : y.cps.toList.length = y.cps.size := Array.length_toList
      cases q : y.cps.toList with
      | nil =>
        rw [q] at h3
        simp at h3
        omega
      | cons c r =>
        have := (escC_len c).1
        show 1 ≤ (escC c ++ escL r).length
        rw [List.length_append]
        omega
    refine k _ _ ({ f with vs := f.vs ++ [.str y], ds := f.ds ++ [.txt y], rest := rest } :: r) G1 ⟨R1, ?_, ?_, I.nd, ⟨⟨htt, ?_, ?_, ?_, hap, ?_, h1.n, h1.h⟩, h2.step e1 hT (fun vs ds c => c.step eS) hin⟩, ?_, ?_, hEx, I.ho, I.hs, I.len⟩ (by omega) nofun (by cases r with | nil => exact absurd rfl hr | cons g r => rfl)
    · have := hrem.adv
      cases r <;> exact this
    · exact e1.at I.stk fun q => by
        simp only [List.mem_cons, List.not_mem_nil, or_false] at q
        rcases q with q | q
        · exact n1 (by rw [← q]; exact List.mem_cons_self ..)
        · exact n3 (by rw [← q]; exact List.mem_cons_self ..)
    · rw [List.append_nil]; exact g3
    · intro G2 e2
      rw [ds_app]
      exact dpAll_snoc (h1.c G2 (eS.trans e2)) (.str _)
    · show (f.ds ++ [Tr.txt y]).length + rest.length + 0 ≤ 3
      rw [List.length_append, List.length_singleton]
      omega
    · exact fun c hc => h1.ok c (by rw [e]; exact List.mem_cons_of_mem _ hc)
    · rw [← I.fin]
      refine finF_eq ?_ rfl
      show f.ds ++ [Tr.txt y] ++ [] ++ rest = f.ds ++ [] ++ f.rest
      rw [e]
      simp
    · show n + 1 + (nods rest + nodF r) ≤ 400
      omega
/-- an end tag -/
theorem InvR.close {f g : Fr} {r : List Fr} {G : Hp} {Q : VK} {E : XK} (I : InvR K H0 b root z o st i n (f :: g :: r) G) (e : f.rest = []) (hz : z.cps.size ≤ 100000)
    (k : ∀ (i' n' : Nat) (F' : List Fr) (G' : Hp), InvR K H0 b root z o st i' n' F' G' → i < i' → F' ≠ [] → lastRest F' = lastRest (f :: g :: r) → Q .non G') : spEnd K [.ref o] G Q E := by
  obtain ⟨h1, h2, h3⟩ := I.fr
  have hnd := I.nd
  have hcost := I.cost
  have hlen := I.len
  have hfew := h2.few
  rw [nodF, e, nods, nodF] at hcost
  have hrem := I.rem
  have hr0 : remF b (f :: g :: r) = 60 :: 47 :: (f.n.cps.toList ++ 62 :: remF b (g :: r)) := by
    show wrs b f.rest ++ _ = _
    rw [e, wrs]
    rfl
  rw [hr0] at hrem
  obtain ⟨n1, n2⟩ := List.nodup_cons.mp hnd
  obtain ⟨n3, n4⟩ := List.nodup_cons.mp n2
  rw [List.map_cons, List.map_cons] at n1 n3 n4
  obtain ⟨n5, n6⟩ := List.nodup_cons.mp n4
  have hSub : ∀ a ∈ [o, st], a ∈ o :: st :: (f :: g :: r).map Fr.l := by simp
  have hS1 : ∀ a ∈ o :: st :: (g :: r).map Fr.l, a ∈ o :: st :: (f :: g :: r).map Fr.l := by
    intro a ha
    simp only [List.map_cons, List.mem_cons] at ha ⊢
    rcases ha with h | h | h | h
    · exact .inl h
    · exact .inr (.inl h)
    · exact .inr (.inr (.inr (.inl h)))
    · exact .inr (.inr (.inr (.inr h)))
  have hno : ∀ u ∈ f :: g :: r, u.l ∉ [o, st] := fun u hu q => by
    have hm : u.l ∈ (f :: g :: r).map Fr.l := List.mem_map.mpr ⟨u, hu, rfl⟩
    simp only [List.mem_cons, List.not_mem_nil, or_false] at q
    rcases q with q | q
    · exact n1 (by rw [← q]; exact List.mem_cons_of_mem _ hm)
    · exact n3 (by rw [← q]; exact hm)
  refine ⟨o, z, i, n, st, f.t, f.l, ((g :: r).map fun f => V.ref f.t).reverse, f.n, remF b (g :: r), rfl, I.rd, h1.n nofun, hrem, hz, st_split I.stk, h1.t, fun G1 R1 g4 e1 => ?_⟩
  have hT : ∀ a ∈ [o, st], ∀ xs, G a ≠ some (.tup xs) := fun a ha => I.notup a (hSub a ha)
  have hEx : Ex H0 G1 := ex_kp I.ex e1 fun a ha => I.fresh a (hSub a ha)
  have eS : Kp (o :: st :: (f :: g :: r).map Fr.l) G G1 := e1.mono hSub
  have hC : ∀ vs ds, Clo K (o :: st :: (f :: g :: r).map Fr.l) G vs ds → Clo K (o :: st :: (g :: r).map Fr.l) G1 vs ds := fun vs ds c => (c.step eS).less hS1
  have hft : f.t ∉ o :: st :: (g :: r).map Fr.l := fun q => I.notup _ (hS1 _ q) _ h1.t
  have hfl : f.l ∉ o :: st :: (g :: r).map Fr.l := fun q => by
    rcases List.mem_cons.mp q with q | q
    · exact n1 (by rw [← q]; exact List.mem_cons_of_mem _ (List.mem_cons_self ..))
    rcases List.mem_cons.mp q with q | q
    · exact n3 (by rw [← q]; exact List.mem_cons_self ..)
    · exact n5 q
  have gft := e1.at h1.t fun q => hT _ q _ h1.t
  have gfl := e1.at h1.l (hno f (List.mem_cons_self ..))
  rw [List.append_nil] at gfl
  refine k _ _ ({ g with vs := g.vs ++ [.ref f.t], ds := g.ds ++ [.el f.n f.ds] } :: r) G1 ⟨R1, ?_, g4, ?_, ⟨⟨e1.at h2.t fun q => hT _ q _ h2.t, ?_, ?_, ?_, h2.ap, h2.ok, h2.n, h2.h⟩, h3.step e1 hT hC fun u hu => hno u (List.mem_cons_of_mem _ (List.mem_cons_of_mem _ hu))⟩, ?_, ?_, hEx, I.ho, I.hs, ?_⟩ (by omega) nofun (by cases r <;> rfl)
  · have := (remS.adv (a := 60 :: 47 :: (f.n.cps.toList ++ [62])) (l := remF b (g :: r)) (by simpa using hrem))
    have e2 : i + (60 :: 47 :: (f.n.cps.toList ++ [62])).length = i + 2 + f.n.cps.toList.length + 1 := by
      simp only [List.length_append, List.length_cons, List.length_nil]
      omega
    rw [e2] at this
    cases r <;> exact this
  · refine List.nodup_cons.mpr ⟨fun h => n1 ?_, List.nodup_cons.mpr ⟨fun h => n3 (List.mem_cons_of_mem _ h), n6⟩⟩
    rcases List.mem_cons.mp h with h | h
    · exact List.mem_cons.mpr (.inl h)
    · exact List.mem_cons_of_mem _ (List.mem_cons_of_mem _ h)
  · have := e1.at h2.l (hno g (List.mem_cons_of_mem _ (List.mem_cons_self ..)))
    rw [List.append_nil]
    exact this
  · intro G2 e2
    rw [ds_app]
    refine dpAll_snoc (h2.c G2 (eS.trans (e2.mono hS1))) ?_
    exact .tup (SqT.of (e2.at gft hft)) (.cons (.str _) (.cons (.lst (SqL.of (e2.at gfl hfl)) (h1.c G2 (eS.trans (e2.mono hS1)))) .nil))
  · show (g.ds ++ [Tr.el f.n f.ds]).length + g.rest.length + 0 ≤ 3
    rw [List.length_append, List.length_singleton]
    omega
  · rw [← I.fin]
    show _ = finF [.el f.n (f.ds ++ [] ++ f.rest)] (g :: r)
    refine finF_eq ?_ rfl
    show g.ds ++ [Tr.el f.n f.ds] ++ [] ++ g.rest = g.ds ++ [Tr.el f.n (f.ds ++ [] ++ f.rest)] ++ g.rest
    rw [e]
    simp
  · show n + (nods g.rest + nodF r) ≤ 400
    omega
  · show r.length + 1 ≤ 6
    rw [List.length_cons, List.length_cons] at hlen
    omega
/-- a turn of the reader -/
theorem InvR.part {f g : Fr} {r : List Fr} {G : Hp} {Q : VK} {E : XK} (I : InvR K H0 b root z o st i n (f :: g :: r) G) (hz : z.cps.size ≤ 100000)
    (k : ∀ (i' n' : Nat) (F' : List Fr) (G' : Hp), InvR K H0 b root z o st i' n' F' G' → i < i' → F' ≠ [] → lastRest F' = lastRest (f :: g :: r) → Q .non G') : spPart K [.ref o] G Q E := by
  cases e : f.rest with
  | nil => exact .inl (I.close e hz k)
  | cons c rest =>
    cases c with
    | txt y => exact .inr (.inr (I.text nofun e hz k))
    | el nm cs => exact .inr (.inl (I.begin e hz fun i' n' F' G' I' hi hF hl => k i' n' F' G' I' hi hF (hl.trans rfl)))
end
def spRead (K : PySem.W.Frag) : Sp := fun vs H Q _ => ∃ (n : Str) (cs : List Tr) (b : Bool), vs = [.str (sL (wr b (.el n cs)))] ∧ okTr 5 (.el n cs) ∧ ∀ (v : V) (H' : Hp), Ex H H' → Dp K H' v (Tr.el n cs).d → Q v H'
section
variable {P : Program} {w : World} {K : PySem.W.Frag} {mg : Str → Option Value} {base : Heap}
theorem ok_read_document (T : TX K mg) : Can P w K mg base CX0 6 (He.fAd K at_read_document) ps_read_document [] (spRead K) := by
  obtain ⟨fd_Reading_read_root, G_Reading_read_root, ds_Reading_read_root, v_Reading_read_root, b_Reading_read_root⟩ := ok_Reading_read_root (P := P) (w := w) (base := base) T
  obtain ⟨fd_Reading_read_part, G_Reading_read_part, ds_Reading_read_part, v_Reading_read_part, b_Reading_read_part⟩ := ok_Reading_read_part (P := P) (w := w) (base := base) T
  obtain ⟨fd_Reading_init, G_Reading_init, ds_Reading_init, v_Reading_init, b_Reading_init⟩ := ok_Reading_init (P := P) (w := w) (base := base) T
  obtain ⟨fd__refuse, G__refuse, ds__refuse, v__refuse, b__refuse⟩ := ok__refuse (P := P) (w := w) (base := base) T
  exact mk_read_document T fun fd F => def0 F sc_read_document (fun vs H Q E h => by
    obtain ⟨nm, cs, b, rfl, _⟩ := h
    rfl) fun cdv A outer s H vs Q E hr h => by
    obtain ⟨nm, cs, b, rfl, hok, k⟩ := h
    refine ⟨_, (pss_cons (ps_if (pt_cmpR op_gt (pe_callB call_len_str (by rfl) T.n_len PySem.boot_len (pa_cons (pv 0) pa_nil)) (pe_glob (v := .int 200000) rfl T.c_MOST_CHARACTERS.choose_spec ⟨_, rfl⟩) (nomark _)) (pss_one ps_never) pss_nil)
  (pss_cons (ps_set (i := 1) sc_read_document.nd rfl (Or.inl rfl) (pe_make T.m_Reading G_Reading_init (hr.mono (by first | decide | omega)) rfl T.g_Reading b_Reading_init v_Reading_init pass0 (pa_cons (pv 0) pa_nil)))
  (pss_cons (ps_expr (pe_meth0 (pv 1) T.cl_Reading T.me_Reading_read_root G_Reading_read_root (hr.mono (by first | decide | omega)) b_Reading_read_root v_Reading_read_root pass0))
  (pss_cons (ps_while PassesOwn.never (pt_cmpR op_gt (pe_callB (cLen K rfl) (by rfl) T.n_len PySem.boot_len (pa_cons (eFld K rfl (pv 1) rfl) pa_nil)) pe_int (nomark _))
  (pss_one (ps_expr (pe_meth0 (pv 1) T.cl_Reading T.me_Reading_read_part G_Reading_read_part (hr.mono (by first | decide | omega)) b_Reading_read_part v_Reading_read_part pass0))))
  (pss_cons (ps_if (pt_cmpR op_lt (eFld K rfl (pv 1) rfl) (pe_callB call_len_str (by rfl) T.n_len PySem.boot_len (pa_cons (pv 0) pa_nil)) (nomark _)) (pss_one (ps_expr (pe_call G__refuse (hr.mono (by first | decide | omega)) rfl T.g__refuse T.k__refuse b__refuse v__refuse pass0 (pa_cons (pv 0) (pa_cons (eFld K rfl (pv 1) rfl) (pa_cons pe_str pa_nil)))))) pss_nil)
  (pss_one (ps_ret (pe_ix (ixL K rfl) (pe_ix (ixT K rfl) (pe_ix (ixL K rfl) (eFld K rfl (pv 1) rfl) pe_int (fun _ _ => rfl)) pe_int (fun _ _ => rfl)) pe_int (fun _ _ => rfl))))))))), ?_⟩
    have hz0 : (wr b (.el nm cs)).length ≤ 10000 := Nat.le_trans (wr_len b hok) (bnd_le (Nat.le_refl _))
    have hzc : (sL (wr b (.el nm cs))).cps.size = (wr b (.el nm cs)).length := sL_len _
    have hz : (sL (wr b (.el nm cs))).cps.size ≤ 100000 := by omega
    have hzl : (sL (wr b (.el nm cs))).length = (sL (wr b (.el nm cs))).cps.size := rfl
    have hrem : remS (sL (wr b (.el nm cs))) 0 (wr b (.el nm cs)) := ⟨Nat.zero_le _, rfl⟩
    generalize sL (wr b (.el nm cs)) = z at hz hzc hzl hrem ⊢
    refine st_seq (st_no (ans_v (val_is (w := .bl false) (val_I (val_cb (va_one (val_var rfl)) fun Q q => ⟨z, rfl, sz_of hz, q⟩) val_c) (by rw [decide_eq_false (by omega)]))) ?_)
    dsimp only [tNext]
    refine st_seq (go_asg ⟨_, rfl, fun o dx ho hdx hne => ⟨o, dx, z, rfl, upd_same, fun G st t l hst ht hl nst nsl ntl R gst gt gl e => ⟨rfl, ?_⟩⟩⟩)
    dsimp only [gName]
    have hH : ∀ {a : Addr}, upd (upd H dx (.own o)) o (.ins (He.ga K "Reading") dx []) a = none → H a = none ∧ a ≠ o := fun {a} h => by
      have n1 : a ≠ o := fun q => by rw [q, upd_same] at h; cases h
      rw [upd_ne n1] at h
      have n2 : a ≠ dx := fun q => by rw [q, upd_same] at h; cases h
      rw [upd_ne n2] at h
      exact ⟨h, n1⟩
    have hEx : Ex H G := fun a u ha => e.at (by rw [upd_ne (ne_of_none ha ho), upd_ne (ne_of_none ha hdx)]; exact ha) (by simpa using ne_of_none ha ho)
    have hr0 : remF b [⟨t, l, "", [], [], [Tr.el nm cs]⟩] = wr b (.el nm cs) := by
      show wrs b [Tr.el nm cs] = _
      rw [wrs, wrs, List.append_nil]
    have hndp : (o :: st :: [l]).Nodup := by
      simp only [List.nodup_cons, List.mem_cons, List.not_mem_nil, or_false, not_or, not_false_eq_true, List.nodup_nil, and_true]
      exact ⟨⟨(hH hst).2.symm, (hH hl).2.symm⟩, nsl⟩
    have hn0 : 0 + (nods [Tr.el nm cs] + 0) ≤ 400 := by
      have := nod_le hok
      have h2 : nb 5 = 364 := by decide
      rw [nods, nods]
      omega
    have I : InvR K H b (.el nm cs) z o st 0 0 [⟨t, l, "", [], [], [.el nm cs]⟩] G := ⟨R, by rw [hr0]; exact hrem, gst, hndp, ⟨⟨gt, gl, fun _ _ => .nil, by show 0 + 1 + 0 ≤ 3; decide, trivial, fun c hc => by rw [List.mem_singleton.mp hc]; exact hok, fun q => absurd rfl q, (hH hl).1⟩, trivial⟩, rfl, hn0, hEx, ho, (hH hst).1, by show 1 ≤ 6; decide⟩
    have fl : ∀ {G : Hp} {i n : Nat}, RdO K G o z i n st → Val (tFld K (tVar 1) "reached") [some (.str z), some (.ref o)] G (.int (i : Int)) ∧ Val (tFld K (tVar 1) "stack") [some (.str z), some (.ref o)] G (.ref st) := fun {G i n} h => by
      obtain ⟨dx, h⟩ := h
      exact ⟨fun Q q => ⟨_, rfl, o, _, dx, _, _, rfl, h, T.cl_Reading, T.na_Reading_reached, fl_Reading_reached .., q⟩, fun Q q => ⟨_, rfl, o, _, dx, _, _, rfl, h, T.cl_Reading, T.na_Reading_stack, fl_Reading_stack .., q⟩⟩
    obtain ⟨dx1, hR1⟩ := id R
    refine st_seq ⟨_, rfl, o, dx1, _, rfl, hR1, fn_Reading_read_root .., ?_⟩
    dsimp only [tNil, List.nil_append]
    refine I.begin (rest := []) rfl hz fun i1 n1 F1 G1 I1 _ hF1 hl1 => ?_
    refine st_seq ⟨fun m σ G => ∃ (i n : Nat) (F : List Fr), σ = [some (.str z), some (.ref o)] ∧ m = z.cps.size - i ∧ InvR K H b (.el nm cs) z o st i n F G ∧ F ≠ [] ∧ lastRest F = [], ⟨_, i1, n1, F1, rfl, rfl, I1, hF1, hl1⟩, ?_⟩
    rintro m σ G ⟨i, n, F, rfl, rfl, I, hF, hl⟩
    have hS := SqL.of (K := K) I.stk
    refine ans_v (val_I (val_lenL (fl I.rd).2 hS) val_c) _ ?_
    rw [List.length_reverse, List.length_map]
    match F, hF, hl, I with
    | f :: g :: r, _, hl, I =>
      rw [decide_eq_true (by rw [List.length_cons, List.length_cons]; omega)]
      have hi : i < z.cps.size := by
        have := I.rem.len
        have h2 : 1 ≤ (remF b (f :: g :: r)).length := by
          show 1 ≤ (wrs b f.rest ++ 60 :: _).length
          rw [List.length_append, List.length_cons]
          omega
        omega
      refine iteT ⟨fun σ' G' => ∃ m', m' < z.cps.size - i ∧ ∃ (i n : Nat) (F : List Fr), σ' = [some (.str z), some (.ref o)] ∧ m' = z.cps.size - i ∧ InvR K H b (.el nm cs) z o st i n F G' ∧ F ≠ [] ∧ lastRest F = [], fun _ _ h => h, ?_⟩
      obtain ⟨dx2, hR2⟩ := id I.rd
      refine ⟨_, rfl, o, dx2, _, rfl, hR2, fn_Reading_read_part .., ?_⟩
      dsimp only [tNil, List.nil_append]
      refine I.part hz fun i' n' F' G' I' hi' hF' hl' => ⟨_, ?_, i', n', F', rfl, rfl, I', hF', hl'.trans hl⟩
      omega
    | [f], _, hl, I =>
      rw [decide_eq_false (by rw [List.length_singleton]; omega)]
      refine iteF ?_
      have hfr : f.rest = [] := hl
      have hlen := I.rem.len
      have hr0 : remF b [f] = [] := by
        show wrs b f.rest = []
        rw [hfr, wrs]
      rw [hr0, List.length_nil] at hlen
      refine st_seq (st_no (ans_v (val_is (w := .bl false) (val_I (fl I.rd).1 (val_cb (va_one (val_var rfl)) fun Q q => ⟨z, rfl, sz_of hz, q⟩)) (by rw [decide_eq_false (by omega)]))) ?_)
      obtain ⟨h1, _⟩ := I.fr
      have hfin : f.ds ++ [] ++ f.rest = [.el nm cs] := I.fin
      rw [hfr, List.append_nil, List.append_nil] at hfin
      have hD := h1.c G Kp.refl
      rw [hfin] at hD
      obtain ⟨v, hv1, hv2⟩ : ∃ v, f.vs = [v] ∧ Dp K G v (Tr.el nm cs).d := by
        generalize f.vs = ws at hD
        cases hD with
        | cons a b =>
          cases b
          exact ⟨_, rfl, a⟩
      have hl1 := h1.l
      rw [hv1] at hl1
      have hst1 : G st = some (.lst [.ref f.t]) := I.stk
      exact st_ret (val_ixL (val_ixT (val_ixL (fl I.rd).2 val_c (SqL.of hst1) at_cons) val_c (SqT.of h1.t) at_one) val_c (SqL.of hl1) at_cons) (k v G I.ex hv2)
end
/-! ### the law -/
def spLaw (K : PySem.W.Frag) : Sp := fun vs H Q _ => ∃ (a : Addr) (ns : List Int), vs = [.ref a] ∧ SqL K H a (ns.map V.int) ∧ ns.length ≤ 63 ∧ ∀ H', Q (.bl true) H'
theorem law_start {K : PySem.W.Frag} {H : Hp} {a : Addr} {ns : List Int} (hl : ns.length ≤ 63) (_ : ∀ z ∈ ns, Builtin.Int.intBits z ≤ 1048576) (_ : Only H) (hS : SqL K H a (ns.map V.int)) : spLaw K [.ref a] H (fun v _ => v = .bl true) fun _ _ _ => False := ⟨a, ns, rfl, hS, hl, fun _ => rfl⟩
theorem fit_ok : ∀ {k : Nat} {t : Tr}, okTr k t → fitT k t
  | k, .txt z, h => by
    have h' : okText 5 z := by cases k <;> exact h
    have := h'.2.1
    cases k <;> (show z.cps.size ≤ 1000; omega)
  | 0, .el _ _, h => h.elim
  | k + 1, .el n cs, h => ⟨name_len h.1, fun c hc => fit_ok (h.2.2.2 c hc)⟩
mutual
theorem cost_nod : ∀ t : Tr, cost t ≤ 3 * nod t
  | .txt _ => by rw [cost, nod]; decide
  | .el _ cs => by
    have := costs_nod cs
    rw [cost, nod]
    omega
theorem costs_nod : ∀ cs : List Tr, costs cs ≤ 3 * nods cs
  | [] => by rw [costs, nods]; exact Nat.le_refl _
  | c :: cs => by
    have h1 := cost_nod c
    have h2 := costs_nod cs
    rw [costs, nods]
    omega
end
mutual
theorem len_nod : ∀ t : Tr, lenD t.d + 1 ≤ 3 * nod t
  | .txt _ => by rw [nod, Tr.d, lenD]; decide
  | .el _ cs => by
    have := lens_nod cs
    rw [nod, Tr.d, lenD, lenAll, lenAll, lenAll, lenD, lenD]
    omega
theorem lens_nod : ∀ cs : List Tr, lenAll (Tr.ds cs) ≤ 3 * nods cs
  | [] => by rw [nods, Tr.ds, lenAll]; exact Nat.le_refl _
  | c :: cs => by
    have h1 := len_nod c
    have h2 := lens_nod cs
    rw [nods, Tr.ds, lenAll]
    omega
end
theorem depthAll_le {m : Nat} : ∀ {cs : List Tr}, (∀ c ∈ cs, c.d.depth ≤ m) → PyData.depthAll (Tr.ds cs) ≤ m
  | [], _ => by rw [Tr.ds, PyData.depthAll]; exact Nat.zero_le _
  | c :: cs, h => by
    have h1 := h c (List.mem_cons_self ..)
    have h2 := depthAll_le (cs := cs) fun y hy => h y (List.mem_cons_of_mem _ hy)
    rw [Tr.ds, PyData.depthAll]
    exact Nat.max_le.mpr ⟨h1, h2⟩
theorem depth_ok : ∀ {k : Nat} {t : Tr}, okTr k t → t.d.depth ≤ 2 * k
  | k, .txt z, h => by rw [Tr.d, PyData.depth]; exact Nat.zero_le _
  | 0, .el _ _, h => h.elim
  | k + 1, .el n cs, h => by
    have h5 := depthAll_le (cs := cs) (m := 2 * k) fun c hc => depth_ok (h.2.2.2 c hc)
    rw [Tr.d, PyData.depth, PyData.depthAll, PyData.depthAll, PyData.depthAll, PyData.depth, PyData.depth]
    simp only [Nat.zero_max, Nat.max_zero]
    omega
/-- a reading that gives data -/
def EvE (K : PySem.W.Frag) (te : TE) (σ : L2.St) (H : Hp) (d : PyData) : Prop := ∀ H1, Ex H H1 → ∀ Q : VK, (∀ v H2, Ex H1 H2 → Dp K H2 v d → Q v H2) → te σ H1 Q
section
variable {K : PySem.W.Frag} {σ : L2.St} {H : Hp} {ta tb te tf : TE} {v : V} {d : PyData}
theorem ee_val (h : Ev te σ H v) (hd : Dp K H v d) : EvE K te σ H d := fun H1 e _ q => h H1 e _ fun H2 e2 => q v H2 e2 (dp_ex (e.trans e2) hd)
theorem ee_call {sp : Sp} {dvs vs : List V} {E : XK} {ta : TA} (h : EvA ta σ H vs) (hs : ∀ H1, Ex H H1 → ∀ Q : VK, (∀ v H2, Ex H1 H2 → Dp K H2 v d → Q v H2) → sp (vs ++ dvs) H1 Q E) : EvE K (tCall sp dvs E ta) σ H d := fun H1 e Q q =>
  h H1 e _ fun H2 e2 => hs H2 (e.trans e2) Q fun v H3 e3 dv => q v H3 (e2.trans e3) dv
theorem sameE {n : Nat} (h1 : EvE K te σ H d) (h2 : EvE K tf σ H d) (hd : d.depth < n) (hz : lenD d < 2 ^ 62) : Ev (tCall (spSame K n) [] E0 (tCons te (tCons tf tNil))) σ H (.bl true) :=
  fun H1 e _ q => h1 H1 e _ fun v H2 e2 dv => h2 H2 (e.trans e2) _ fun u H3 e3 du => ⟨v, u, d, rfl, dp_ex e3 dv, du, hd, hz, q _ (e2.trans e3)⟩
end
section
variable {P : Program} {w : World} {K : PySem.W.Frag} {mg : Str → Option Value} {base : Heap}
theorem ok_law (T : TX K mg) (fd : FuncData) (F : FunD K "law" "law" (defArgs s_law) (defBody s_law) (defScope s_law) [] [] (He.fAd K at_law) fd) : FnOk P w K mg base CX0 14 (He.fAd K at_law) fd ps_law (spLaw K) := by
  obtain ⟨fd__law_draws, G__law_draws, ds__law_draws, v__law_draws, b__law_draws⟩ := ok__law_draws (P := P) (w := w) (base := base) T
  obtain ⟨fd__law_names, G__law_names, ds__law_names, v__law_names, b__law_names⟩ := ok__law_names (P := P) (w := w) (base := base) T
  obtain ⟨fd_write_document, G_write_document, ds_write_document, v_write_document, b_write_document⟩ := ok_write_document (P := P) (w := w) (base := base) T
  obtain ⟨fd_read_document, G_read_document, ds_read_document, v_read_document, b_read_document⟩ := ok_read_document (P := P) (w := w) (base := base) T
  obtain ⟨fd__law_string, G__law_string, ds__law_string, v__law_string, b__law_string⟩ := ok__law_string (P := P) (w := w) (base := base) T
  obtain ⟨fd__law_escaped, G__law_escaped, ds__law_escaped, v__law_escaped, b__law_escaped⟩ := ok__law_escaped (P := P) (w := w) (base := base) T
  obtain ⟨fd_t, G__law_tree, ds_t, v__law_tree, b__law_tree⟩ := ok__law_tree (P := P) (w := w) (base := base) T 5
  obtain ⟨fd_w, G__law_written, ds_w, v__law_written, b__law_written⟩ := ok__law_written (P := P) (w := w) (base := base) T 6
  obtain ⟨fd_s, G__law_same, ds_s, v__law_same, b__law_same⟩ := ok_same (P := P) (w := w) (base := base) T 11
  refine def0 F sc_law (fun vs H Q E h => by
    obtain ⟨a, ns, rfl, _⟩ := h
    rfl) fun cdv A outer s H vs Q E hr h => ?_
  obtain ⟨a, ns, rfl, hS, hl, k⟩ := h
  refine ⟨_, (pss_cons (ps_set (i := 1) sc_law.nd rfl (Or.inl rfl) (pe_call G__law_draws (hr.mono (by first | decide | omega)) rfl T.g__law_draws T.k__law_draws b__law_draws v__law_draws pass0 (pa_cons (pv 0) pa_nil)))
  (pss_cons (ps_set (i := 2) sc_law.nd rfl (Or.inl rfl) (pe_call G__law_tree (hr.mono (by first | decide | omega)) rfl T.g__law_tree T.k__law_tree b__law_tree v__law_tree pass0 (pa_cons (pv 1) (pa_cons pe_int (pa_cons (pe_call G__law_names (hr.mono (by first | decide | omega)) rfl T.g__law_names T.k__law_names b__law_names v__law_names pass0 (pa_cons (pv 1) pa_nil)) pa_nil)))))
  (pss_cons (ps_set (i := 3) sc_law.nd rfl (Or.inl rfl) (pe_call G__law_written (hr.mono (by first | decide | omega)) rfl T.g__law_written T.k__law_written b__law_written v__law_written pass0 (pa_cons (pv 2) (pa_cons pe_bl pa_nil))))
  (pss_cons (ps_if (PW.pt (pw_or (pt_not (pt_val (pe_call G__law_same (hr.mono (by first | decide | omega)) rfl T.g__law_same T.k__law_same b__law_same v__law_same pass0 (pa_cons (pe_call G_write_document (hr.mono (by first | decide | omega)) rfl T.g_write_document T.k_write_document b_write_document v_write_document pass0 (pa_cons (pv 2) pa_nil)) (pa_cons (pv 3) pa_nil))))) (pw_or1 (pt_not (pt_val (pe_call G__law_same (hr.mono (by first | decide | omega)) rfl T.g__law_same T.k__law_same b__law_same v__law_same pass0 (pa_cons (pe_call G_read_document (hr.mono (by first | decide | omega)) rfl T.g_read_document T.k_read_document b_read_document v_read_document pass0 (pa_cons (pv 3) pa_nil)) (pa_cons (pv 2) pa_nil)))))))) (pss_one (ps_ret pe_bl)) pss_nil)
  (pss_cons (ps_if (pt_not (pt_val (pe_call G__law_same (hr.mono (by first | decide | omega)) rfl T.g__law_same T.k__law_same b__law_same v__law_same pass0 (pa_cons (pe_call G_read_document (hr.mono (by first | decide | omega)) rfl T.g_read_document T.k_read_document b_read_document v_read_document pass0 (pa_cons (pe_call G__law_written (hr.mono (by first | decide | omega)) rfl T.g__law_written T.k__law_written b__law_written v__law_written pass0 (pa_cons (pv 2) (pa_cons pe_bl pa_nil))) pa_nil)) (pa_cons (pv 2) pa_nil))))) (pss_one (ps_ret pe_bl)) pss_nil)
  (pss_cons (ps_set (i := 4) sc_law.nd rfl (Or.inl rfl) (pe_call G__law_string (hr.mono (by first | decide | omega)) rfl T.g__law_string T.k__law_string b__law_string v__law_string pass0 (pa_cons (pv 1) (pa_cons pe_int pa_nil))))
  (pss_one (ps_ret (pe_call G__law_same (hr.mono (by first | decide | omega)) rfl T.g__law_same T.k__law_same b__law_same v__law_same pass0 (pa_cons (pe_call G_write_document (hr.mono (by first | decide | omega)) rfl T.g_write_document T.k_write_document b_write_document v_write_document pass0 (pa_cons (pv 4) pa_nil)) (pa_cons (pe_call G__law_escaped (hr.mono (by first | decide | omega)) rfl T.g__law_escaped T.k__law_escaped b__law_escaped v__law_escaped pass0 (pa_cons (pv 4) pa_nil)) pa_nil))))))))))), ?_⟩
  refine st_seq (go_asg ⟨_, rfl, a, ns, rfl, hS, hl, fun d H1 hd D1 e1 => ?_⟩)
  dsimp only [gName]
  refine st_seq (go_asg ⟨_, rfl, _, rfl, d, rfl, D1, fun p names H2 hp hn0 hn4 hns D2 e2 hpl => ⟨d, p, 4, names, rfl, by decide, D2, D1.ne hp, hpl, hn0, hn4, hns, fun v nm cs H3 hok D3 e3 N => ?_⟩⟩)
  dsimp only [gName]
  have hdp : Dp K H3 v (Tr.el nm cs).d := N H3 fun _ _ _ h => h
  have hnod : nod (.el nm cs) ≤ 364 := Nat.le_trans (nod_le hok) (by decide)
  have hcost := cost_nod (.el nm cs)
  have hlen := len_nod (.el nm cs)
  have hwr : ∀ b, (wr b (.el nm cs)).length ≤ 10000 := fun b => Nat.le_trans (wr_len b hok) (bnd_le (Nat.le_refl _))
  have hdep : (Tr.el nm cs).d.depth < 11 := Nat.lt_of_le_of_lt (depth_ok hok) (by decide)
  have hlD : lenD (Tr.el nm cs).d < 2 ^ 62 := by omega
  have evW : ∀ {σ : L2.St} {G : Hp} (b : Bool), Ex H3 G → σ[2]? = some (some v) → Ev (tCall (spWritten K 6) [] E0 (tCons (tVar 2) (tCons (tC (.bl b)) tNil))) σ G (.str (sL (wr b (.el nm cs)))) := fun {σ G} b e h =>
    ev_call (ea_cons (ev_var h) (ea_cons ev_c ea_nil)) fun Ha ea Q q E => ⟨v, b, .el nm cs, 5, rfl, by decide, by decide, hok, dp_ex (e.trans ea) hdp, fun H' e' => q H' e'⟩
  have eeR : ∀ {σ : L2.St} {G : Hp} {te : TE} (b : Bool), Ev te σ G (.str (sL (wr b (.el nm cs)))) → EvE K (tCall (spRead K) [] E0 (tCons te tNil)) σ G (Tr.el nm cs).d := fun {σ G te} b h =>
    ee_call (ea_cons h ea_nil) fun Ha ea Q q => ⟨nm, cs, b, rfl, hok, fun v' H' e' hv' => q v' H' e' hv'⟩
  refine q_asg (evW false (Ex.refl _) rfl) fun H4 e4 => ?_
  refine q_when (b := false) (et_or (a := false) (et_not (a := true) (et_B (sameE (d := .str (sL (wr false (.el nm cs)))) (ee_val (ev_call (ea_cons (ev_var rfl) ea_nil) fun Ha ea Q q E => ⟨v, .el nm cs, 5, rfl, dp_ex (e4.trans ea) hdp, fit_ok hok, by omega, by have := hwr false; omega, fun H' e' => q H' e'⟩) (.str _)) (ee_val (ev_var rfl) (.str _)) (by show 0 < 11; decide) (by show 0 < 2 ^ 62; decide)))) fun _ =>
    et_not (a := true) (et_B (sameE (eeR false (ev_var rfl)) (ee_val (ev_var rfl) (dp_ex e4 hdp)) hdep hlD))) (fun z => by cases z) fun _ H5 e5 => ?_
  refine q_when (b := false) (et_not (a := true) (et_B (sameE (eeR true (evW true (e4.trans e5) rfl)) (ee_val (ev_var rfl) (dp_ex (e4.trans e5) hdp)) hdep hlD))) (fun z => by cases z) fun _ H6 e6 => ?_
  refine st_seq (go_asg ⟨_, rfl, d, 30, rfl, by decide, by decide, D3.keep ((e4.trans e5).trans e6), fun z H7 hz D7 e7 => ?_⟩)
  dsimp only [gName]
  have hz30 := hz.2.1
  have hzl : z.cps.toList.length = z.cps.size := Array.length_toList
  have hesc := escL_len z.cps.toList
  have hwz : wr false (.txt z) = escL z.cps.toList := by rw [wr]
  refine s_ret (v := .bl true) (sameE (d := .str (esc z)) (ee_val (ev_call (ea_cons (ev_var rfl) ea_nil) fun Ha ea Q q E => ⟨.str z, .txt z, 0, rfl, .str _, by show z.cps.size ≤ 1000; omega, by rw [cost]; decide, by rw [hwz]; omega, fun H' e' => by rw [hwz]; exact q H' e'⟩) (.str _)) (ee_val (ev_call (ea_cons (ev_var rfl) ea_nil) fun Ha ea Q q E => ⟨z, rfl, by omega, fun H' e' => q H' e'⟩) (.str _)) (by show 0 < 11; decide) (by show 0 < 2 ^ 62; decide)) fun G _ => k G
end

/-! ### the head and the end -/
abbrev R : PySem.W.OpenRow := PySem.W.OpenLaw.row PySem.Challenge.rw_topiary_k18_documents_written_and_read
abbrev hk : PySem.W.Hook := hook 5 fa fn fx
def obs (s : PySem.W.SharedT) : Seen := lookAt 5 fa fn fx (HandSHeadRun.getT s)
theorem obs_eq (s : PySem.W.SharedT) : obs s = hk.obs s.abs := look_eq (HandSHeadRun.getT_eq s)
def names : List Str := ["TopiaryError", "TextError", "TooLarge", "is_sign", "is_letter", "_refuse", "Reading", "read_document", "_written", "write_document", "_law_draws", "_law_take", "_law_same", "_law_string", "_law_tree", "_law_names", "_law_escaped", "_law_written", "NAME_LETTERS", "TEXT_CHARACTERS", "MOST_NODES", "MOST_DEPTH", "MOST_CHARACTERS", "WRITTEN_SIGNS"]
theorem run (w : World) : HandSHeadRun.RunEq R (PySem.W.view R.prog [29]) hk obs 3000 names w := by
  intro os
  kernel_rfl
theorem facts {w : World} {K : PySem.W.Frag} {h : Heap} {mg : Str → Option Value} {f : Addr} (X : K.In h) (G : h.Ns mainGlobals mg) (hfa : mg ("law" : Str) = some (.ref f)) (c : seen fa fn fx K = told fn) :
    ∃ fd : FuncData, (∀ (s : Shared) (v : Value), BindsTo s fd ⟨[v], []⟩ [("script", v)]) ∧ ∀ base : Heap, K.In base → base.Ns mainGlobals mg → FnOk (PySem.Challenge.rw_topiary_k18_documents_written_and_read).prog w K mg base (L2.CX0) 14 f fd ["script"] (spLaw K) := by
  have T : TX K mg := txt_of X G c
  obtain ⟨fd, F⟩ := T.d 27 _ rfl
  have e := hfa.symm.trans T.g_law
  cases e
  exact ⟨fd, fun s v => FunD.bindsA (ps := ["script"]) F (fun _ _ _ _ _ _ us hl => match us, hl with | [_], _ => rfl) s [v] rfl, fun base _ _ => ok_law T fd F⟩
end Tp
open PySem PySem.W PySem.Calls PyProof.Rows
set_option maxRecDepth 100000 in
set_option maxHeartbeats 0 in
theorem PySem.Challenge.cw_topiary_k18_documents_written_and_read_holds : PySem.Challenge.rw_topiary_k18_documents_written_and_read.Holds := by
  w_on; o_law
  refine HandSHeadRun.head_any (r := OpenLaw.row PySem.Challenge.rw_topiary_k18_documents_written_and_read) (q := view (OpenLaw.row PySem.Challenge.rw_topiary_k18_documents_written_and_read).prog [29]) (H := Tp.hk) (ob := Tp.obs) (M := 3000) (loose := Tp.names) (d := HandSHeadRun.topDef (OpenLaw.row PySem.Challenge.rw_topiary_k18_documents_written_and_read).prog 29) (kwd := []) Tp.obs_eq
    (by kernel_rfl) (fun s => by kernel_rfl) Tp.run (by kernel_rfl) (by kernel_rfl) (by kernel_rfl) (by rfl) (by first | assumption | decide +kernel) (by decide +kernel) ⟨rfl, rfl, rfl, rfl, rfl, by decide +kernel⟩ ?hw ?hc
  case hw => w_witness2
  case hc =>
    refine Tp.ends (l := PySem.Challenge.rw_topiary_k18_documents_written_and_read) (n := 63) (k := 14) (x := "script") (CX := fun _ => L2.CX0) rfl (by decide) (by kernel_rfl) ⟨rfl, by decide, by decide⟩ ?F (fun _ _ _ _ _ z => z)
    intro w mg fa h Y G hmg0
    obtain ⟨K, KX, c⟩ := Y
    have hmg : mg ("law" : PySem.Str) = some (.ref fa) := by
      have e : (HandSHeadRun.topDef (OpenLaw.row PySem.Challenge.rw_topiary_k18_documents_written_and_read).prog 29).name = ("law" : PySem.Str) := by kernel_rfl
      rw [← e]
      exact hmg0
    obtain ⟨fd, hb, hF⟩ := Tp.facts (w := w) KX G hmg c
    exact ⟨K, fd, Tp.spLaw K, KX, hb, fun H a ns hl hz hO hS => Tp.law_start hl hz hO hS, hF⟩
