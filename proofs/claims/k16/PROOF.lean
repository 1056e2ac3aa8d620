import PyProof.Rows.All
import Wide.All
import OpenK.AllK
import Wide.FinOn
import KE.KStateDown
import HandS.ForMost
import HandS.Exc
import HandS.WordsExc
import HandS.ExcInit
import HandS.ExcField
import KE.KExcIs
import HandS.ExcIs
import HandS.Star
import HandS.DictComp
import HandS.Wide
import HandS.IsInst
import HandS.EndBits
import HandS.Evl
import HandS.Defaults
import HandS.Zip
import HandS.Steps
import HandS.Walk
import HandS.SortInts
import HandS.More
import HandS.SetKeys
import HandS.Head0
import HandS.Head1
import HandS.Head2
import HandS.HeadEnd
import HandS.HeadHook1
import HandS.HeadHook2
import HandS.HeadHook3
import HandS.HeadHook4
import HandS.HeadWalk
import PyProof.ConsumeS
import PyProof.GenQ
import HandS.AnyAll
import HandS.Text
import HandS.StrMore
import HandS.Codes
import HandS.Rev
import HandS.RevTup
import PyProof.ListNew
import HandS.ReplaceList
import HandS.ReplaceLit
import HandS.ReplaceDef
import PyProof.StrLawsIn
import PySem.Challenge.RW_topiary_k16_documents_recognized
set_option Elab.async false
set_option linter.all false
set_option maxRecDepth 100000
set_option maxHeartbeats 4000000
/-! Words of my own over the hand layer: what the head tells (facts, defs, own exceptions), ends, heaps that change at few places. -/
namespace Tp
open PySem PySem.Spec PyProof.Rows L2

/-! ### own exceptions as the head tells them -/
def excShape (C : Addr) : Obj → Bool
  | ⟨.type t, _, .cls cd, sl⟩ => decide (t = "type") && (cd.hasDict && (!cd.hasDel && (match cd.mro, sl.toList with
    | .ref C' :: bm, [_, _, _, _, some (.builtin n), _] => decide (C' = C) && (decide (n = "ValueError.__new__") && PySem.HandSPX.refsVE bm)
    | _, _ => false)))
  | _ => false
theorem two {a b : Bool} (h : (a && b) = true) : a = true ∧ b = true := Bool.and_eq_true_iff.mp h
theorem excShape_ok {C : Addr} {o : Obj} (h : excShape C o = true) : ∃ nm q N bs bm sn sub ab col dd k0 k1 k2 k3 k5, o = excClassObj nm q C N bs bm true sn sub ab col dd k0 k1 k2 k3 k5 "ValueError.__new__" ∧ PySem.HandSPX.refsVE bm = true := by
  obtain ⟨oc, od, dt, sl⟩ := o
  cases oc with
  | type t =>
    cases dt with
    | cls cd =>
      obtain ⟨h1, h⟩ := two h
      obtain ⟨h2, h⟩ := two h
      obtain ⟨h3, h⟩ := two h
      obtain ⟨nm, bs, mro, ns, qn, hd, sn, sb, ab, col, del⟩ := cd
      obtain ⟨sl⟩ := sl
      have e1 : t = "type" := of_decide_eq_true h1
      subst e1
      cases del with
      | true => cases h3
      | false =>
        have e2 : hd = true := h2
        subst e2
        match mro, sl, h with
        | .ref C' :: bm, [k0, k1, k2, k3, some (.builtin n), k5], h =>
          obtain ⟨h4, h⟩ := two h
          obtain ⟨h5, h6⟩ := two h
          have e3 : C' = C := of_decide_eq_true h4
          have e4 : n = "ValueError.__new__" := of_decide_eq_true h5
          subst e3 e4
          exact ⟨nm, qn, ns, bs, bm, sn, sb, ab, col, od, k0, k1, k2, k3, k5, rfl, h6⟩
    | _ => cases h
  | _ => cases dt <;> cases h
/-- the class x of the module: an own exception -/
def excB (K : PySem.W.Frag) (x : Str) : Bool := (match K.lookup (He.ga K x) with
  | some o => excShape (He.ga K x) o
  | none => false) && (decide (PySem.W.findIn K (.ref (He.ga K x)) "__setattr__" = some (some (.builtin "object.__setattr__"))) && (decide (PySem.W.subIn K (.ref (He.ga K x)) (.type "BaseException") = some true) &&
  (decide (PySem.W.typeIn K (.ref (He.ga K x)) = some (.type "type")) && PySem.W.keepIn K (.ref (He.ga K x)))))
theorem excB_ok {K : PySem.W.Frag} {x : Str} (h : excB K x = true) : OexC K (He.ga K x) := by
  obtain ⟨h1, h⟩ := two h
  obtain ⟨h2, h⟩ := two h
  obtain ⟨h3, h⟩ := two h
  obtain ⟨h4, h5⟩ := two h
  refine ⟨?_, of_decide_eq_true h2, of_decide_eq_true h3, of_decide_eq_true h4, h5⟩
  cases q : K.lookup (He.ga K x) with
  | none =>
    rw [q] at h1
    cases h1
  | some o =>
    rw [q] at h1
    obtain ⟨nm, qn, N, bs, bm, sn, sub, ab, col, dd, k0, k1, k2, k3, k5, e, r⟩ := excShape_ok h1
    exact ⟨nm, qn, N, bs, bm, sn, sub, ab, col, dd, k0, k1, k2, k3, k5, by rw [e], r⟩
/-- its own __init__ -/
def iniB (K : PySem.W.Frag) (x : Str) : Bool := decide (PySem.W.findIn K (.ref (He.ga K x)) "__init__" = some (some (.ref (He.ma K (He.ga K x) "__init__")))) && decide (PySem.W.typeIn K (.ref (He.ma K (He.ga K x) "__init__")) = some (.type "function"))
theorem iniB_ok {K : PySem.W.Frag} {x : Str} (h : iniB K x = true) : PySem.W.findIn K (.ref (He.ga K x)) "__init__" = some (some (.ref (He.ma K (He.ga K x) "__init__"))) ∧ PySem.W.typeIn K (.ref (He.ma K (He.ga K x) "__init__")) = some (.type "function") := by
  obtain ⟨h1, h2⟩ := two h
  exact ⟨of_decide_eq_true h1, of_decide_eq_true h2⟩
/-- what isinstance of a caught own error asks of its class -/
def excCB (K : PySem.W.Frag) (D : Addr) : Bool := decide (PySem.W.findIn K (.ref D) "__getattribute__" = some (some (.builtin "BaseException.__getattribute__"))) && (decide (PySem.W.findIn K (.ref D) "__getattr__" = some none) && (decide (PySem.W.subIn K (.ref D) (.type "BaseException") = some true) && (PySem.W.hasDictIn K D &&
  (decide (PySem.W.findIn K (.ref D) "__class__" = some (some (.builtin "object.__class__"))) && (decide (PySem.W.specialIn K (.builtin "object.__class__") "__get__" = some (some (.builtin "getset_descriptor.__get__"))) && (decide (PySem.W.takesIn K (.builtin "object.__class__") = some true) && decide (PySem.W.mroIn K D (.type "object") = some true)))))))
theorem excCB_ok {K : PySem.W.Frag} {D : Addr} (h : excCB K D = true) : ExcC K D := by
  obtain ⟨h1, h⟩ := two h
  obtain ⟨h2, h⟩ := two h
  obtain ⟨h3, h⟩ := two h
  obtain ⟨h4, h⟩ := two h
  obtain ⟨h5, h⟩ := two h
  obtain ⟨h6, h⟩ := two h
  obtain ⟨h7, h8⟩ := two h
  exact ⟨of_decide_eq_true h1, of_decide_eq_true h2, of_decide_eq_true h3, h4, of_decide_eq_true h5, of_decide_eq_true h6, of_decide_eq_true h7, of_decide_eq_true h8⟩
/-- isinstance(e, t), e the caught error of the own class C with its dict -/
def rIsX (a : Addr) (cls : Value) (d : Option Addr) (C : Addr) (t : String) (b : Bool) : List V → Hp → VK → Prop := fun xs H Q => xs = [.ref a, .ty t] ∧ cls = .ref C ∧ (∃ (dd : Addr) (fs : List (Str × V)), d = some dd ∧ H dd = some (.xd fs)) ∧ Q (.bl b) H
theorem call_isX {X : Cx} {a C : Addr} {oe : Obj} {cls : Value} {d : Option Addr} {pn : List (Addr × Obj)} {t : String} {b : Bool} (T : ExcC X.K C) (e : PySem.W.kitOne X.K (.ref C) (.type t) = some b) (hz : Zc cls d oe) (hf : ∃ vs, oe.data = .fields vs) : CallR (X.suite a ((a, oe) :: pn)) (.builtin "isinstance") (rIsX a cls d C t b) := by
  intro pins s σ H xs us Q I r h
  obtain ⟨rfl, ec, ⟨dd, fs, ed, ea⟩, q⟩ := h
  subst ec
  subst ed
  cases r with
  | cons rx rr =>
    cases rr with
    | cons rt rr =>
      cases rr
      cases rx
      cases rt
      obtain ⟨ha, _⟩ := I.pin (a, oe) (List.mem_append_left _ List.mem_cons_self)
      obtain ⟨vs, hd⟩ := hf
      have hx : ObjOk X.prog X.w H s.heap dd (.xd fs) := I.hok dd _ ea
      obtain ⟨mA, hns, hr⟩ := hx
      obtain ⟨od, ho, hl⟩ := lookIn_ns hns
      have J : PySem.W.InstAt s.heap a oe C (some od) := ⟨ha, hz.1, by unfold PySem.W.notCls; rw [hd] <;> rfl, by rw [hz.2]; exact ho⟩
      have hcl : (PySem.W.clsIn X.K C).isSome = true := by
        obtain ⟨cd, hc, _⟩ := PySem.W.any_some T.hd
        rw [hc] <;> rfl
      exact PySem.W.kia_one (PySem.W.kitx_exc hcl T.hg T.hk T.hs T.ha T.hn T.ht T.hm) I.kIn J e (fun z => nomatch z) fun tk => ⟨.bl b, H, I.kept (t' := tk) fun _ _ z => z, rfl, q⟩
/-- a tuple of texts in the written part -/
def strV : Value → Option Str
  | .str z _ => some z
  | _ => none
def strsB (K : PySem.W.Frag) (a : Addr) (zs : List Str) : Bool := match K.lookup a with
  | some ⟨.type "tuple", _, .seq its _, _⟩ => decide (its.size ≤ 1000) && decide (its.toList.map strV = zs.map some)
  | _ => false
def refV : Value → Option Addr
  | .ref a => some a
  | _ => none
def tupsB (K : PySem.W.Frag) (a : Addr) (zs : List (List Str)) : Bool := match K.lookup a with
  | some ⟨.type "tuple", _, .seq its _, _⟩ => decide (its.size ≤ 1000) && decide (its.size = zs.length) && (its.toList.zip zs).all fun p => match refV p.1 with
    | some b => strsB K b p.2
    | none => false
  | _ => false
theorem vals_strs : ∀ {us : List Value} {zs : List Str}, us.map strV = zs.map some → Vals (zs.map V.str) us
  | [], [], _ => .nil
  | [], _ :: _, h => by cases h
  | _ :: _, [], h => by cases h
  | u :: us, z :: zs, h => by
    rw [List.map_cons, List.map_cons] at h
    obtain ⟨h1, h2⟩ := List.cons.inj h
    refine .cons ?_ (vals_strs h2)
    cases u with
    | str y t =>
      cases h1
      exact ⟨t, rfl⟩
    | _ => cases h1
theorem strsB_ok {K : PySem.W.Frag} {a : Addr} {zs : List Str} (h : strsB K a zs = true) (H : Hp) : SqT K H a (zs.map V.str) := by
  unfold strsB at h
  split at h
  · rename_i its n sl e
    have h' := Bool.and_eq_true_iff.mp h
    exact .inr ⟨_, its, n, e, rfl, rfl, Nat.le_trans (of_decide_eq_true h'.1) (by decide), vals_strs (of_decide_eq_true h'.2)⟩
  · cases h
theorem tups_refs {K : PySem.W.Frag} : ∀ {us : List Value} {zs : List (List Str)}, us.length = zs.length → ((us.zip zs).all fun p => match refV p.1 with
    | some b => strsB K b p.2
    | none => false) = true → ∃ as : List Addr, Vals (as.map V.ref) us ∧ as.length = zs.length ∧ ∀ (i : Nat) (a : Addr) (z : List Str), as[i]? = some a → zs[i]? = some z → strsB K a z = true
  | [], [], _, _ => ⟨[], .nil, rfl, fun i a z h => by cases h⟩
  | [], _ :: _, h, _ => by cases h
  | _ :: _, [], h, _ => by cases h
  | u :: us, z :: zs, hl, h => by
    rw [List.zip_cons_cons, List.all_cons] at h
    obtain ⟨h1, h2⟩ := Bool.and_eq_true_iff.mp h
    obtain ⟨as, g1, g2, g3⟩ := tups_refs (Nat.succ.inj hl) h2
    cases u with
    | ref a =>
      refine ⟨a :: as, .cons rfl g1, by rw [List.length_cons, List.length_cons, g2], fun i b y e1 e2 => ?_⟩
      cases i with
      | zero =>
        cases e1
        cases e2
        exact h1
      | succ i => exact g3 i b y e1 e2
    | _ => cases h1
/-- a tuple of tuples of texts -/
def TupsC (K : PySem.W.Frag) (a : Addr) (zs : List (List Str)) : Prop := ∃ as : List Addr, as.length = zs.length ∧ (∀ H, SqT K H a (as.map V.ref)) ∧ ∀ (i : Nat) (b : Addr) (z : List Str), as[i]? = some b → zs[i]? = some z → ∀ H, SqT K H b (z.map V.str)
theorem tupsB_ok {K : PySem.W.Frag} {a : Addr} {zs : List (List Str)} (h : tupsB K a zs = true) : TupsC K a zs := by
  unfold tupsB at h
  split at h
  · rename_i its n sl e
    obtain ⟨h', h3⟩ := Bool.and_eq_true_iff.mp h
    obtain ⟨h1, h2⟩ := Bool.and_eq_true_iff.mp h'
    obtain ⟨as, g1, g2, g3⟩ := tups_refs (us := its.toList) (by rw [Array.length_toList]; exact of_decide_eq_true h2) h3
    exact ⟨as, g2, fun H => .inr ⟨_, its, n, e, rfl, rfl, Nat.le_trans (of_decide_eq_true h1) (by decide), g1⟩, fun i b z e1 e2 H => strsB_ok (g3 i b z e1 e2) H⟩
  · cases h
/-- one more fact of the head: an exception's class; one whose fields are read; a sub-question of two classes -/
inductive Fx where
  | tups (x : Str) (zs : List (List Str))
  | strs (x : Str) (zs : List Str)
  | dvals (x : Str) (kvs : List (Str × He.Dv))
  | exc (x : Str)
  | ini (x : Str)
  | xf (x : Str)
  | sub (x y : Str) (b : Bool)
  | isC (x : Str)
  | isx (x : Str) (t : String) (b : Bool)
def Fx.ok (K : PySem.W.Frag) : Fx → Bool
  | .tups x zs => tupsB K (He.ga K x) zs
  | .strs x zs => strsB K (He.ga K x) zs
  | .dvals x kvs => He.valsB K (He.ga K x) kvs
  | .exc x => excB K x
  | .ini x => iniB K x
  | .xf x => xfB K (He.ga K x)
  | .sub x y b => decide (PySem.W.exmOne K (.ref (He.ga K x)) (.ref (He.ga K y)) = some b)
  | .isC x => PySem.W.isClsIn K (He.ga K x)
  | .isx x t b => excCB K (He.ga K x) && decide (PySem.W.kitOne K (.ref (He.ga K x)) (.type t) = some b)

/-! ### the head's Hook -/
abbrev Seen : Type := He.AlD × Bool
def seen (fa : List He.Fa) (fn : List He.DefD) (fx : List Fx) (K : PySem.W.Frag) : Seen := (He.obsD fa fn K, fx.all fun f => f.ok K)
def told (fn : List He.DefD) : Seen := (He.valD fn, true)
def lookAt (n : Nat) (fa : List He.Fa) (fn : List He.DefD) (fx : List Fx) (g : Addr → Option Obj) : Seen := seen fa fn fx (He.frG g (He.asD g n))
def hook (n : Nat) (fa : List He.Fa) (fn : List He.DefD) (fx : List Fx) : PySem.W.Hook where
  α := Seen
  obs := fun s => lookAt n fa fn fx s.heap.get?
  val := fun _ => told fn
  says := fun _ h => ∃ K : PySem.W.Frag, K.In h ∧ seen fa fn fx K = told fn
  of := fun _ _ e => ⟨_, He.frG_in, e⟩
  keeps := fun _ _ _ ⟨K, hK, c⟩ k => ⟨K, PySem.W.Frag.In.keeps hK k, c⟩
theorem look_eq {n : Nat} {fa : List He.Fa} {fn : List He.DefD} {fx : List Fx} {g : Addr → Option Obj} {s : Shared} (h : ∀ a, g a = s.heap.get? a) : lookAt n fa fn fx g = (hook n fa fn fx).obs s := by
  have e : g = s.heap.get? := funext h
  subst e
  rfl
/-- what the walk leans on, by places in the lists -/
structure Txt (fa : List He.Fa) (fn : List He.DefD) (fx : List Fx) (K : PySem.W.Frag) (mg : Str → Option Value) : Prop where
  f : ∀ (i : Nat) (f : He.Fa), fa[i]? = some f → f.ok K = true
  d : ∀ (i : Nat) (d : He.DefD), fn[i]? = some d → ∃ fd, FunD K d.name d.qual d.params d.body d.scope (d.dvs K) (d.kws K) (He.fAd K d.at_) fd
  x : ∀ (i : Nat) (f : Fx), fx[i]? = some f → f.ok K = true
  gl : ∀ (i : Nat) (x : Str), fa[i]? = some (.glo x) → mg x = some (.ref (He.ga K x))
  no : ∀ (i : Nat) (x : Str), fa[i]? = some (.free x) → mg x = none
  int : ∀ (i : Nat) (x : Str) (n : Int), fa[i]? = some (.int x n) → ∃ t, mg x = some (.int n t)
  str : ∀ (i : Nat) (x z : Str), fa[i]? = some (.str x z) → ∃ t, mg x = some (.str z t)
theorem txt_of {fa : List He.Fa} {fn : List He.DefD} {fx : List Fx} {K : PySem.W.Frag} {mg : Str → Option Value} {h : Heap} (X : K.In h) (G : h.Ns mainGlobals mg) (c : seen fa fn fx K = told fn) : Txt fa fn fx K mg := by
  have c1 : He.SaysD fa fn K := congrArg (fun z : Seen => z.1) c
  have c2 : (fx.all fun f => f.ok K) = true := congrArg (fun z : Seen => z.2) c
  exact ⟨fun i f e => c1.fact i e, fun i d e => c1.def_ i e, fun i f e => List.all_eq_true.mp c2 f (List.mem_of_getElem? e), fun i x e => He.glo_ok X G (c1.fact i e), fun i x e => He.free_ok X G (c1.fact i e),
    fun i x n e => He.int_ok X G (c1.fact i e), fun i x z e => He.str_ok X G (c1.fact i e)⟩

/-! ### defs -/
/-- a def that lets nothing out -/
theorem def0 {P : Program} {w : World} {K : PySem.W.Frag} {mg : Str → Option Value} {base : Heap} {x qual : Str} {params : Arguments} {body : List Stmt} {scope : Scope} {dvs : List V} {kws : List (Str × V)} {f : Addr} {fd : FuncData} {N ps : List Str} {k : Nat} {sp : Sp}
    (F : FunD K x qual params body scope dvs kws f fd) (S : FnScope N ps scope) (len : ∀ vs H Q E, sp vs H Q E → vs.length = ps.length)
    (hb : ∀ (cdv : Value) (A : Around) (outer : List Env) (s : Shared) (H : Hp) (vs : List V) (Q : VK) (E : XK), Room k (A.deeper (envOfC qual scope s.heap.objs.size f cdv)) → sp vs H Q E →
      ∃ t, PSs (cxOf CX0 P w K mg base N qual scope f cdv A outer s H E).nox body t ∧ t { nx := fun _ H' => Q .non H', rt := Q } (start N vs) H) : FnOk P w K mg base CX0 (k + 1) f fd ps sp :=
  F.ok S len fun cdv A outer s H vs Q E hr h => by
    obtain ⟨t, ht, q⟩ := hb cdv A outer s H vs Q E hr h
    exact ⟨t, PSs.nox ht, q⟩
/-- a def that may let out errors -/
theorem defX {P : Program} {w : World} {K : PySem.W.Frag} {mg : Str → Option Value} {base : Heap} {x qual : Str} {params : Arguments} {body : List Stmt} {scope : Scope} {dvs : List V} {kws : List (Str × V)} {f : Addr} {fd : FuncData} {N ps : List Str} {k : Nat} {sp : Sp}
    (F : FunD K x qual params body scope dvs kws f fd) (S : FnScope N ps scope) (len : ∀ vs H Q E, sp vs H Q E → vs.length = ps.length)
    (hb : ∀ (cdv : Value) (A : Around) (outer : List Env) (s : Shared) (H : Hp) (vs : List V) (Q : VK) (E : XK), Room k (A.deeper (envOfC qual scope s.heap.objs.size f cdv)) → sp vs H Q E →
      ∃ t, PSs (cxOf (L2.CX P w) P w K mg base N qual scope f cdv A outer s H E) body t ∧ t { nx := fun _ H' => Q .non H', rt := Q } (start N vs) H) : FnOk P w K mg base (L2.CX P w) (k + 1) f fd ps sp :=
  F.ok S len hb
/-- a def as callers want it: dvs the defaults that fill up -/
def Can (P : Program) (w : World) (K : PySem.W.Frag) (mg : Str → Option Value) (base : Heap) (CX : CXT) (k : Nat) (f : Addr) (ps : List Str) (dvs : List V) (sp : Sp) : Prop := ∃ fd, FnOk P w K mg base CX k f fd ps sp ∧ ∃ ds, Vals dvs ds ∧ Binds K fd ps ds

/-! ### the law's end -/
theorem ends {l : PySem.W.OpenLaw} {n k : Nat} {q : Program} {loose : List Str} {XP : (Str → Option Value) → Heap → Prop} {YP : World → Heap → Prop} {d : DefRec} {CX : World → CXT} {x : Str}
    (hn : l.most = some n) (hn2 : n ≤ sizeLine) (hdf : d.params.defaults = []) (hr : Room k callerA)
    (F : ∀ (w : World) (mg : Str → Option Value) (fa : Addr) (h : Heap), YP w h → h.Ns mainGlobals mg → mg d.name = some (.ref fa) →
      ∃ (K : PySem.W.Frag) (fd : FuncData) (sp : Sp), K.In h ∧ (∀ (s : Shared) (u : Value), BindsTo s fd ⟨[u], []⟩ [(x, u)]) ∧
        (∀ (H : Hp) (a : Addr) (ns : List Int), ns.length ≤ n → (∀ z ∈ ns, Builtin.Int.intBits z ≤ 1048576) → Only H → SqL K H a (ns.map V.int) → sp [.ref a] H (fun v _ => v = .bl true) fun _ _ _ => False) ∧
        ∀ base : Heap, K.In base → base.Ns mainGlobals mg → FnOk l.prog w K mg base (CX w) k fa fd [x] sp)
    (hCX : ∀ (w : World) (H : Hp) (s : Shared) (e : Value) (s' : Shared), CX w [] H s (fun _ _ _ => False) e s' → False) :
    PySem.W.WalkO q loose XP YP l.row.toRowW d [] (fun f vs => PySem.call f vs) := by
  refine Att.attach_callB hn hdf fun w s₀ s₁ mg mb fa o pm cd doc a vs ns G Y ho hd hcd hmg hobj hints hlen hbits hg => ?_
  obtain ⟨K, fd, sp, KX, hb, hsp, hF⟩ := F w mg fa _ Y G.T.g hmg
  exact law_call KX G.T.g G.T.b G.T.builtins G.T.nolimit hg hobj hints (Nat.le_trans hlen hn2) hr hF hb (fun H hO hS => hsp H a ns hlen hbits hO hS) fun H e s' => hCX w H s₁ e s'
theorem no_leak {P : Program} {w : World} {H : Hp} {s : Shared} {e : Value} {s' : Shared} (h : L2.CX P w [] H s (fun _ _ _ => False) e s') : False := by
  obtain ⟨_, _, _, _, _, _, _, _, _, _, _, _, z⟩ := h
  exact z.elim

/-! ### heaps: all but some places stay -/
/-- what H tracks but at the places of S stays -/
def Kp (S : List Addr) (H H' : Hp) : Prop := ∀ a o, a ∉ S → H a = some o → H' a = some o
theorem Kp.refl {S : List Addr} {H : Hp} : Kp S H H := fun _ _ _ e => e
theorem Kp.trans {S : List Addr} {H H1 H2 : Hp} (a : Kp S H H1) (b : Kp S H1 H2) : Kp S H H2 := fun x o n e => b x o n (a x o n e)
theorem Kp.new {S : List Addr} {H : Hp} {p : Addr} {o : HO} (h : H p = none) : Kp S H (upd H p o) := fun a u _ e => by
  rw [upd_ne (ne_of_none e h)]
  exact e
theorem Kp.put {S : List Addr} {H : Hp} {p : Addr} {o : HO} (h : p ∈ S) : Kp S H (upd H p o) := fun a u n e => by
  rw [upd_ne (fun z => n (by rw [z]; exact h))]
  exact e
/-- an object that H does not know may change -/
theorem Kp.mut {S : List Addr} {H H' : Hp} {p : Addr} {o : HO} (e : Kp S H H') (h : H p = none) : Kp S H (upd H' p o) := fun a u n ha => by
  rw [upd_ne (ne_of_none ha h)]
  exact e a u n ha
theorem Kp.mono {S S' : List Addr} {H H' : Hp} (e : Kp S H H') (h : ∀ a ∈ S, a ∈ S') : Kp S' H H' := fun a o n ha => e a o (fun z => n (h a z)) ha
theorem Kp.ex {H H' : Hp} (e : Kp [] H H') : Evl.Ex H H' := fun a o h => e a o (by simp) h
theorem Kp.of {S : List Addr} {H H' : Hp} (e : Evl.Ex H H') : Kp S H H' := fun a o _ h => e a o h
theorem Kp.of' {S : List Addr} {H H' : Hp} (e : Same H H') : Kp S H H' := fun a o _ h => e a o h
theorem Kp.fresh {H H' : Hp} {p : Addr} (e : Kp [] H H') (h : H' p = none) : H p = none := Evl.fresh_back e.ex h
/-- fresh behind, fresh ahead, where the places of S are known -/
theorem Kp.back {S : List Addr} {H H' : Hp} {p : Addr} (e : Kp S H H') (hs : ∀ a ∈ S, H' a ≠ none) (h : H' p = none) : H p = none := by
  cases q : H p with
  | none => rfl
  | some o =>
    by_cases hp : p ∈ S
    · exact absurd h (hs p hp)
    · rw [e p o hp q] at h
      cases h
theorem Kp.up {H : Hp} {p : Addr} {o : HO} : Kp [p] H (upd H p o) := fun a u n e => by
  rw [upd_ne (fun z => n (by rw [z]; exact List.mem_singleton.mpr rfl))]
  exact e
theorem Kp.at {S : List Addr} {H H' : Hp} {a : Addr} {o : HO} (e : Kp S H H') (ha : H a = some o) (n : a ∉ S := by simp) : H' a = some o := e a o n ha

theorem Kp.sqL {K : PySem.W.Frag} {H H' : Hp} {p l C dx : Addr} {fs : List (Str × V)} {xs : List V} (e : Kp [p] H H') (hp : H p = some (.ins C dx fs)) (h : SqL K H l xs) : SqL K H' l xs := by
  rcases h with (h | ⟨o, h⟩) | h
  · exact .inl (.inl (e.at h fun z => by rw [List.mem_singleton.mp z, hp] at h; cases h))
  · exact .inl (.inr ⟨o, e.at h fun z => by rw [List.mem_singleton.mp z, hp] at h; cases h⟩)
  · exact .inr h

/-! ### own exceptions made -/
theorem exo_end {H : Hp} {a d : Addr} {o1 o2 o3 u : HO} (hn : H a = none) (hd : d ≠ a) : upd (L2.del (upd (upd (upd H a o1) d o2) a o3) a) d u = upd H d u := by
  funext b
  by_cases h1 : b = d
  · subst h1
    rw [upd_same, upd_same]
  · rw [upd_ne h1, upd_ne h1]
    by_cases h2 : b = a
    · subst h2
      rw [del_same, hn]
    · rw [del_ne h2, upd_ne h2, upd_ne h1, upd_ne h2]
theorem exo_end2 {H : Hp} {a d : Addr} {o1 o2 o3 o4 u : HO} (hn : H a = none) (hd : d ≠ a) : upd (L2.del (upd (upd (upd (upd H a o1) d o2) a o3) d o4) a) d u = upd H d u := by
  funext b
  by_cases h1 : b = d
  · subst h1
    rw [upd_same, upd_same]
  · rw [upd_ne h1, upd_ne h1]
    by_cases h2 : b = a
    · subst h2
      rw [del_same, hn]
    · rw [del_ne h2, upd_ne h1, upd_ne h2, upd_ne h1, upd_ne h2]
/-- the __init__ of an own exception with one field -/
def spX1 (K : PySem.W.Frag) (C : Addr) (f : Str) : Sp := fun vs H Q _ => ∃ (a : Addr) (y : V), vs = [.ref a, y] ∧ OexC K C ∧ PySem.W.findIn K (.ref C) f = some none ∧ H a = some (exo a C none) ∧
  ∀ dx, H dx = none → dx ≠ a → Q .non (upd (upd H dx (exd dx [(f, y)])) a (exo a C (some dx)))
/-- .. with two fields -/
def spX2 (K : PySem.W.Frag) (C : Addr) (f g : Str) : Sp := fun vs H Q _ => ∃ (a : Addr) (y z : V), vs = [.ref a, y, z] ∧ OexC K C ∧ PySem.W.findIn K (.ref C) f = some none ∧ PySem.W.findIn K (.ref C) g = some none ∧ H a = some (exo a C none) ∧
  ∀ dx, H dx = none → dx ≠ a → Q .non (upd (upd (upd H dx (exd dx [(f, y)])) a (exo a C (some dx))) dx (exd dx [(g, z), (f, y)]))
/-- C(e) is made, to be raised -/
theorem made1 {K : PySem.W.Frag} {C : Addr} {f : Str} {y : V} {H : Hp} {Q : XK} (T : OexC K C) (hno : PySem.W.findIn K (.ref C) f = some none) (h : ∀ d, H d = none → Q (.ref C) (some d) (upd H d (.xd [(f, y)]))) :
    [y].length ≤ 1000 ∧ ∀ a, H a = none → spX1 K C f (.ref a :: ([y] ++ [])) (upd H a (exo a C none)) (fun v H2 => v = .non ∧ ∃ (d : Addr) (fs : List (Str × V)), H2 a = some (exo a C (some d)) ∧ H2 d = some (exd d fs) ∧ H d = none ∧ Q (.ref C) (some d) (upd (L2.del H2 a) d (.xd fs))) (fun _ _ _ => False) := by
  refine ⟨by show 1 ≤ 1000; decide, fun a hn => ⟨a, y, rfl, T, hno, upd_same, fun dx hd ne => ⟨rfl, dx, _, upd_same, by rw [upd_ne ne, upd_same], ?_, ?_⟩⟩⟩
  · rw [upd_ne ne] at hd
    exact hd
  · rw [exo_end hn ne]
    rw [upd_ne ne] at hd
    exact h dx hd
theorem made2 {K : PySem.W.Frag} {C : Addr} {f g : Str} {y z : V} {H : Hp} {Q : XK} (T : OexC K C) (hf : PySem.W.findIn K (.ref C) f = some none) (hg : PySem.W.findIn K (.ref C) g = some none) (h : ∀ d, H d = none → Q (.ref C) (some d) (upd H d (.xd [(g, z), (f, y)]))) :
    [y, z].length ≤ 1000 ∧ ∀ a, H a = none → spX2 K C f g (.ref a :: ([y, z] ++ [])) (upd H a (exo a C none)) (fun v H2 => v = .non ∧ ∃ (d : Addr) (fs : List (Str × V)), H2 a = some (exo a C (some d)) ∧ H2 d = some (exd d fs) ∧ H d = none ∧ Q (.ref C) (some d) (upd (L2.del H2 a) d (.xd fs))) (fun _ _ _ => False) := by
  refine ⟨by show 2 ≤ 1000; decide, fun a hn => ⟨a, y, z, rfl, T, hf, hg, upd_same, fun dx hd ne => ⟨rfl, dx, _, by rw [upd_ne (Ne.symm ne), upd_same], upd_same, ?_, ?_⟩⟩⟩
  · rw [upd_ne ne] at hd
    exact hd
  · rw [exo_end2 hn ne]
    rw [upd_ne ne] at hd
    exact h dx hd

/-! ### fields -/
theorem putF_app : ∀ {fs : List (Str × V)} {f : Str} {v : V} {ks : List Str}, fs.map (·.1) = ks → ks.all (fun k => !decide (k = f)) = true → putF f v fs = fs ++ [(f, v)]
  | [], f, v, ks, _, _ => rfl
  | (g, x) :: r, f, v, ks, e, h => by
    subst e
    rw [List.map_cons, List.all_cons] at h
    obtain ⟨h1, h2⟩ := Bool.and_eq_true_iff.mp h
    have ne : ¬ g = f := fun z => by
      have h3 : (!decide (g = f)) = true := h1
      rw [decide_eq_true z] at h3
      cases h3
    show (if g = f then (g, v) :: r else (g, x) :: putF f v r) = (g, x) :: (r ++ [(f, v)])
    rw [if_neg ne, putF_app rfl h2]
theorem fld_at : ∀ {fs : List (Str × V)} {f : Str} {v : V} {ks : List Str} (i : Nat), fs.map (·.1) = ks → fs[i]? = some (f, v) → (ks.take i).all (fun k => !decide (k = f)) = true → fs.lookup f = some v
  | [], f, v, ks, i, _, e, _ => by cases i <;> cases e
  | (g, x) :: r, f, v, ks, 0, _, e, _ => by
    have e1 : (g, x) = (f, v) := Option.some.inj e
    cases e1
    show (match g == g with | true => some x | false => r.lookup g) = some x
    rw [beq_self_eq_true]
  | (g, x) :: r, f, v, ks, i + 1, hk, e, h => by
    subst hk
    rw [List.map_cons, List.take_succ_cons, List.all_cons] at h
    obtain ⟨h1, h2⟩ := Bool.and_eq_true_iff.mp h
    have ne : ¬ f = g := fun z => by
      have h3 : (!decide (g = f)) = true := h1
      rw [decide_eq_true z.symm] at h3
      cases h3
    show (match f == g with | true => some x | false => r.lookup f) = some v
    rw [beq_eq_false_iff_ne.mpr ne]
    exact fld_at i rfl e h2
theorem fld_no : ∀ {fs : List (Str × V)} {f : Str} {ks : List Str}, fs.map (·.1) = ks → ks.all (fun k => !decide (k = f)) = true → fs.lookup f = none
  | [], f, ks, _, _ => rfl
  | (g, x) :: r, f, ks, e, h => by
    subst e
    rw [List.map_cons, List.all_cons] at h
    obtain ⟨h1, h2⟩ := Bool.and_eq_true_iff.mp h
    have ne : ¬ f = g := fun z => by
      have h3 : (!decide (g = f)) = true := h1
      rw [decide_eq_true z.symm] at h3
      cases h3
    show (match f == g with | true => some x | false => r.lookup f) = none
    rw [beq_eq_false_iff_ne.mpr ne]
    exact fld_no rfl h2

/-! ### the rules by the written part's own name -/
def rLn (K : PySem.W.Frag) : List V → Hp → VK → Prop := fun xs H Q => ∃ p ys, xs = [.ref p] ∧ (SqL K H p ys ∨ SqT K H p ys) ∧ Q (.int ys.length) H
def rLs (K : PySem.W.Frag) : List V → Hp → VK → Prop := fun xs H Q => ∃ p ys, xs = [.ref p] ∧ (SqL K H p ys ∨ SqT K H p ys) ∧ ∀ l, H l = none → Q (.ref l) (upd H l (.lst ys))
def tTr (K : PySem.W.Frag) (ta : TE) : TT := fun σ H Q => ta σ H fun x H' => ∃ k, TruV K x H' k ∧ Q k H'
section
variable {X : Cx} (K : PySem.W.Frag)
theorem ixL (h : X.K = K) : IxR X (rIxL K) := h ▸ ix_list
theorem ixT (h : X.K = K) : IxR X (rIxT K) := h ▸ ix_tup
theorem ixS (h : X.K = K) : IxR X (rIx K) := h ▸ ix_seq
theorem slL (h : X.K = K) : SlR X (rSlL K) := h ▸ sl_list
theorem slT (h : X.K = K) : SlR X (rSlT K) := h ▸ sl_tup
theorem cLen (h : X.K = K) : CallR X (.builtin "len") (rLn K) := h ▸ call_len_seq
theorem cList (h : X.K = K) : CallR X (.type "list") (rLs K) := h ▸ call_list_of
theorem cSum (h : X.K = K) (hc : X.calm = true) : CallR X (.builtin "sum") (rSum K) := h ▸ cr_sum hc
theorem cMax (h : X.K = K) (hc : X.calm = true) : CallR X (.builtin "max") (rMax K) := h ▸ cr_max hc
theorem cMin (h : X.K = K) (hc : X.calm = true) : CallR X (.builtin "min") (rMin K) := h ▸ cr_min hc
theorem cAny (h : X.K = K) (hc : X.calm = true) : CallR X (.builtin "any") (rAny K) := h ▸ cr_any hc
theorem cAll (h : X.K = K) (hc : X.calm = true) : CallR X (.builtin "all") (rAll K) := h ▸ cr_all hc
theorem cIsi (h : X.K = K) : CallR X (.builtin "isinstance") (rIsi K) := h ▸ call_isi
theorem cSorted (h : X.K = K) : CallR X (.builtin "sorted") (rSortedI K) := h ▸ cr_sortedI
theorem oIn (h : X.K = K) : OpR X (compareOp .In) (rIn K false) := h ▸ op_in_seq
theorem oNotIn (h : X.K = K) : OpR X (compareOp .NotIn) (rIn K true) := h ▸ op_notIn_seq
theorem oEqD (h : X.K = K) (hu : X.A.units + 64 < cLine) : OpR X (compareOp .Eq) (rEqD K) := h ▸ op_eqD hu
theorem oNeD (h : X.K = K) (hu : X.A.units + 64 < cLine) : OpR X (compareOp .NotEq) (rNeD K) := h ▸ op_neD hu
theorem eFld (h : X.K = K) {e : Expr} {f : Str} {pos : Pos} {ta : TE} (he : PE X e ta) (hb : attributeBase e f X.env (eval e X.env) = eval e X.env := by rfl) : PE X (.Attribute e f pos) (tFld K ta f) := h ▸ pe_fld he hb
theorem tTruth (h : X.K = K) {a : Expr} {ta : TE} (ha : PE X a ta) (he : ∀ whole, isTrue a X.env whole = (do let v ← whole; standAt a.pos; holding [v] (truthy v)) := by intro _; rfl) : PT X a (tTr K ta) := h ▸ pt_truth ha he
theorem iLst (h : X.K = K) {tg l : Expr} {tl : TE} (hl : PE X l tl) : PI X tg l (iList K tl) := h ▸ pi_list hl
theorem iTpl (h : X.K = K) {tg l : Expr} {tl : TE} (hl : PE X l tl) : PI X tg l (iTup K tl) := h ▸ pi_tup hl
theorem iEnu (h : X.K = K) {e : Expr} {ta : TA} {p pos tpos : Pos} {elts : List Expr} {kk : Nat} (hg : Gl X "enumerate") (hm : X.mg "enumerate" = none) (ha : PA X [e] ta) (hs : starEach [e] X.env = [(false, eval e X.env)] := by rfl) :
    PI X (.Tuple elts kk tpos) (.Call (.Name "enumerate" p) [e] [] pos) (iEnum K ta) := h ▸ pi_enum hg hm ha hs
theorem iRvs (h : X.K = K) {tg e : Expr} {ta : TA} {p pos : Pos} (hg : Gl X "reversed") (hm : X.mg "reversed" = none) (ha : PA X [e] ta) (hs : starEach [e] X.env = [(false, eval e X.env)] := by rfl) :
    PI X tg (.Call (.Name "reversed" p) [e] [] pos) (iRev K ta) := h ▸ pi_reversed hg hm ha hs
theorem iZp (h : X.K = K) {e e2 : Expr} {ta : TA} {p pos tpos : Pos} {elts : List Expr} {kk : Nat} (hg : Gl X "zip") (hm : X.mg "zip" = none) (ha : PA X [e, e2] ta)
    (hs : starEach [e, e2] X.env = (false, eval e X.env) :: starEach [e2] X.env := by rfl) (hpl : (backTo pos (starEach [e2] X.env)).any (·.1) = false := by rfl) : PI X (.Tuple elts kk tpos) (.Call (.Name "zip" p) [e, e2] [] pos) (iZip K ta) := h ▸ pi_zip hg hm ha hs hpl
theorem sFd (h : X.K = K) {o value : Expr} {f : Str} {pos pos' : Pos} {ta tv : TE} (ha : PE X o ta) (hv : PE X value tv) (hs : swapsWith value (some (.Attribute o f pos')) pos.line X.env = pure false) : PS X (.Assign [.Attribute o f pos'] value pos) (sFld K ta tv f) := h ▸ ps_fld ha hv hs
theorem sFdAug (h : X.K = K) {o value : Expr} {f : Str} {pos tpos : Pos} {ta tv : TE} {op : Operator} {rd : V → V → Hp → VK → Prop} (hop : InOp X op rd) (ha : PE X o ta) (hv : PE X value tv) : PS X (.AugAssign (.Attribute o f tpos) op value pos) (sFldAug K ta tv rd f) := h ▸ ps_fldaug ha hv hop
theorem eBm (h : X.K = K) {T id : String} {name : Str} {o e : Expr} {es : List Expr} {to : TE} {t : TA} {r : V → List V → Hp → VK → Prop} {apos cpos : Pos} (pa : PlainAttrs T) (slot : Slot T name id) (hty : typeOf (.builtin id) = pure (.type "method_descriptor")) (hm : MtR X id r) (ho : PE X o to) (ha : PA X (e :: es) t)
    (hbase : attributeBase o name X.env (eval o X.env) = eval o X.env := by rfl)
    (hfew : ((backTo cpos (starEach (e :: es) X.env)).all (fun x => !x.1) && (backToKw cpos (keywordEach [] X.env)).all (fun x => x.1.isSome) && decide ((e :: es).length + ([] : List Keyword).length + (if ([] : List Keyword).isEmpty then 0 else 1) < 30)) = true := by rfl)
    (hline : (apos.endLine == cpos.line) = true := by rfl) (hs : starEach (e :: es) X.env = (false, eval e X.env) :: starEach es X.env := by rfl) (hplain : (backTo cpos (starEach es X.env)).any (·.1) = false := by rfl) :
    PE X (.Call (.Attribute o name apos) (e :: es) [] cpos) (tBM K T r to t) := h ▸ pe_bm pa slot hty hm ho ha hbase hfew hline hs hplain
theorem eBm0 (h : X.K = K) {T id : String} {name : Str} {o : Expr} {to : TE} {r : V → List V → Hp → VK → Prop} {apos cpos : Pos} (pa : PlainAttrs T) (slot : Slot T name id) (hty : typeOf (.builtin id) = pure (.type "method_descriptor")) (hm : MtR X id r) (ho : PE X o to)
    (hbase : attributeBase o name X.env (eval o X.env) = eval o X.env := by rfl) (hline : (apos.endLine == cpos.line) = true := by rfl) : PE X (.Call (.Attribute o name apos) [] [] cpos) (tBM0 K T r to) := h ▸ pe_bm0 pa slot hty hm ho hbase hline
end

/-! ### readings that leave the heap as it is -/
def ValA (ta : TA) (σ : L2.St) (H : Hp) (vs : List V) : Prop := ∀ Q : List V → Hp → Prop, Q vs H → ta σ H Q
section
variable {K : PySem.W.Frag} {σ : L2.St} {H : Hp} {ta tb te : TE} {x y v : V} {p : Addr} {xs : List V}
theorem va_nil : ValA tNil σ H [] := fun _ q => q
theorem va_cons {tr : TA} {vs : List V} (h : Val ta σ H x) (hr : ValA tr σ H vs) : ValA (tCons ta tr) σ H (x :: vs) := fun _ q => h _ (hr _ q)
theorem va_one (h : Val ta σ H x) : ValA (tCons ta tNil) σ H [x] := va_cons h va_nil
theorem va_two (h : Val ta σ H x) (h' : Val tb σ H y) : ValA (tCons ta (tCons tb tNil)) σ H [x, y] := va_cons h (va_one h')
theorem val_cb {r : List V → Hp → VK → Prop} {tl : TA} {vs : List V} (h : ValA tl σ H vs) (hr : ∀ Q : VK, Q v H → r vs H Q) : Val (tCB r tl) σ H v := fun Q q => h _ (hr Q q)
theorem val_isi {t n : String} {b : Bool} (h : Val ta σ H x) (ty : TyX K H x (.type t)) (e : kitB t n = some b) : Val (tCB (rIsi K) (tCons ta (tCons (tC (.ty n)) tNil))) σ H (.bl b) :=
  val_cb (va_two h val_c) fun _ q => ⟨x, .ty n, .type t, .type n, b, rfl, .ty n, ty, kit_ty e, q⟩
theorem val_lenL (h : Val ta σ H (.ref p)) (hs : SqL K H p xs) : Val (tCB (rLn K) (tCons ta tNil)) σ H (.int (xs.length : Int)) :=
  val_cb (va_one h) fun _ q => ⟨p, xs, rfl, .inl hs, q⟩
theorem val_lenT (h : Val ta σ H (.ref p)) (hs : SqT K H p xs) : Val (tCB (rLn K) (tCons ta tNil)) σ H (.int (xs.length : Int)) :=
  val_cb (va_one h) fun _ q => ⟨p, xs, rfl, .inr hs, q⟩
theorem val_ixL {i : Int} (h : Val ta σ H (.ref p)) (hi : Val tb σ H (.int i)) (hs : SqL K H p xs) (e : atI xs i = some v) : Val (tOp (rIxL K) ta tb) σ H v := val_op h hi fun _ q => ⟨p, xs, i, v, rfl, rfl, hs, e, q⟩
theorem val_ixT {i : Int} (h : Val ta σ H (.ref p)) (hi : Val tb σ H (.int i)) (hs : SqT K H p xs) (e : atI xs i = some v) : Val (tOp (rIxT K) ta tb) σ H v := val_op h hi fun _ q => ⟨p, xs, i, v, rfl, rfl, hs, e, q⟩
theorem val_ixSL {i : Int} (h : Val ta σ H (.ref p)) (hi : Val tb σ H (.int i)) (hs : SqL K H p xs) (e : atI xs i = some v) : Val (tOp (rIx K) ta tb) σ H v := val_op h hi fun _ q => .inl ⟨p, xs, i, v, rfl, rfl, hs, e, q⟩
theorem val_ixST {i : Int} (h : Val ta σ H (.ref p)) (hi : Val tb σ H (.int i)) (hs : SqT K H p xs) (e : atI xs i = some v) : Val (tOp (rIx K) ta tb) σ H v := val_op h hi fun _ q => .inr (.inl ⟨p, xs, i, v, rfl, rfl, hs, e, q⟩)
theorem val_I {g : Int → Int → V} {i j : Int} (h : Val ta σ H (.int i)) (h' : Val tb σ H (.int j)) : Val (tOp (rI0 g) ta tb) σ H (g i j) := val_op h h' fun _ q => ⟨i, j, rfl, rfl, q⟩
theorem val_IC {C : Int → Int → Prop} {g : Int → Int → V} {i j : Int} (h : Val ta σ H (.int i)) (h' : Val tb σ H (.int j)) (c : C i j) : Val (tOp (rI C g) ta tb) σ H (g i j) := val_op h h' fun _ q => ⟨i, j, rfl, rfl, c, q⟩
theorem val_eq (h : Val ta σ H x) (h' : Val tb σ H y) (s : scal x y = true) : Val (tOp rEq ta tb) σ H (.bl (decide (x = y))) := val_op h h' fun _ q => ⟨s, q⟩
theorem val_ne (h : Val ta σ H x) (h' : Val tb σ H y) (s : scal x y = true) : Val (tOp rNe ta tb) σ H (.bl (!decide (x = y))) := val_op h h' fun _ q => ⟨s, q⟩
theorem val_is {w : V} (h : Val ta σ H v) (e : v = w) : Val ta σ H w := e ▸ h
theorem val_and {a b : Bool} (h : Val ta σ H (.bl a)) (h' : a = true → Val tb σ H (.bl b)) : Val (tAndV ta tb) σ H (.bl (a && b)) := fun Q q => h _ ⟨a, rfl, by
  cases a with
  | true => exact iteT (h' rfl Q q)
  | false => exact iteF q⟩
theorem val_or {a b : Bool} (h : Val ta σ H (.bl a)) (h' : a = false → Val tb σ H (.bl b)) : Val (tOrV ta tb) σ H (.bl (a || b)) := fun Q q => h _ ⟨a, rfl, by
  cases a with
  | true => exact iteT q
  | false => exact iteF (h' rfl Q q)⟩
theorem val_not {a : Bool} (h : Val ta σ H (.bl a)) : Val (tNotV ta) σ H (.bl (!a)) := fun Q q => h _ ⟨a, rfl, q⟩
theorem val_if {t : TT} {b : Bool} (h : Ans t σ H b) (h1 : b = true → Val ta σ H v) (h2 : b = false → Val tb σ H v) : Val (tIf t ta tb) σ H v := fun Q q => h _ (by
  cases b with
  | true => exact iteT (h1 rfl Q q)
  | false => exact iteF (h2 rfl Q q))
theorem val_isN (h : Val ta σ H x) : Val (tOp rIsN ta (tC .non)) σ H (.bl (decide (x = .non))) := val_op h val_c fun _ q => ⟨rfl, q⟩
theorem ans_is {t : TT} {a b : Bool} (h : Ans t σ H a) (e : a = b) : Ans t σ H b := e ▸ h
theorem ans_v {b : Bool} (h : Val te σ H (.bl b)) : Ans (tTest te) σ H b := fun _ q => h _ ⟨b, rfl, q⟩
theorem ans_or2 {t u : TT} {a b : Bool} (h : Ans t σ H a) (h' : a = false → Ans u σ H b) : Ans (tOr t u) σ H (a || b) := by
  cases a with
  | true => exact ans_or1 h
  | false => exact ans_or h (h' rfl)
theorem ans_and3 {t u : TT} {a b : Bool} (h : Ans t σ H a) (h' : a = true → Ans u σ H b) : Ans (tAnd t u) σ H (a && b) := by
  cases a with
  | true => exact ans_and h (h' rfl)
  | false => exact ans_and0 h
/-- a call whose promise leaves the heap -/
theorem val_call {sp : Sp} {dvs vs : List V} {E : XK} {tl : TA} (h : ValA tl σ H vs) (hs : ∀ Q : VK, Q v H → sp (vs ++ dvs) H Q E) : Val (tCall sp dvs E tl) σ H v := fun Q q => h _ (hs Q q)
theorem val_ev (h : Val te σ H v) : ∀ Q : VK, Q v H → te σ H Q := h
/-- x in a written pair of ints -/
theorem val_chain {tc : TE} {g g' : Int → Int → Bool} {a b c : Int} (h1 : Val ta σ H (.int a)) (h2 : Val tb σ H (.int b)) (h3 : Val tc σ H (.int c)) : Val (tChain (rI0 fun i j => .bl (g i j)) (rI0 fun i j => .bl (g' i j)) ta tb tc) σ H (.bl (g a b && g' b c)) := fun Q q => by
  refine h1 _ (h2 _ ⟨a, b, rfl, rfl, g a b, rfl, ?_⟩)
  cases e : g a b with
  | true => exact iteT (h3 _ ⟨b, c, rfl, rfl, by rw [e] at q; exact q⟩)
  | false => exact iteF (by rw [e] at q; exact q)
theorem go_asg {D : Ends} {g : TG} (h : te σ H fun x H1 => g x σ H1 D.nx) : tAsg te g D σ H := h
theorem go_ret {D : Ends} (h : te σ H D.rt) : tRet te D σ H := h
theorem go_drop {D : Ends} (h : te σ H fun _ H1 => D.nx σ H1) : tDrop te D σ H := h
/-- raise C(e), C of one field -/
theorem st_raise1 {W : WX} {C : Addr} {f : Str} {y : V} (T : OexC K C) (hno : PySem.W.findIn K (.ref C) f = some none) (h : Val te σ H y) (q : ∀ d, H d = none → W (.ref C) (some d) σ (upd H d (.xd [(f, y)]))) :
    tMkO C (spX1 K C f) [] (tCons te tNil) σ H (fun cls d H' => W cls d σ H') := h _ (made1 (Q := fun cls d H' => W cls d σ H') T hno q)
theorem st_raise2 {W : WX} {C : Addr} {f g : Str} {y z : V} (T : OexC K C) (hf : PySem.W.findIn K (.ref C) f = some none) (hg : PySem.W.findIn K (.ref C) g = some none) (h : Val ta σ H y) (h' : Val tb σ H z) (q : ∀ d, H d = none → W (.ref C) (some d) σ (upd H d (.xd [(g, z), (f, y)]))) :
    tMkO C (spX2 K C f g) [] (tCons ta (tCons tb tNil)) σ H (fun cls d H' => W cls d σ H') := h _ (h' _ (made2 (Q := fun cls d H' => W cls d σ H') T hf hg q))
theorem val_un {r : V → Hp → VK → Prop} {z : V} (h : Val ta σ H x) (hr : ∀ Q : VK, Q z H → r x H Q) : Val (tUn r ta) σ H z := fun Q q => h _ (hr Q q)
theorem val_neg {i : Int} (h : Val ta σ H (.int i)) : Val (tUn (rU fun i => .int (-i)) ta) σ H (.int (-i)) := val_un h fun _ q => ⟨i, rfl, q⟩
theorem st_app {D : Ends} {l : Addr} (hl : H l = some (.lst xs)) (ha : Val ta σ H (.ref l)) (h : Val te σ H v) (hz : xs.length < sizeLine) (k : D.nx σ (upd H l (.lst (xs ++ [v])))) : tDrop (tBM K "list" rAppend ta (tCons te tNil)) D σ H :=
  ha _ ⟨Or.inl ⟨rfl, xs, Evl.sq_of hl⟩, h _ ⟨l, xs, v, rfl, rfl, hl, hz, k⟩⟩
theorem st_if {c : TT} {t u : TS} {D : Ends} {b : Bool} (h : Ans c σ H b) (h1 : b = true → t D σ H) (h2 : b = false → u D σ H) : tIfS c t u D σ H := by
  cases b with
  | true => exact st_yes h (h1 rfl)
  | false => exact st_no h (h2 rfl)
theorem st_forR {D : Ends} {tl : TA} {t : TS} {j n : Nat} (h : ValA tl σ H [.int (n : Int)]) (hn : n < 2 ^ 62) (Pv : Nat → L2.St → Hp → Prop) (h0 : Pv 0 σ H)
    (hs : ∀ i σ' H', i < n → Pv i σ' H' → t { D with nx := Pv (i + 1), ct := Pv (i + 1), bk := D.nx } (σ'.set j (some (.int (i : Int)))) H') (hd : ∀ σ' H', Pv n σ' H' → D.nx σ' H') : tFor (iRng1 tl) (gName j) t D σ H :=
  h _ ⟨(n : Int), rfl, by omega, by omega, for_range (lo := 0) (n := n) Pv h0 (fun i σ' H' hi p => by
    show t _ (σ'.set j (some (.int (0 + (i : Int))))) H'
    rw [Int.zero_add]
    exact hs i σ' H' hi p) hd⟩
theorem st_forL {D : Ends} {tl : TE} {t : TS} {j : Nat} (h : Val tl σ H (.ref p)) (hx : SqL K H p xs) (Pv : Nat → L2.St → Hp → Prop) (h0 : Pv 0 σ H) (hl : ∀ i σ' H', i ≤ xs.length → Pv i σ' H' → SqL K H' p xs)
    (hs : ∀ i x σ' H', xs[i]? = some x → Pv i σ' H' → t { D with nx := Pv (i + 1), ct := Pv (i + 1), bk := D.nx } (σ'.set j (some x)) H') (hd : ∀ σ' H', Pv xs.length σ' H' → D.nx σ' H') : tFor (iList K tl) (gName j) t D σ H :=
  h _ ⟨p, rfl, ⟨xs, hx⟩, for_list Pv h0 hl hs hd⟩
end

/-! ### readings that may make new things -/
section
open Evl
variable {K : PySem.W.Frag} {σ : L2.St} {H : Hp} {ta tb te : TE} {x y v : V} {p : Addr} {xs ys : List V}
theorem ev_val (h : ∀ H1, Ex H H1 → Val te σ H1 v) : Ev te σ H v := fun H1 e Q q => h H1 e Q (q H1 (Ex.refl _))
theorem et_ans {t : TT} {b : Bool} (h : ∀ H1, Ex H H1 → Ans t σ H1 b) : EvT t σ H b := fun H1 e Q q => h H1 e Q (q H1 (Ex.refl _))
theorem ev_meth {C a : Addr} {m : Str} {sp : Sp} {dvs vs : List V} {E : XK} {tl : TA} {dx : Addr} {fs : List (Str × V)} (h : Ev ta σ H (.ref a)) (ho : H a = some (.ins C dx fs)) (hn : fs.lookup m = none) (hv : EvA tl σ H vs)
    (hs : SpV sp (.ref a :: (vs ++ dvs)) H v) : Ev (tMeth C m sp dvs E ta tl) σ H v := fun H1 e Q q => h H1 e _ fun H2 e2 => ⟨a, dx, fs, rfl, e2 _ _ (e _ _ ho), hn, hv H2 (e.trans e2) _ fun H3 e3 => hs H3 ((e.trans e2).trans e3) Q (fun H4 e4 => q H4 ((e2.trans e3).trans e4)) E⟩
theorem el_meth {C a : Addr} {m : Str} {sp : Sp} {dvs vs : List V} {E : XK} {tl : TA} {dx : Addr} {fs : List (Str × V)} (h : Ev ta σ H (.ref a)) (ho : H a = some (.ins C dx fs)) (hn : fs.lookup m = none) (hv : EvA tl σ H vs)
    (hs : SpL sp (.ref a :: (vs ++ dvs)) H xs) : EvL (tMeth C m sp dvs E ta tl) σ H xs := fun H1 e Q q => h H1 e _ fun H2 e2 => ⟨a, dx, fs, rfl, e2 _ _ (e _ _ ho), hn, hv H2 (e.trans e2) _ fun H3 e3 => hs H3 ((e.trans e2).trans e3) Q (fun p H4 hp e4 h4 => q p H4 (fresh_back (e2.trans e3) hp) ((e2.trans e3).trans e4) h4) E⟩
/-- a call one of whose arguments is a new list: the value by what the list holds -/
theorem ev_callL {sp : Sp} {dvs : List V} {E : XK} {tr : TA} {vs : List V} (h : EvL te σ H xs) (hr : EvA tr σ H vs) (hs : ∀ p H1, H1 p = some (.lst xs) → Ex H H1 → SpV sp (.ref p :: (vs ++ dvs)) H1 v) : Ev (tCall sp dvs E (tCons te tr)) σ H v := fun H1 e Q q =>
  h H1 e _ fun p H2 _ e2 h2 => hr H2 (e.trans e2) _ fun H3 e3 => hs p H3 (e3 _ _ h2) ((e.trans e2).trans e3) H3 (Ex.refl _) Q (fun H4 e4 => q H4 ((e2.trans e3).trans e4)) E
/-- a built-in of a new list -/
theorem ev_cbL {r : List V → Hp → VK → Prop} (h : EvL te σ H xs) (hs : ∀ p H1, H1 p = some (.lst xs) → Ex H H1 → RC r [.ref p] H1 v) : Ev (tCB r (tCons te tNil)) σ H v := fun H1 e Q q =>
  h H1 e _ fun p H2 _ e2 h2 => hs p H2 h2 (e.trans e2) H2 (Ex.refl _) Q (fun H3 e3 => q H3 (e2.trans e3))
theorem rc_of {r : List V → Hp → VK → Prop} {vs : List V} (h : ∀ H1, Ex H H1 → ∀ Q : VK, Q v H1 → r vs H1 Q) : RC r vs H v := fun H1 e Q q => h H1 e Q (q H1 (Ex.refl _))
theorem ev_sum {ns : List Int} (h : EvL te σ H (ns.map V.int)) : Ev (tCB (rSum K) (tCons te tNil)) σ H (.int ns.sum) := ev_cbL h fun p H1 h1 _ => rc_of fun H2 e _ q => ⟨p, ns, rfl, ex_l e (sq_of h1), q⟩
theorem ev_sumV {ns : List Int} (h : Ev te σ H (.ref p)) (hs : SqL K H p (ns.map V.int)) : Ev (tCB (rSum K) (tCons te tNil)) σ H (.int ns.sum) := fun H1 e Q q =>
  h H1 e _ fun H2 e2 => ⟨p, ns, rfl, ex_l (e.trans e2) hs, q H2 e2⟩
theorem ev_lenV (h : Ev te σ H (.ref p)) (hs : SqL K H p xs) : Ev (tCB (rLn K) (tCons te tNil)) σ H (.int (xs.length : Int)) := fun H1 e Q q =>
  h H1 e _ fun H2 e2 => ⟨p, xs, rfl, .inl (ex_l (e.trans e2) hs), q H2 e2⟩
theorem ev_fld {C dx a : Addr} {fs : List (Str × V)} {f : Str} (h : Ev ta σ H (.ref a)) (ho : H a = some (.ins C dx fs)) (hc : Cls K C) (hn : NoAttr K C f) (hl : fs.lookup f = some v) : Ev (tFld K ta f) σ H v := fun H1 e Q q =>
  h H1 e _ fun H2 e2 => ⟨a, C, dx, fs, v, rfl, e2 _ _ (e _ _ ho), hc, hn, hl, q H2 e2⟩
/-- xs + ys, both new -/
theorem el_cat (h : EvL ta σ H xs) (h' : EvL tb σ H ys) (hz : xs.length + ys.length ≤ 100000) : EvL (tOp rCat ta tb) σ H (xs ++ ys) := fun H1 e Q q =>
  h H1 e _ fun p H2 _ e2 h2 => h' H2 (e.trans e2) _ fun r H3 _ e3 h3 => ⟨p, r, xs, ys, rfl, rfl, e3 _ _ h2, h3, sz_of hz, fun u hu => q u _ (fresh_back (e2.trans e3) hu) ((e2.trans e3).trans (Ex.new hu)) upd_same⟩
theorem el_lst0 : EvL (tLst tNil) σ H [] := el_lst ea_nil (by decide)
/-- an item of a new list -/
theorem ev_ixN {i : Int} (h : EvL ta σ H xs) (hi : ∀ H1, Ex H H1 → Ev tb σ H1 (.int i)) (e : atI xs i = some v) : Ev (tOp (rIxL K) ta tb) σ H v := ev_opL1 h hi fun p H1 h1 _ => rv_ixL (sq_of h1) e
end

/-! ### slices -/
theorem cut_to {xs : List V} {j : Nat} (h : j ≤ xs.length) : cutV xs none (some (j : Int)) = xs.take j := by
  show (xs.drop (HT.sIx xs.length 0 none)).take (HT.sIx xs.length xs.length (some (j : Int)) - HT.sIx xs.length 0 none) = _
  rw [HT.sIx_none, HT.sIx_nat, Nat.min_eq_left h]
  rfl
theorem cut_from {xs : List V} {j : Nat} (h : j ≤ xs.length) : cutV xs (some (j : Int)) none = xs.drop j := by
  show (xs.drop (HT.sIx xs.length 0 (some (j : Int)))).take (HT.sIx xs.length xs.length none - HT.sIx xs.length 0 (some (j : Int))) = _
  rw [HT.sIx_none, HT.sIx_nat, Nat.min_eq_left h]
  exact List.take_of_length_le (by rw [List.length_drop]; omega)
theorem cut_in {xs : List V} {i j : Nat} (hi : i ≤ xs.length) (h : j ≤ xs.length) : cutV xs (some (i : Int)) (some (j : Int)) = (xs.drop i).take (j - i) := by
  show (xs.drop (HT.sIx xs.length 0 (some (i : Int)))).take (HT.sIx xs.length xs.length (some (j : Int)) - HT.sIx xs.length 0 (some (i : Int))) = _
  rw [HT.sIx_nat, HT.sIx_nat, Nat.min_eq_left h, Nat.min_eq_left hi]
/-! ### a op1 b op2 c op3 d -/
section
open PyProof PyProof.Rows
variable {X : Cx} {a b c d : Expr} {pos : Pos} {ta tb tc td : TE}
def tChain3 (r r' r2 : R2) (ta tb tc td : TE) : TE := fun σ H Q => ta σ H fun x H1 => tb σ H1 fun y H2 => r x y H2 fun z H3 => ∃ k, z = .bl k ∧
  (if k = true then tc σ H3 fun w' H4 => r' y w' H4 fun z2 H5 => ∃ k2, z2 = .bl k2 ∧ (if k2 = true then td σ H5 fun u H6 => r2 w' u H6 Q else Q (.bl false) H5) else Q (.bl false) H3)
theorem pt_chain3 {op op' op2 : CmpOp} {r r' r2 : R2} (ho : OpR X (compareOp op) r) (ho' : OpR X (compareOp op') r') (ho2 : OpR X (compareOp op2) r2) (ha : PE X a ta) (hb : PE X b tb) (hc : PE X c tc) (hd : PE X d td)
    (hm : lastMarks [op, op', op2] [b, c, d] = false := by with_unfolding_all rfl) : PT X (.Compare a [op, op', op2] [b, c, d] pos) (tTest (tChain3 r r' r2 ta tb tc td)) := by
  refine ⟨fun pins s σ H Q I h => ?_⟩
  refine isTrue_chain (thn (ha.run pins s σ H _ I h) fun v s1 ⟨x, H1, I1, r1, q1⟩ => test_link (thn (hb.run pins s1 σ H1 _ I1 q1) fun u s2 ⟨y, H2, I2, r2, q2⟩ =>
    thn (ho pins s2 σ H2 x y v u _ I2 r1 r2 q2) fun d s3 ⟨z, H3, I3, r3, k, e, q3⟩ => ?_)) hm
  subst e
  cases r3
  refine wpAny_truthy_bool ?_
  cases k with
  | false =>
    obtain ⟨k', e', q'⟩ := q3
    cases e'
    exact ite_ff ⟨H3, I3, q'⟩
  | true =>
    refine ite_tt (test_link (thn (hc.run pins s3 σ H3 _ I3 q3) fun w' s4 ⟨z', H4, I4, r4, q4⟩ => thn (ho' pins s4 σ H4 y z' u w' _ I4 r2 r4 q4) fun d' s5 ⟨z2, H5, I5, r5, k2, e2, q5⟩ => ?_))
    subst e2
    cases r5
    refine wpAny_truthy_bool ?_
    cases k2 with
    | false =>
      obtain ⟨k', e', q'⟩ := q5
      cases e'
      exact ite_ff ⟨H5, I5, q'⟩
    | true =>
      refine ite_tt (test_last (thn (hd.run pins s5 σ H5 _ I5 q5) fun w2 s6 ⟨z3, H6, I6, r6, q6⟩ => thn (ho2 pins s6 σ H6 z' z3 w' w2 _ I6 r4 r6 q6) fun d2 s7 ⟨z4, H7, I7, r7, k3, e3, q7⟩ => ?_))
      subst e3
      cases r7
      exact wpAny_truthy_bool ⟨H7, I7, q7⟩
theorem val_chain3 {σ : L2.St} {H : Hp} {g g' g2 : Int → Int → Bool} {a b c d : Int} (h1 : Val ta σ H (.int a)) (h2 : Val tb σ H (.int b)) (h3 : Val tc σ H (.int c)) (h4 : Val td σ H (.int d)) :
    Val (tChain3 (rI0 fun i j => .bl (g i j)) (rI0 fun i j => .bl (g' i j)) (rI0 fun i j => .bl (g2 i j)) ta tb tc td) σ H (.bl (g a b && (g' b c && g2 c d))) := fun Q q => by
  refine h1 _ (h2 _ ⟨a, b, rfl, rfl, g a b, rfl, ?_⟩)
  cases e : g a b with
  | true =>
    refine iteT (h3 _ ⟨b, c, rfl, rfl, g' b c, rfl, ?_⟩)
    cases e2 : g' b c with
    | true => exact iteT (h4 _ ⟨c, d, rfl, rfl, by rw [e, e2] at q; exact q⟩)
    | false => exact iteF (by rw [e, e2] at q; exact q)
  | false => exact iteF (by rw [e] at q; exact q)
end

/-! ### a dict of ints under ints -/
def tk (ks : List Int) (c : Int → Int) : List (Key × V) := ks.map fun s => ((Sum.inl s : Key), V.int (c s))
theorem tk_keys (ks : List Int) (c : Int → Int) : (tk ks c).map (·.1) = ks.map Sum.inl := by
  unfold tk
  rw [List.map_map] <;> rfl
theorem tk_len (ks : List Int) (c : Int → Int) : (tk ks c).length = ks.length := by unfold tk; rw [List.length_map]
theorem tk_val (ks : List Int) (c : Int → Int) (u : Int) : valV (tk ks c) (.inl u) = if u ∈ ks then some (.int (c u)) else none := by
  induction ks with
  | nil => rfl
  | cons s r ih =>
    unfold tk valV at ih ⊢
    rw [List.map_cons, List.find?_cons]
    by_cases h : s = u
    · subst h
      rw [decide_eq_true rfl, if_pos (List.mem_cons_self ..)]
      rfl
    · rw [decide_eq_false (fun q => h (Sum.inl.inj q))]
      show Option.map _ (List.find? _ (List.map _ r)) = _
      rw [ih]
      by_cases h2 : u ∈ r
      · rw [if_pos h2, if_pos (List.mem_cons_of_mem _ h2)]
      · rw [if_neg h2, if_neg (fun q => by
          rcases List.mem_cons.mp q with q | q
          · exact h q.symm
          · exact h2 q)]
theorem tk_congr {ks : List Int} {c c' : Int → Int} (h : ∀ s ∈ ks, c s = c' s) : tk ks c = tk ks c' := List.map_congr_left fun s hs => by rw [h s hs]
theorem tk_put {ks : List Int} {c c' : Int → Int} {u y : Int} (hy : c' u = y) (h : ∀ s, s ≠ u → c s = c' s) : putK (tk ks c) (.inl u) (.int y) = tk (if u ∈ ks then ks else ks ++ [u]) c' := by
  by_cases hu : u ∈ ks
  · rw [if_pos hu]
    unfold putK
    rw [valV_any, tk_val, if_pos hu, if_pos (show (some (V.int (c u))).isSome = true from rfl)]
    unfold tk
    rw [List.map_map]
    refine List.map_congr_left fun s _ => ?_
    show (if (Sum.inl s : Key) = Sum.inl u then ((Sum.inl s : Key), V.int y) else (Sum.inl s, V.int (c s))) = _
    by_cases e : s = u
    · subst e
      rw [if_pos rfl, hy]
    · rw [if_neg (fun q => e (Sum.inl.inj q)), h s e]
  · rw [if_neg hu, putK_new _ (by rw [tk_val, if_neg hu])]
    unfold tk
    rw [List.map_append, List.map_cons, List.map_nil, hy]
    congr 1
    refine List.map_congr_left fun s hs => ?_
    rw [h s (fun e => hu (e ▸ hs))]

/-! ### rows of different ints -/
theorem nodup_le : ∀ {l m : List Int}, l.Nodup → (∀ x ∈ l, x ∈ m) → l.length ≤ m.length
  | [], _, _, _ => Nat.zero_le _
  | x :: r, m, h, hs => by
    have hx := hs x (List.mem_cons_self ..)
    have h1 := List.nodup_cons.mp h
    have := nodup_le (l := r) (m := m.erase x) h1.2 fun y hy => (List.mem_erase_of_ne (fun e : y = x => h1.1 (by rw [← e]; exact hy))).mpr (hs y (List.mem_cons_of_mem _ hy))
    rw [List.length_erase_of_mem hx] at this
    have := List.length_pos_of_mem hx
    rw [List.length_cons]
    omega
theorem asc_eq : ∀ {l m : List Int}, l.Pairwise (· < ·) → m.Pairwise (· < ·) → (∀ x, x ∈ l ↔ x ∈ m) → l = m
  | [], [], _, _, _ => rfl
  | [], y :: m, _, _, h => absurd ((h y).mpr (List.mem_cons_self ..)) (by simp)
  | x :: l, [], _, _, h => absurd ((h x).mp (List.mem_cons_self ..)) (by simp)
  | x :: l, y :: m, hl, hm, h => by
    obtain ⟨hl1, hl2⟩ := List.pairwise_cons.mp hl
    obtain ⟨hm1, hm2⟩ := List.pairwise_cons.mp hm
    have e : x = y := by
      rcases List.mem_cons.mp ((h x).mp (List.mem_cons_self ..)) with e | e
      · exact e
      · rcases List.mem_cons.mp ((h y).mpr (List.mem_cons_self ..)) with e' | e'
        · exact e'.symm
        · have := hm1 x e
          have := hl1 y e'
          omega
    subst e
    rw [asc_eq hl2 hm2 fun z => ⟨fun hz => ?_, fun hz => ?_⟩]
    · rcases List.mem_cons.mp ((h z).mp (List.mem_cons_of_mem _ hz)) with e | e
      · have := hl1 z hz
        omega
      · exact e
    · rcases List.mem_cons.mp ((h z).mpr (List.mem_cons_of_mem _ hz)) with e | e
      · have := hm1 z hz
        omega
      · exact e
theorem asc_of {l : List Int} (h : l.Pairwise (· ≤ ·)) (n : l.Nodup) : l.Pairwise (· < ·) := by
  induction l with
  | nil => exact .nil
  | cons x r ih =>
    obtain ⟨h1, h2⟩ := List.pairwise_cons.mp h
    obtain ⟨n1, n2⟩ := List.nodup_cons.mp n
    refine List.pairwise_cons.mpr ⟨fun y hy => ?_, ih h2 n2⟩
    have := h1 y hy
    have : x ≠ y := fun e => n1 (e ▸ hy)
    omega
theorem asc_nodup {l : List Int} (h : l.Pairwise (· < ·)) : l.Nodup := h.imp fun {a b} q e => by omega
/-- how often the items of ks stand in l, all in all -/
theorem counts_sum : ∀ (l ks : List Int), ks.Nodup → (∀ x ∈ l, x ∈ ks) → (ks.map fun s => ((l.count s : Nat) : Int)).sum = (l.length : Int)
  | [], ks, _, _ => by
    have : (ks.map fun s => (((([] : List Int).count s : Nat)) : Int)) = ks.map fun _ => (0 : Int) := List.map_congr_left fun s _ => by rw [List.count_nil]; rfl
    rw [this]
    clear this
    induction ks with
    | nil => rfl
    | cons s r ih => rw [List.map_cons, List.sum_cons]; simp_all
  | x :: l, ks, hn, h => by
    have ih := counts_sum l ks hn fun y hy => h y (List.mem_cons_of_mem _ hy)
    have hx := h x (List.mem_cons_self ..)
    have key : ∀ ks : List Int, ks.Nodup → (ks.map fun s => (((x :: l).count s : Nat) : Int)).sum = (ks.map fun s => ((l.count s : Nat) : Int)).sum + if x ∈ ks then 1 else 0 := by
      intro ks
      induction ks with
      | nil => intro _; rfl
      | cons s r ih =>
        intro hn
        obtain ⟨n1, n2⟩ := List.nodup_cons.mp hn
        rw [List.map_cons, List.sum_cons, List.map_cons, List.sum_cons, ih n2, List.count_cons]
        by_cases e : x = s
        · subst e
          rw [if_neg n1, if_pos (List.mem_cons_self ..), if_pos (by simp)]
          omega
        · have e1 : (x == s) = false := by simpa using e
          rw [e1]
          by_cases e2 : x ∈ r
          · rw [if_pos e2, if_pos (List.mem_cons_of_mem _ e2)]
            simp
            omega
          · have e3 : ¬ x ∈ s :: r := fun q => by
              rcases List.mem_cons.mp q with q | q
              · exact e q
              · exact e2 q
            rw [if_neg e2, if_neg e3, if_neg (by decide)]
            omega
    rw [key ks hn, ih, if_pos hx, List.length_cons]
    omega
/-! ### range(0, m, 2), range(0, m, 3) -/
theorem rgC_up {m c : Int} (hc : c = 2 ∨ c = 3) (hm : 0 ≤ m) (hm2 : m ≤ 40000) : ∃ n, RgC 0 m c n ∧ ∀ i : Nat, i < n → (i : Int) * c < m := by
  refine ⟨(Builtin.Range.rangeSize 0 m c).toNat, ⟨by omega, by omega, ?_, ?_⟩, fun i hi => ?_⟩
  · unfold Builtin.Range.small Builtin.Range.rangeSize
    simp only [Builtin.Range.rangeFitsLong, Bool.and_eq_true, Bool.or_eq_true, decide_eq_true_eq, beq_iff_eq]
    rcases hc with rfl | rfl <;> simp <;> split <;> omega
  · unfold Builtin.Range.rangeSize
    rcases hc with rfl | rfl <;> simp <;> split <;> omega
  · unfold Builtin.Range.rangeSize at hi
    rcases hc with rfl | rfl <;> simp at hi <;> split at hi <;> omega
theorem q_forR3 {ta : TA} {t : TS} {tz : TS} {D : Ends} {σ : L2.St} {H : Hp} {j : Nat} {m c : Int} (h : Evl.EvA ta σ H [.int 0, .int m, .int c]) (hc : c = 2 ∨ c = 3) (hm : 0 ≤ m ∧ m ≤ 40000) (Pv : Int → L2.St → Hp → Prop) (h0 : ∀ H1, Evl.Ex H H1 → Pv 0 σ H1)
    (hs : ∀ (i : Int) σ' H', 0 ≤ i → i < m → Pv i σ' H' → t { D with nx := Pv (i + c), ct := Pv (i + c), bk := tz D } (σ'.set j (some (.int i))) H') (hd : ∀ i σ' H', Pv i σ' H' → tz D σ' H') : tSeq (tFor (iRng3 ta) (gName j) t) tz D σ H :=
  h H (Evl.Ex.refl H) _ fun H1 e => by
    obtain ⟨n, hn, hb⟩ := rgC_up hc hm.1 hm.2
    refine ⟨0, m, c, n, rfl, hn, for_rangeC (D := { D with nx := tz D }) (fun i σ H => Pv ((i : Int) * c) σ H) (by have := h0 H1 e; rwa [show (((0 : Nat) : Int)) * c = 0 from by simp]) (fun i σ' H' hi p => ?_) (fun σ' H' p => hd _ σ' H' p)⟩
    have := hb i hi
    rw [Int.zero_add, show (((i + 1 : Nat)) : Int) * c = (i : Int) * c + c from by rw [Int.natCast_add, Int.add_mul]; simp]
    exact hs _ σ' H' (by rcases hc with rfl | rfl <;> omega) this p
/-- a suite asked only where the frame has its n slots -/
theorem ps_len {X : Cx} {st : List Stmt} {t : TS} {n : Nat} (hn : X.N.length = n) (h : PSs X st t) : PSs X st (fun D σ H => σ.length = n → t D σ H) := ⟨fun pins s σ H D I hw => h.run pins s σ H D I (hw (I.len.trans hn))⟩
/-! ### several except clauses, each with a name or without -/
abbrev Clause := Value × Option Nat × (Addr → Value → Option Addr → TS)
/-- behind a suite with a name the name's slot is empty -/
def emptied (D : Ends) : Option Nat → Ends
  | none => D
  | some i => { nx := fun τ G => D.nx (τ.set i none) G, rt := D.rt, bk := fun τ G => D.bk (τ.set i none) G, ct := fun τ G => D.ct (τ.set i none) G }
def named (τ : L2.St) (a : Addr) : Option Nat → L2.St
  | none => τ
  | some i => τ.set i (some (.ref a))
/-- what the clauses, one after the other, wish of what the body lets out -/
def wMix (K : PySem.W.Frag) (Wout : WX) (D : Ends) : List Clause → WX
  | [] => Wout
  | (c, o, ts) :: r => fun cls d τ G => ∃ b, PySem.W.exmOne K cls c = some b ∧ (b = true → ∀ a, G a = none → ts a cls d (emptied D o) (named τ a o) G) ∧ (b = false → wMix K Wout D r cls d τ G)
inductive Clauses (X : Cx) : List ExceptHandler → List Clause → Prop
  | nil : Clauses X [] []
  | bare {x : Str} {c : Value} {ts : Addr → Value → Option Addr → TS} {s0 : Stmt} {ss : List Stmt} {p1 p2 : Pos} {hds : List ExceptHandler} {l : List Clause} (hc : Names X x c)
      (hS : ∀ (a : Addr) (oe : Obj) (cls : Value) (d : Option Addr) (pn : List (Addr × Obj)), Zc cls d oe → (∃ vs, oe.data = .fields vs) → PSs (X.suite a ((a, oe) :: pn)) (s0 :: ss) (ts a cls d)) (r : Clauses X hds l) :
      Clauses X (.ExceptHandler (some (.Name x p1)) none (s0 :: ss) p2 :: hds) ((c, none, ts) :: l)
  | as {x n : Str} {i : Nat} {c : Value} {ts : Addr → Value → Option Addr → TS} {s0 : Stmt} {ss : List Stmt} {p1 p2 : Pos} {hds : List ExceptHandler} {l : List Clause} (hi : X.N[i]? = some n) (hk : X.env.kindOf n = some .local) (hc : Names X x c)
      (hS : ∀ (a : Addr) (oe : Obj) (cls : Value) (d : Option Addr) (pn : List (Addr × Obj)), Zc cls d oe → (∃ vs, oe.data = .fields vs) → PSs (X.suite a ((a, oe) :: pn)) (s0 :: ss) (ts a cls d)) (r : Clauses X hds l) :
      Clauses X (.ExceptHandler (some (.Name x p1)) (some n) (s0 :: ss) p2 :: hds) ((c, some i, ts) :: l)
section
variable {X : Cx} {body : List Stmt} {h₀ : ExceptHandler} {hds : List ExceptHandler} {l : List Clause} {pos : Pos} {tb : WX → TS} {Wout : WX}
theorem ps_try_mix (hs : X.stack = X.env :: X.outer) (hf : X.env.frame = some X.env.locals) (hN : X.N.Nodup) (tk : Takes X Wout)
    (hb : ∀ (W : WX) (pn : List (Addr × Obj)) (xe : Value → Shared → Prop), Takes (X.tr pn xe) W → PassesOwn (model X.prog X.w) X.A X.env xe → PSs (X.tr pn xe) body (tb W))
    (hh : Clauses X (h₀ :: hds) l) : PS X (.Try body (h₀ :: hds) [] [] pos) (fun D τ G => tb (wMix X.K Wout D l) D τ G) := by
  constructor
  intro pins s τ G D I h
  have okX := I.ok
  let caught : Value → Shared → Prop := fun e t1 => wpAny (model X.prog X.w) X.A (noteFrame e X.env) (fun _ t2 => wpAny (model X.prog X.w) X.A (setFlight e none) (fun _ t3 => wpAny (model X.prog X.w) X.A (handleBy e X.env (h₀ :: hds)) (SP X pins D) X.xe t3) X.xe t2) X.xe t1
  have back : ∀ (f : Flow) (t : Shared), SP (X.tr (X.pn ++ pins) caught) [] D f t → SP X pins D f t := by
    intro f t q
    cases f with
    | ret u =>
      obtain ⟨v, τ1, G1, J, rv, qq⟩ := q
      exact ⟨v, τ1, G1, J.ofTry okX, rv, qq⟩
    | next =>
      obtain ⟨τ1, G1, J, qq⟩ := q
      exact ⟨τ1, G1, J.ofTry okX, qq⟩
    | brk =>
      obtain ⟨τ1, G1, J, qq⟩ := q
      exact ⟨τ1, G1, J.ofTry okX, qq⟩
    | cont =>
      obtain ⟨τ1, G1, J, qq⟩ := q
      exact ⟨τ1, G1, J.ofTry okX, qq⟩
  refine wpAny_Try_except (wpAny_mono ((hb (wMix X.K Wout D l) (X.pn ++ pins) caught ?tk PassesOwn.looking).run [] s τ G D (I.toTry _) h) ?out fun _ _ he => he)
  case out =>
    intro f t q
    have q' := back f t q
    cases f with
    | next => exact wpAny_execs_nil q'
    | ret u => exact q'
    | brk => exact q'
    | cont => exact q'
  case tk =>
    rintro _ t ⟨a, B, sI, pins1, τ1, G1, cls, d, rfl, J0, nb, up, sky, na, os, ag, wish⟩
    have J := J0.ofTry okX
    rw [show (X.tr (X.pn ++ pins) caught).stack = X.env :: X.outer from hs] at sky
    show wpAny (model X.prog X.w) X.A (noteFrame (.ref a) X.env) _ _ _
    refine Sky.land Zc.steady (okX.frames.trans (congrArg some hs)) hf sky fun h3 fly up3 => ?_
    have J3 : Inv X pins τ1 G1 { t with heap := h3 } := J.landed nb fly.1 (up.trans up3) os ag
    obtain ⟨oe, vs, hget, hz, hdat⟩ := fly.there
    have off : a ∉ frs (X.env :: X.outer) := by
      intro hm
      obtain ⟨_, o1, g1, hne⟩ := fly.2.2.1.mem hm
      rw [hget] at g1
      cases g1
      exact hne _ hdat
    have offL : a ≠ X.env.locals := fun z => off (List.mem_filterMap.mpr ⟨X.env, List.mem_cons_self, by rw [hf, z]⟩)
    have offF : a ∉ X.fs := by
      intro hm
      obtain ⟨e, he, q⟩ := List.mem_filterMap.mp hm
      exact off (List.mem_filterMap.mpr ⟨e, List.mem_cons_of_mem _ he, q⟩)
    have Sus := J3.suite hget hdat na offL offF
    have kindIs : PySem.W.Looks (model X.prog X.w) h3 (typeOf (.ref a)) cls := fun _ _ _ _ look q => wpAny_typeOf_ref (look _ _ hget) (by rw [hz.1]; exact q)
    have reads : ∀ {x : Str} {c : Value} {p : Pos} {Q : Value → Shared → Prop} {E : Value → Shared → Prop}, Names X x c → Q c { t with heap := h3 } → wpAny (model X.prog X.w) (X.A.mark (some (.ref a))) (eval (.Name x p) X.env) Q E { t with heap := h3 } := by
      intro x c p Q E nm q
      obtain ⟨hg, hdbg, own | ⟨free, hv, hnn⟩⟩ := nm
      · exact ld_glob (X := X.suite a ((a, oe) :: (X.pn ++ pins))) Sus hg own q hdbg
      · exact ld_blt (X := X.suite a ((a, oe) :: (X.pn ++ pins))) Sus hg free hv q hnn hdbg
    have walk : ∀ (hs' : List ExceptHandler) (l' : List Clause), Clauses X hs' l' → wMix X.K Wout D l' cls d τ1 G1 → wpAny (model X.prog X.w) X.A (handleBy (.ref a) X.env hs') (SP X pins D) X.xe { t with heap := h3 } := by
      intro hs' l' hk
      induction hk with
      | nil =>
        intro wish
        refine wpAny_handleBy_nil ?_
        obtain ⟨_, _, _, oe', vs', T, _, _, g1, _, g2, g3, _⟩ := id fly
        have flies : wpAny (model X.prog X.w) X.A (setFlight (.ref a) X.env.frame) (fun _ t4 => wpAny (model X.prog X.w) X.A (throw (.ref a) : Sem Flow) (SP X pins D) X.xe t4) X.xe { t with heap := h3 } := by
          rw [hf]
          refine HandSPX.setFlight_upZ fly fun h4 held up4 => wpAny_throw (tk _ _ ⟨a, B, sI, pins, τ1, G1, cls, d, rfl, J, nb, (up.trans up3).trans up4, .inr (.inr ?_), na, os, ag, wish⟩)
          rw [hs]
          exact held
        unfold PySem.passOn
        refine wpAny_bind (wpAny_field g1 g2 g3 ?_)
        rw [if_neg (show ¬ ((Value.ref T == Value.none) = true) by simp)]
        first
          | exact wpAny_bind flies
          | exact wpAny_bind (wpAny_pure (wpAny_bind flies))
      | bare nm hS _ ih =>
        rintro ⟨b, hb1, yes, no⟩
        refine wpAny_handleBy_cons (codeAny_handlers_test ?_) (by intro q; cases q)
        refine reads nm ((PySem.W.exm_one (M := model X.prog X.w) J3.kIn kindIs hb1).here ?_)
        cases b with
        | false => exact ih (no rfl)
        | true =>
          refine codeAny_handlers_suite (HandSPX.lands_againZ fly fun h4 fly4 up4 => ?_)
          obtain ⟨oe4, vs4, hget4, hz4, hdat4⟩ := fly4.there
          have S4 := (J.landed nb fly4.1 ((up.trans up3).trans up4) os ag : Inv X pins τ1 G1 { t with heap := h4 }).suite hget4 hdat4 na offL offF
          refine wpAny_mono ((hS a oe4 cls d (X.pn ++ pins) hz4 ⟨_, hdat4⟩).run [] _ _ G1 _ S4 (yes rfl a na)) (fun f t6 q => ?_) fun _ _ z => z.elim
          cases f with
          | ret u =>
            obtain ⟨v, τ6, G6, S6, rv, q6⟩ := q
            exact ⟨v, τ6, G6, S6.unsuite okX, rv, q6⟩
          | next =>
            obtain ⟨τ6, G6, S6, q6⟩ := q
            exact ⟨τ6, G6, S6.unsuite okX, q6⟩
          | brk =>
            obtain ⟨τ6, G6, S6, q6⟩ := q
            exact ⟨τ6, G6, S6.unsuite okX, q6⟩
          | cont =>
            obtain ⟨τ6, G6, S6, q6⟩ := q
            exact ⟨τ6, G6, S6.unsuite okX, q6⟩
      | @as x n i c ts s0 ss p1 p2 hds2 l2 hi hloc nm hS _ ih =>
        rintro ⟨b, hb1, yes, no⟩
        refine wpAny_handleBy_cons (codeAny_handlers_test ?_) (by intro q; cases q)
        refine reads nm ((PySem.W.exm_one (M := model X.prog X.w) J3.kIn kindIs hb1).here ?_)
        cases b with
        | false => exact ih (no rfl)
        | true =>
          refine codeAny_handlers_suite_as (HandSPX.lands_againZ fly fun h4 fly4 up4 => ?_)
          obtain ⟨oe4, vs4, hget4, hz4, hdat4⟩ := fly4.there
          have S4 := (J.landed nb fly4.1 ((up.trans up3).trans up4) os ag : Inv X pins τ1 G1 { t with heap := h4 }).suite hget4 hdat4 na offL offF
          refine store_ok (X := X.suite a ((a, oe4) :: (X.pn ++ pins))) (v := .ref a) S4 hN hi (.inl hloc) rfl (fun t5 S5 => ?_) (.inr hloc)
          refine wpAny_mono ((hS a oe4 cls d (X.pn ++ pins) hz4 ⟨_, hdat4⟩).run [] t5 _ G1 _ S5 (yes rfl a na)) (fun f t6 q => ?_) fun _ _ z => z.elim
          cases f with
          | ret u =>
            obtain ⟨v, τ6, G6, S6, rv, q6⟩ := q
            exact gone_ok (S6.unsuite okX) hN hi hloc fun t7 J7 => ⟨v, _, _, J7, rv, q6⟩
          | next =>
            obtain ⟨τ6, G6, S6, q6⟩ := q
            exact gone_ok (S6.unsuite okX) hN hi hloc fun t7 J7 => ⟨_, _, J7, q6⟩
          | brk =>
            obtain ⟨τ6, G6, S6, q6⟩ := q
            exact gone_ok (S6.unsuite okX) hN hi hloc fun t7 J7 => ⟨_, _, J7, q6⟩
          | cont =>
            obtain ⟨τ6, G6, S6, q6⟩ := q
            exact gone_ok (S6.unsuite okX) hN hi hloc fun t7 J7 => ⟨_, _, J7, q6⟩
    exact walk _ _ hh wish
end

/-! ### stars, dict comprehensions -/
theorem aStar {X : Cx} (K : PySem.W.Frag) (h : X.K = K) {e : Expr} {es : List Expr} {te : TE} {t : TA} {p : Pos} (he : PE X e te) (hr : PA X es t) (hs : starEach (.Starred e p :: es) X.env = (true, eval e X.env) :: starEach es X.env := by rfl) : PA X (.Starred e p :: es) (StX.tStar K te t) := h ▸ StX.pa_star he hr hs
/-- a dict comprehension over whatever is walked -/
theorem dc_it {J : It} {n : Nat} {G : Hp → Prop} {Y : Nat → Hp → V → Hp → Prop} (w : Walk J n G Y) {g : TG} {tt : TT} {tk tv : TE} {vs : List Nat} {σ : L2.St} {H1 : Hp} {D : Addr} {Qd : Hp → Prop} (Pv : Nat → Hp → Prop) (h0 : Pv 0 (upd H1 D (.dK []))) (hG : ∀ i H, i ≤ n → Pv i H → G H)
    (turn : ∀ i x H H', i < n → Pv i H → Y i H x H' → g x (wipe σ vs) H' fun τ G2 => wipe τ vs = wipe σ vs ∧ tt τ G2 fun b G3 =>
      if b = true then tk τ G3 fun y G4 => tv τ G4 fun z G5 => ∃ kvs k, y = kV k ∧ G5 D = some (.dK kvs) ∧ kvs.length < sizeLine ∧ Pv (i + 1) (upd G5 D (.dK (putK kvs k z))) else Pv (i + 1) G3) (done : ∀ H, Pv n H → Qd H) :
    ∃ W : Nat → Nat → Hp → Prop, (∃ m, W 0 m (upd H1 D (.dK []))) ∧ ∀ i m H, W i m H →
      (J.stop i H ∧ Qd H) ∨ (J.go i H ∧ ∃ Nx : Hp → Prop, (∀ H', Nx H' → ∃ m', m' < m ∧ W (i + 1) m' H') ∧ ∀ x H', J.yld i H x H' → g x (wipe σ vs) H' fun τ G2 => wipe τ vs = wipe σ vs ∧ tt τ G2 fun b G3 =>
        if b = true then tk τ G3 fun y G4 => tv τ G4 fun z G5 => ∃ kvs k, y = kV k ∧ G5 D = some (.dK kvs) ∧ kvs.length < sizeLine ∧ Nx (upd G5 D (.dK (putK kvs k z))) else Nx G3) := by
  refine ⟨fun i m H => m + i = n ∧ Pv i H, ⟨n, rfl, h0⟩, ?_⟩
  rintro i m H ⟨hm, p⟩
  have q := hG i H (by omega) p
  by_cases hi : i = n
  · subst hi
    exact .inl ⟨w.stops H q, done H p⟩
  · have hlt : i < n := by omega
    exact .inr ⟨w.goes i H hlt q, Pv (i + 1), fun H' p' => ⟨m - 1, by omega, by omega, p'⟩, fun x H' y => turn i x H H' hlt p (w.yields i H x H' hlt q y)⟩
theorem mIdx {X : Cx} (K : PySem.W.Frag) (h : X.K = K) : MtR X "list.index" (rIndex K) := h ▸ mt_index
end Tp

set_option Elab.async false
set_option linter.all false
set_option maxRecDepth 100000
set_option maxHeartbeats 4000000
namespace Tp
open PySem PySem.Spec PyProof.Rows L2 Evl
/-! ### rows of bits: what is kept -/
def pre (row : List Int) (i : Nat) : Int := (row.take i).sum
def sums (row : List Int) : List Int := (List.range (row.length + 1)).map (pre row)
def isAt (row : List Int) (d : Int) (i : Nat) : Bool := decide (row[i]? = some d)
/-- the places below n at which d stands -/
def plcTo (row : List Int) (d : Int) (n : Nat) : List Int := ((List.range n).filter (isAt row d)).map fun (i : Nat) => (i : Int)
def plc (row : List Int) (d : Int) : List Int := plcTo row d row.length
theorem pre_zero (row : List Int) : pre row 0 = 0 := rfl
theorem pre_succ {row : List Int} {i : Nat} {z : Int} (h : row[i]? = some z) : pre row (i + 1) = pre row i + z := sum_take h
theorem pre_all (row : List Int) : pre row row.length = row.sum := by unfold pre; rw [List.take_length]
theorem sums_len (row : List Int) : (sums row).length = row.length + 1 := by unfold sums; rw [List.length_map, List.length_range]
theorem sums_at {row : List Int} {i : Nat} (h : i ≤ row.length) : (sums row)[i]? = some (pre row i) := by
  unfold sums
  rw [List.getElem?_map, List.getElem?_range (by omega)] <;> rfl
theorem plcTo_succ {row : List Int} {d : Int} {n : Nat} : plcTo row d (n + 1) = if isAt row d n = true then plcTo row d n ++ [(n : Int)] else plcTo row d n := by
  unfold plcTo
  rw [List.range_succ, List.filter_append, List.map_append, List.filter_cons]
  by_cases h : isAt row d n = true
  · rw [if_pos h, if_pos h] <;> rfl
  · rw [if_neg h, if_neg h]
    show _ ++ [] = _
    rw [List.append_nil]
theorem plcTo_len (row : List Int) (d : Int) (n : Nat) : (plcTo row d n).length ≤ n := by
  unfold plcTo
  rw [List.length_map]
  have h := List.length_filter_le (isAt row d) (List.range n)
  rwa [List.length_range] at h
theorem int_at {ns : List Int} {i : Nat} {x : V} (h : (ns.map V.int)[i]? = some x) : ∃ z, ns[i]? = some z ∧ x = .int z := by
  rw [List.getElem?_map] at h
  cases e : ns[i]? with
  | none =>
    rw [e] at h
    cases h
  | some z =>
    rw [e] at h
    exact ⟨z, rfl, (Option.some.inj h).symm⟩
theorem at_int {ns : List Int} {i : Nat} {z : Int} (h : ns[i]? = some z) : (ns.map V.int)[i]? = some (V.int z) := by rw [List.getElem?_map, h] <;> rfl
theorem lt_of_at {α : Type} {l : List α} {i : Nat} {x : α} (h : l[i]? = some x) : i < l.length := (List.getElem?_eq_some_iff.mp h).1
theorem small9 {n : Nat} (h : n ≤ 100000) : n < sizeLine := Nat.lt_of_le_of_lt h (by decide)
end Tp


set_option Elab.async false
set_option linter.all false
set_option maxRecDepth 100000
set_option maxHeartbeats 4000000
namespace Tp
open PySem PySem.Spec PyProof.Rows L2 Evl RT
/-! ### list(reversed(x)), x a list -/
section
variable {prog : Program} {w : World} {A : Around} {E : Value → Shared → Prop} {s : Shared}
theorem extendRev {R : Result → Shared → Prop} {S it l : Addr} {items : Array Value} {c₀ : Nat} (res : Value) (hh : A.handled = none) (hit : s.heap.IsRevIter it l ((items.size : Int) - 1)) (hl : s.heap.IsList l items) (ne1 : l ≠ it) (ne2 : S ≠ it) (ne3 : S ≠ l) (hn : items.size ≤ sizeLine)
    (hS : s.heap.get? S = some { cls := .type "list", data := .seq #[] c₀ })
    (hR : ∀ (h' : Heap) (tk : Nat) (acc : Array Value) (c' : Nat), (∀ b o, b ≠ S → b ≠ it → s.heap.get? b = some o → h'.get? b = some o) → h'.get? S = some { cls := .type "list", dict := none, data := .seq acc c', slots := #[] } → ItemsOf (fun i v => items[items.size - 1 - i]? = some v) acc items.size → R (.ok (.ret res)) { s with heap := h', toks := tk }) :
    wpAny (model prog w) A.in1 (Builtin.List.listExtendWith (.ref S) (.ref it) res) (fun fin s' => match fin with | .done f => R (.ok f) s' | .again c' => c'.quiet = true ∧ codeAny (model prog w) A c' R s') (fun e s' => R (.error e) s') s := by
  have walk := (Walks.listRev (prog := prog) (w := w) (A := A.in1) hh it l ne1 items).toS
  have out : S ∉ [it, l] := by
    simp only [List.mem_cons, List.not_mem_nil, or_false, not_or]
    exact ⟨ne2, ne3⟩
  have kind : s.TypeIs (.ref it) "list_reverseiterator" := hit.typeIs
  have other : Builtin.List.listSameRef (.ref S) (.ref it) = false := by simp [Builtin.List.listSameRef, ne2]
  unfold Builtin.List.listExtendWith
  refine wpAny_bind (wpAny_typeOf kind ?_)
  rw [if_neg (by rw [other]; decide)]
  refine wpAny_bind (wpAny_pyIter_revIter hit (wpAny_bind (wpAny_holding ?_)))
  unfold Builtin.List.listLengthHint
  refine wpAny_bind (wpAny_specialOf kind nolen_lri ?_)
  show wpAny _ A.in1 (specialOf (Value.ref it) (Str.ofString "__length_hint__") >>= _) _ _ _
  refine wpAny_bind (wpAny_specialOf kind hint_lri ?_)
  generalize hd : ("list_reverseiterator.__length_hint__" : String) = named
  wp_delta
  rw [show splitId named = some ("list_reverseiterator", "__length_hint__") by subst hd; decide +kernel]
  subst hd
  refine wpAny_bind (wpAny_isInstance (b := true) kind (by rw [isSubtype_type]; kernel_rfl) (wpAny_pure ?_))
  rw [if_neg (by decide)]
  have e0 : ((items.size : Nat) : Int) - 1 - ((0 : Nat) : Int) = (items.size : Int) - 1 := by omega
  refine wpAny_pure ⟨plainId_quiet F.plain_extend_loop _, codeAny_extend_loopS walk hn _ out _ items.size 0 _ _ _ rfl (Nat.zero_le _) ⟨Nat.zero_le _, by rw [e0]; exact hit, hl⟩ hS (ItemsOf.nil _) fun s' acc c' mv hS' hacc => ?_⟩
  rw [Moved.eq_with mv]
  refine hR s'.heap s'.toks acc c' (fun b o n1 n2 e => mv.heap b o (fun hm => ?_) e) hS' hacc
  rcases List.mem_cons.mp hm with z | z
  · exact n1 z
  · exact n2 (List.mem_singleton.mp z)
theorem listRev {it l : Addr} {items : Array Value} {Q : Value → Shared → Prop} (hh : A.handled = none) (hit : s.heap.IsRevIter it l ((items.size : Int) - 1)) (hl : s.heap.IsList l items) (ne1 : l ≠ it) (hn : items.size ≤ sizeLine)
    (hQ : ∀ (h' : Heap) (tk : Nat) (acc : Array Value) (c' : Nat), (∀ b o, b ≠ it → s.heap.get? b = some o → h'.get? b = some o) → h'.get? s.heap.objs.size = some { cls := .type "list", dict := none, data := .seq acc c', slots := #[] } → ItemsOf (fun i v => items[items.size - 1 - i]? = some v) acc items.size → Q (.ref s.heap.objs.size) { s with heap := h', toks := tk }) :
    wpAny (model prog w) A (call (.type "list") [.ref it]) Q E s := by
  refine callType_codes (Q₁ := fun obj t => obj = .ref s.heap.objs.size ∧ t = { s with heap := s.heap.push { cls := .type "list", data := .seq #[] } }) F.called_list (F.typeCall_list_1 _) F.entry_list_init (code_list_new _ ⟨rfl, rfl⟩) ?_
  rintro _ _ ⟨rfl, rfl⟩
  obtain ⟨oi, hoi, _⟩ := id hit
  obtain ⟨ol, hol, _⟩ := id hl
  have n2 : s.heap.objs.size ≠ it := Nat.ne_of_gt (Heap.lt_size hoi)
  have n3 : s.heap.objs.size ≠ l := Nat.ne_of_gt (Heap.lt_size hol)
  have made : (s.heap.push { cls := .type "list", data := .seq #[] }).get? s.heap.objs.size = some { cls := .type "list", data := .seq #[] } := Heap.get?_push_size _ rfl
  refine ⟨⟨_, made, rfl⟩, F.args_list_init_2 _ _, ?_⟩
  show wpAny _ A.in1.in1 (do let old ← Builtin.List.listItems (.ref s.heap.objs.size); Builtin.List.listUpdate (.ref s.heap.objs.size) (fun _ => #[]); letGo old.toList.reverse; Builtin.List.listExtendWith (.ref s.heap.objs.size) (.ref it) .none) _ _ _
  refine wpAny_bind ?_
  unfold Builtin.List.listItems
  refine wpAny_bind (wpAny_seqItems made rfl (wpAny_pure ?_))
  show wpAny _ A.in1.in1 (updateSeq s.heap.objs.size (fun _ => #[]) >>= fun _ => letGo (#[] : Array Value).toList.reverse >>= fun _ => Builtin.List.listExtendWith (.ref s.heap.objs.size) (.ref it) .none) _ _ _
  refine wpAny_bind (wpAny_updateSeq made rfl ?_)
  have empty := Heap.get?_update_self (Obj.mapSeq (fun _ => (#[] : Array Value))) made rfl
  have oth : ∀ b o, b ≠ s.heap.objs.size → s.heap.get? b = some o → ((s.heap.push { cls := .type "list", data := .seq #[] }).update s.heap.objs.size (Obj.mapSeq (fun _ => (#[] : Array Value)))).get? b = some o :=
    fun b o hb e => (Heap.get?_update_other _ _ (Ne.symm hb)).trans (Heap.get?_push_of_some _ e)
  refine wpAny_bind (wpAny_letGo ?_)
  refine extendRev (A := A.in1) .none hh (hit.at fun o e => oth _ o (Ne.symm n2) e) ?_ ne1 n2 n3 hn empty fun h' tk acc c' keep hS' hacc => ⟨rfl, hQ h' tk acc c' (fun b o hb e => keep b o (Nat.ne_of_lt (Heap.lt_size e)) hb (oth b o (Nat.ne_of_lt (Heap.lt_size e)) e)) hS' hacc⟩
  obtain ⟨o, ho, r⟩ := hl
  exact ⟨o, oth _ _ (Ne.symm n3) ho, r⟩
end
def tLstRev (K : PySem.W.Frag) (te : TE) : TE := fun τ G Q => te τ G fun v G1 => ∃ (a : Addr) (xs : List V), v = .ref a ∧ SqL K G1 a xs ∧ ∀ q, G1 q = none → Q (.ref q) (upd G1 q (.lst xs.reverse))
theorem pe_lstRev {X : Cx} (K : PySem.W.Frag) (h : X.K = K) {e : Expr} {te : TE} {p p2 pos pos2 : Pos} (hc : X.calm = true) (hg : Gl X "list") (hm : X.mg "list" = none) (hg2 : Gl X "reversed") (hm2 : X.mg "reversed" = none) (he : PE X e te)
    (hs : starEach [e] X.env = (false, eval e X.env) :: starEach [] X.env := by rfl)
    (hs2 : starEach [.Call (.Name "reversed" p2) [e] [] pos2] X.env = (false, eval (.Call (.Name "reversed" p2) [e] [] pos2) X.env) :: starEach [] X.env := by rfl) :
    PE X (.Call (.Name "list" p) [.Call (.Name "reversed" p2) [e] [] pos2] [] pos) (tLstRev K te) := by
  subst h
  constructor
  intro pins s τ G Q I h
  refine Call_ (ld_blt I hg hm boot_list (PyProof.Rows.callWith_type1 (args_cons (Call_ (ld_blt I hg2 hm2 PyProof.Rows.boot_reversed (PyProof.Rows.callWith_type1 (args_cons (thn (he.run pins s τ G _ I h) fun u t ⟨v, G1, J, rv, q1⟩ => args_nil ?_) hs) hs rfl))) hs2) hs2 rfl))
  obtain ⟨a, xs, rfl, hq, q⟩ := q1
  obtain rfl : u = Value.ref a := rv
  obtain ⟨its, vals, plain, hz⟩ := J.list hq
  have isl := plain.isList
  refine call_reversed_list isl (args_nil ?_)
  have small : its.toArray.size ≤ sizeLine := by rw [List.size_toArray, ← vals.length]; exact hz
  obtain ⟨ol, hol, _⟩ := id isl
  have apart : a ≠ t.heap.objs.size := Nat.ne_of_lt (Heap.lt_size hol)
  have J2 : Inv X pins τ G1 { t with heap := t.heap.push (revObj a ((its.toArray.size : Int) - 1)) } := J.kept (t' := t.toks) fun b o e => Heap.get?_push_of_some _ e
  obtain ⟨f0, f1, f2, f3, f4, f5⟩ := J.fpOk (H' := G1) (b := t.heap.objs.size) (Nat.le_refl _) (J.hok.fresh (Nat.le_refl _))
  have sz : (t.heap.push (revObj a ((its.toArray.size : Int) - 1))).objs.size = t.heap.objs.size + 1 := Heap.size_push ..
  refine listRev (s := { t with heap := t.heap.push (revObj a ((its.toArray.size : Int) - 1)) }) (J.ok.hd hc) ⟨_, Heap.get?_push_size _ rfl, rfl, rfl⟩ (isl.push _) apart small fun h' tk acc c' keep made items => ?_
  rw [show ({ t with heap := t.heap.push (revObj a ((its.toArray.size : Int) - 1)) } : Shared).heap.objs.size = t.heap.objs.size + 1 from sz] at made ⊢
  refine ⟨.ref _, upd G1 (t.heap.objs.size + 1) (.lst xs.reverse), J.laid (t' := tk) (fun b o e => keep b o (Nat.ne_of_lt (Heap.lt_size e)) (Heap.get?_push_of_some _ e)) (Nat.le_succ _) (show ObjOk X.prog X.w _ _ _ (.lst xs.reverse) from ⟨by rw [List.length_reverse]; exact hz, acc.toList, c', vals_rev vals items, ?_⟩), rfl, q _ (J.hok.fresh (Nat.le_succ _))⟩
  rw [Array.toArray_toList]
  exact made
end Tp


set_option Elab.async false
set_option linter.all false
set_option maxRecDepth 100000
set_option maxHeartbeats 4000000
namespace Tp
open PySem PySem.Spec PyProof.Rows L2 Evl
/-! ### trees -/
inductive Tr where
  | txt (z : Str)
  | el (n : Str) (cs : List Tr)
mutual
def Tr.d : Tr → PyData
  | .txt z => .str z
  | .el n cs => .tuple [.str n, .list (Tr.ds cs)]
def Tr.ds : List Tr → List PyData
  | [] => []
  | c :: cs => c.d :: Tr.ds cs
end
theorem ds_map : ∀ cs : List Tr, Tr.ds cs = cs.map Tr.d
  | [] => rfl
  | c :: cs => by rw [Tr.ds, ds_map cs, List.map_cons]
def Tr.isT : Tr → Bool
  | .txt _ => true
  | .el _ _ => false
def signCs : List Nat := [97, 98, 32, 60, 62, 38, 59, 108, 116, 10, 126, 47]
def okText (m : Nat) (z : Str) : Prop := 1 ≤ z.cps.size ∧ z.cps.size ≤ m ∧ ∀ c ∈ z.cps.toList, c ∈ signCs
def twelve : Str := "ab <>&;lt\n~/"
def fourNames : List Str := ["a", "b", "abcdefghijkl", "c"]
/-- no two texts side by side -/
def apartT : List Tr → Prop
  | [] => True
  | [_] => True
  | a :: b :: r => ¬ (a.isT = true ∧ b.isT = true) ∧ apartT (b :: r)
def okTr : Nat → Tr → Prop
  | _, .txt z => okText 5 z
  | 0, .el _ _ => False
  | k + 1, .el n cs => n ∈ fourNames ∧ cs.length ≤ 3 ∧ apartT cs ∧ ∀ c ∈ cs, okTr k c

/-! ### a document as a text -/
def sL (l : List Nat) : Str := ⟨l.toArray⟩
theorem sL_list (l : List Nat) : (sL l).cps.toList = l := rfl
theorem sL_len (l : List Nat) : (sL l).length = l.length := by
  show l.toArray.size = _
  rw [List.size_toArray]
theorem sL_of (z : Str) : sL z.cps.toList = z := by
  cases z
  rfl
theorem sL_app (a b : List Nat) : sL a ++ sL b = sL (a ++ b) := by
  show (⟨a.toArray ++ b.toArray⟩ : Str) = ⟨(a ++ b).toArray⟩
  rw [List.append_toArray]
theorem sL_ext {x : Str} {l : List Nat} (h : x.cps.toList = l) : x = sL l := by rw [← h, sL_of]
def escC (c : Nat) : List Nat := if c = 60 then [38, 108, 116, 59] else if c = 62 then [38, 103, 116, 59] else if c = 38 then [38, 97, 109, 112, 59] else [c]
def escL (l : List Nat) : List Nat := l.flatMap escC
def esc (z : Str) : Str := sL (escL z.cps.toList)
theorem escC_len (c : Nat) : 1 ≤ (escC c).length ∧ (escC c).length ≤ 5 := by
  unfold escC
  split
  · exact ⟨by decide, by decide⟩
  split
  · exact ⟨by decide, by decide⟩
  split
  · exact ⟨by decide, by decide⟩
  · exact ⟨Nat.le_refl _, by show 1 ≤ 5; decide⟩
theorem escL_len : ∀ l : List Nat, (escL l).length ≤ 5 * l.length
  | [] => Nat.le_refl _
  | c :: l => by
    have h1 := escL_len l
    have h2 := (escC_len c).2
    show (escC c ++ escL l).length ≤ 5 * (l.length + 1)
    rw [List.length_append]
    omega
theorem repl_one (c : Nat) (z : List Nat) : ∀ l : List Nat, StrLaws.replL [c] z l = l.flatMap fun d => if d = c then z else [d]
  | [] => StrLaws.replL_nil
  | d :: l => by
    have ih := repl_one c z l
    rw [List.flatMap_cons]
    by_cases h : d = c
    · subst h
      rw [StrLaws.replL_hit (by simp) (by simp), if_pos rfl]
      show z ++ StrLaws.replL [d] z l = _
      rw [ih]
    · rw [StrLaws.replL_miss (by simpa using h), if_neg h, ih]
      rfl
theorem rep_c {x y z : Str} {c : Nat} (hy : y.cps.toList = [c]) : Txt.replace x y z = sL (x.cps.toList.flatMap fun d => if d = c then z.cps.toList else [d]) := by
  refine sL_ext ?_
  rw [StrLaws.replace_list (by show 1 ≤ y.cps.size; rw [← Array.length_toList, hy]; exact Nat.le_refl _), hy, repl_one]
theorem esc_three (x : Str) : Txt.replace (Txt.replace (Txt.replace x "&" "&amp;") "<" "&lt;") ">" "&gt;" = esc x := by
  have h1 : ("&" : Str).cps.toList = [38] := by decide +kernel
  have h2 : ("<" : Str).cps.toList = [60] := by decide +kernel
  have h3 : (">" : Str).cps.toList = [62] := by decide +kernel
  have g1 : ("&amp;" : Str).cps.toList = [38, 97, 109, 112, 59] := by decide +kernel
  have g2 : ("&lt;" : Str).cps.toList = [38, 108, 116, 59] := by decide +kernel
  have g3 : ("&gt;" : Str).cps.toList = [38, 103, 116, 59] := by decide +kernel
  rw [rep_c h1, rep_c h2, rep_c h3, sL_list, sL_list, g1, g2, g3]
  unfold esc escL
  congr 1
  rw [List.flatMap_assoc, List.flatMap_assoc]
  congr 1
  funext c
  unfold escC
  by_cases a : c = 60
  · subst a; rfl
  by_cases b : c = 62
  · subst b; rfl
  by_cases d : c = 38
  · subst d; rfl
  simp [a, b, d]
theorem join0 (ys : List Str) : Txt.join ⟨#[]⟩ ys = sL (ys.map (·.cps.toList)).flatten := by
  refine sL_ext ?_
  rw [TL.join_eq, show (Str.join ⟨#[]⟩ ys).cps.toList = TL.tl (Str.join ⟨#[]⟩ ys) from rfl, TL.tl_join]
  show TL.joinL [] (ys.map TL.tl) = (ys.map TL.tl).flatten
  generalize ys.map TL.tl = l
  induction l with
  | nil => rfl
  | cons p r ih =>
    cases r with
    | nil => simp [TL.joinL]
    | cons q r =>
      show p ++ ([] ++ TL.joinL [] (q :: r)) = _
      rw [ih, List.nil_append]
      rfl
mutual
/-- the written document; b: no element without parts in short -/
def wr (b : Bool) : Tr → List Nat
  | .txt z => escL z.cps.toList
  | .el n cs => if cs.isEmpty && !b then [60] ++ n.cps.toList ++ [47, 62] else [60] ++ n.cps.toList ++ [62] ++ wrs b cs ++ [60, 47] ++ n.cps.toList ++ [62]
def wrs (b : Bool) : List Tr → List Nat
  | [] => []
  | c :: cs => wr b c ++ wrs b cs
end
theorem wrs_flat (b : Bool) : ∀ cs : List Tr, wrs b cs = (cs.map (wr b)).flatten
  | [] => by rw [wrs]; rfl
  | c :: cs => by rw [wrs, wrs_flat b cs, List.map_cons, List.flatten_cons]
theorem name_len {n : Str} (h : n ∈ fourNames) : n.cps.toList.length ≤ 12 := by
  have : fourNames.all (fun n => decide (n.cps.toList.length ≤ 12)) = true := by decide +kernel
  exact of_decide_eq_true (List.all_eq_true.mp this n h)
def bnd : Nat → Nat
  | 0 => 25
  | k + 1 => 29 + 3 * bnd k
theorem bnd_lo : ∀ k, 25 ≤ bnd k
  | 0 => Nat.le_refl _
  | k + 1 => by
    have := bnd_lo k
    rw [bnd]
    omega
theorem flat_le {m : Nat} : ∀ {l : List (List Nat)}, (∀ x ∈ l, x.length ≤ m) → l.flatten.length ≤ l.length * m
  | [], _ => by simp
  | x :: l, h => by
    have h1 := h x (List.mem_cons_self ..)
    have h2 := flat_le (l := l) fun y hy => h y (List.mem_cons_of_mem _ hy)
    rw [List.flatten_cons, List.length_append, List.length_cons, Nat.succ_mul]
    omega
theorem wr_len (b : Bool) : ∀ {k : Nat} {t : Tr}, okTr k t → (wr b t).length ≤ bnd k
  | k, .txt z, h => by
    have h' : okText 5 z := by cases k <;> exact h
    have h1 := escL_len z.cps.toList
    have h2 : z.cps.toList.length ≤ 5 := by rw [Array.length_toList]; exact h'.2.1
    have h3 := bnd_lo k
    rw [wr]
    omega
  | 0, .el _ _, h => h.elim
  | k + 1, .el n cs, h => by
    obtain ⟨h1, h2, _, h4⟩ := h
    have hn := name_len h1
    rw [wr]
    split
    · have := bnd_lo (k + 1)
      simp only [List.length_append, List.length_cons, List.length_nil]
      omega
    · have h5 : (wrs b cs).length ≤ 3 * bnd k := by
        rw [wrs_flat]
        have := flat_le (l := cs.map (wr b)) (m := bnd k) fun x hx => by
          obtain ⟨c, hc, rfl⟩ := List.mem_map.mp hx
          exact wr_len b (h4 c hc)
        rw [List.length_map] at this
        exact Nat.le_trans this (Nat.mul_le_mul_right _ h2)
      simp only [List.length_append, List.length_cons, List.length_nil]
      rw [bnd]
      omega
theorem bnd_le {k : Nat} (h : k ≤ 5) : bnd k ≤ 10000 := by
  have : ∀ k, k ≤ 5 → bnd k ≤ 10000 := by decide
  exact this k h
end Tp


set_option Elab.async false
set_option linter.all false
set_option maxRecDepth 100000
set_option maxHeartbeats 4000000
namespace Tp
open PySem PySem.Spec PyProof.Rows L2 Evl
/-! ### texts, read from the left -/
/-- what stands from i on -/
def remS (z : Str) (i : Nat) (l : List Nat) : Prop := i ≤ z.cps.size ∧ z.cps.toList.drop i = l
theorem remS.len {z : Str} {i : Nat} {l : List Nat} (h : remS z i l) : i + l.length = z.cps.size := by
  have := congrArg List.length h.2
  rw [List.length_drop, Array.length_toList] at this
  have := h.1
  omega
theorem remS.adv {z : Str} {i : Nat} {a l : List Nat} (h : remS z i (a ++ l)) : remS z (i + a.length) l := by
  have h1 := h.len
  rw [List.length_append] at h1
  refine ⟨by omega, ?_⟩
  rw [← List.drop_drop, h.2, List.drop_left]
theorem remS.ne {z : Str} {i c : Nat} {l : List Nat} (h : remS z i (c :: l)) : i < z.cps.size ∧ z.cps.toList[i]? = some c := by
  have h1 := h.len
  rw [List.length_cons] at h1
  refine ⟨by omega, ?_⟩
  have := congrArg (fun l => l[0]?) h.2
  simpa using this
theorem sw3 {z y : Str} {i : Nat} {l : List Nat} (h : remS z i l) : Txt.startswith3 z y (i : Int) = decide (l.take y.cps.toList.length = y.cps.toList) := by
  have hi := h.1
  have h1 := h.len
  have hf : fromIndex z.length (i : Int) = i := by
    unfold fromIndex
    rw [if_neg (by omega)]
    omega
  unfold Txt.startswith3
  rw [hf, StrLaws.subAt_eq, h.2]
  have hy : y.length = y.cps.toList.length := Array.length_toList.symm
  have hz : z.length = z.cps.size := rfl
  by_cases e : l.take y.cps.toList.length = y.cps.toList
  · have h2 := congrArg List.length e
    rw [List.length_take] at h2
    rw [decide_eq_true e, hy, e]
    simp
    rw [hz]
    have : y.cps.toList.length = y.cps.size := Array.length_toList
    omega
  · rw [decide_eq_false e, hy]
    simp only [Bool.and_eq_false_iff]
    refine .inr ?_
    simpa using e
theorem lt1 (a c : Nat) : (!decide ([c] < [a])) = decide (a ≤ c) := by
  have e : ([c] < [a]) ↔ c < a := by
    rw [List.cons_lt_cons_iff]
    constructor
    · rintro (h | ⟨_, h⟩)
      · exact h
      · cases h
    · exact fun h => .inl h
  by_cases h : c < a
  · rw [decide_eq_true (e.mpr h), decide_eq_false (by omega)]
    rfl
  · rw [decide_eq_false (fun z => h (e.mp z)), decide_eq_true (by omega)]
    rfl
theorem val_chS {σ : L2.St} {H : Hp} {te : TE} {za zb : Str} {a b c : Nat} (h : Val te σ H (.str (sL [c]))) (ea : za.cps.toList = [a]) (eb : zb.cps.toList = [b]) :
    Val (tChain (fun x y H Q => ∃ i j, x = V.str i ∧ y = V.str j ∧ Q (V.bl !decide (j.cps.toList < i.cps.toList)) H) (fun x y H Q => ∃ i j, x = V.str i ∧ y = V.str j ∧ Q (V.bl !decide (j.cps.toList < i.cps.toList)) H) (tC (.str za)) te (tC (.str zb))) σ H (.bl (decide (a ≤ c) && decide (c ≤ b))) := fun Q q => by
  refine h _ ⟨_, _, rfl, rfl, _, rfl, ?_⟩
  rw [ea, sL_list, lt1]
  by_cases e : a ≤ c
  · rw [decide_eq_true e] at q ⊢
    refine iteT ⟨_, _, rfl, rfl, ?_⟩
    rw [eb, sL_list, lt1]
    exact q
  · rw [decide_eq_false e] at q ⊢
    exact iteF q
theorem remS.get {z : Str} {i j : Nat} {l : List Nat} (h : remS z i l) : z.cps.toList[i + j]? = l[j]? := by rw [← h.2, List.getElem?_drop]
theorem remS.drop {z : Str} {i k : Nat} {l : List Nat} (h : remS z i l) (hk : k ≤ l.length) : remS z (i + k) (l.drop k) := by
  have h1 := h.len
  exact ⟨by omega, by rw [← h.2, List.drop_drop]⟩
theorem remS.one {z : Str} {i c : Nat} {l : List Nat} (h : remS z i (c :: l)) : remS z (i + 1) l := h.drop (k := 1) (by simp)
/-- a piece of it -/
theorem remS.cut {z : Str} {i k : Nat} {l : List Nat} (h : remS z i l) : cutS z (some (i : Int)) (some ((i + k : Nat) : Int)) = sL (l.take k) := by
  have h1 := h.len
  have hz : z.length = z.cps.size := rfl
  refine sL_ext ?_
  unfold cutS
  have e1 : HT.sIx z.length 0 (some (i : Int)) = i := by
    rw [HT.sIx_nat]
    omega
  have e2 : HT.sIx z.length z.length (some ((i + k : Nat) : Int)) = min (i + k) z.cps.size := by
    rw [HT.sIx_nat]
    rfl
  rw [e1, e2]
  show (z.cps.toList.drop i).take _ = _
  rw [h.2]
  by_cases hk : i + k ≤ z.cps.size
  · rw [Nat.min_eq_left hk, show i + k - i = k by omega]
  · rw [Nat.min_eq_right (by omega), List.take_of_length_le (by omega), List.take_of_length_le (by omega)]
end Tp


set_option Elab.async false
set_option linter.all false
set_option maxRecDepth 100000
set_option maxHeartbeats 4000000
/-! The head with written dicts and with the tables of code objects. -/
namespace Tp
open PySem PySem.Spec PyProof.Rows L2 Evl
abbrev moreB (fx : List Fx) : PySem.W.Frag → Bool := fun K => fx.all fun f => f.ok K
theorem txt_ofY {fa : List He.Fa} {fn : List He.DefD} {ts : List He.Tab} {tf : List He.Defn} {fx : List Fx} {w : World} {K : PySem.W.Frag} {mg : Str → Option Value} {h g : Heap} (X : K.In h) (G : h.Ns mainGlobals mg) (c : He.SaysX fa fn ts tf (moreB fx) w g K) : Txt fa fn fx K mg :=
  ⟨fun i f e => c.t.d.fact i e, fun i d e => c.t.d.def_ i e, fun i f e => List.all_eq_true.mp c.more f (List.mem_of_getElem? e), fun i x e => He.glo_ok X G (c.t.d.fact i e), fun i x e => He.free_ok X G (c.t.d.fact i e),
    fun i x n e => He.int_ok X G (c.t.d.fact i e), fun i x z e => He.str_ok X G (c.t.d.fact i e)⟩
/-- the written dicts: their keys and hashes -/
def Dics (ts : List He.Tab) (w : World) (K : PySem.W.Frag) : Prop := ∀ (i : Nat) (t : He.Tab), ts[i]? = some t → He.dicW K (t.1 K) = some (He.keysIn w.params t.2)
theorem dics_of {fa : List He.Fa} {fn : List He.DefD} {ts : List He.Tab} {w : World} {K : PySem.W.Frag} (c : He.SaysT fa fn ts w K) : Dics ts w K := fun i t h => by
  have e : ts.map (fun t => He.dicW K (t.1 K)) = ts.map fun t => some (He.keysIn w.params t.2) := congrArg (fun z : He.AlT => z.2) c
  have e2 := congrArg (fun l => l[i]?) e
  simp only [List.getElem?_map, h] at e2
  exact Option.some.inj e2
theorem no_key {P : Params} {x : Str} : ∀ {l : List DictEntry} {ks : List Str}, l.map He.keyOf = He.keysIn P ks → x ∉ ks → l.find? (·.key.isStr x) = none ∧ l.any (·.refKey) = false
  | [], _, _, _ => ⟨rfl, rfl⟩
  | e :: r, [], h, _ => by cases h
  | e :: r, k :: ks, h, hx => by
    have h1 : He.keyOf e :: r.map He.keyOf = some (k, PyData.keyHash P k) :: He.keysIn P ks := h
    injection h1 with h2 h3
    obtain ⟨i1, i2⟩ := no_key h3 fun z => hx (List.mem_cons_of_mem _ z)
    unfold He.keyOf at h2
    split at h2
    · rename_i y t q
      obtain ⟨h5, _⟩ := Prod.mk.inj (Option.some.inj h2)
      have n1 : e.key.isStr x = false := by
        rw [q, PySem.W.isStr_of]
        show Value.isStrOf x (.str y t) = false
        unfold Value.isStrOf
        have : ¬ y = x := fun z => hx (by rw [← z, h5]; exact List.mem_cons_self ..)
        simpa using this
      have n2 : e.refKey = false := by
        unfold DictEntry.refKey
        rw [q]
      refine ⟨?_, ?_⟩
      · rw [List.find?_cons, n1]
        exact i1
      · rw [List.any_cons, n2, i2]
        rfl
    · cases h2
theorem dic_no {K : PySem.W.Frag} {P : Params} {a : Addr} {ks : List Str} {x : Str} (h : He.dicW K a = some (He.keysIn P ks)) (hx : x ∉ ks) : PySem.W.nsIn K a x = some none := by
  unfold He.dicW at h
  split at h
  · rename_i c es n sl q
    split at h
    · obtain ⟨h1, h2⟩ := no_key (Option.some.inj h) hx
      unfold PySem.W.nsIn
      rw [q]
      dsimp only
      rw [h1]
      dsimp only
      rw [if_neg (by rw [h2]; nofun)]
    · cases h
  · cases h
/-- d.get(k), d a written dict with text keys -/
def tKGet (K : PySem.W.Frag) (w : World) (td ty : TE) : TE := fun σ H Q => td σ H fun x H1 => ∃ (a : Addr) (es : Array DictEntry) (n : Nat), x = .ref a ∧ KDict K w a es n ∧ ty σ H1 fun y H2 =>
  ∃ (z : Str) (r : Option Value) (v : V), y = .str z ∧ PySem.W.nsIn K a z = some r ∧ RelV v (r.getD .none) ∧ Q v H2
section
variable {X : Cx} (K : PySem.W.Frag) (w : World)
theorem kget1 (hK : X.K = K) (hw : X.w = w) {o e : Expr} {apos cpos : Pos} {td ty : TE} (ho : PE X o td) (he : PE X e ty) (m : M1 X o "get" apos e cpos) : PE X (.Call (.Attribute o "get" apos) [e] [] cpos) (tKGet K w td ty) := by
  subst hK
  subst hw
  refine ⟨fun pins s σ H Q I h => wpAny_Call_method m.base m.few m.line PySem.F.plainAttrs_dict PySem.F.slot_dict_get PySem.F.type_dict_get (thn (ho.run pins s σ H _ I h) fun u s1 ⟨x, H1, I1, rx, a, es, n, ex, D, q1⟩ => ?_)⟩
  subst ex
  obtain rfl : u = Value.ref a := rx
  have hm1 := PySem.W.mapOf_K (prog := X.prog) (w := X.w) I1.kIn D.at_ D.lit
  refine ⟨hm1.typeIs, fun b q => ?_, ?_⟩
  · cases q
    exact ⟨_, I1.kIn _ _ D.at_, rfl⟩
  rw [m.trees]
  refine Calls.callWith_builtin rfl (Calls.evalArgs_plain (Calls.spliced_cons (thn (he.run pins s1 σ H1 _ I1 q1) fun iv s2 ⟨y, H2, I2, ry, z, r, v, ey, er, rv, q2⟩ => Calls.spliced_nil ?_)))
  subst ey
  obtain ⟨t, rfl⟩ := (show ∃ t, iv = Value.str z t from ry)
  have hm2 := PySem.W.mapOf_K (prog := X.prog) (w := X.w) I2.kIn D.at_ D.lit
  refine call_meetsIn PySem.F.slot_dict_get hm2.typeIs PySem.F.entry_dict_get (PySem.F.args_dict_get_2 _ _) (meets_dict_get (strKind X.prog X.w) a (strKind_is X.prog X.w z t) D.low) ⟨_, hm2, v, H2, I2.tok _, ?_, q2⟩
  rw [PySem.W.find_K D.at_ er]
  exact rv
theorem ixKD (hK : X.K = K) (hw : X.w = w) : IxR X (rIxD K w) := by
  subst hK
  subst hw
  exact ix_kdict
end
/-! ### text times number -/
def repS (n : Nat) (z : Str) : Str := ⟨(List.replicate n z.cps).foldl (· ++ ·) #[]⟩
theorem fold_app : ∀ (n : Nat) (a b : Array Nat), ((List.replicate n a).foldl (· ++ ·) b).toList = b.toList ++ (List.replicate n a.toList).flatten
  | 0, a, b => by simp
  | n + 1, a, b => by
    rw [List.replicate_succ, List.foldl_cons, fold_app n, List.replicate_succ, List.flatten_cons, Array.toList_append, List.append_assoc]
theorem repS_list (n : Nat) (z : Str) : (repS n z).cps.toList = (List.replicate n z.cps.toList).flatten := by
  show ((List.replicate n z.cps).foldl (· ++ ·) #[]).toList = _
  rw [fold_app]
  rfl
theorem op_mulS {X : Cx} : OpR X (binaryOp .Mult) (fun x y H Q => ∃ (z : Str) (n : Int), x = .str z ∧ y = .int n ∧ 0 ≤ n ∧ n ≤ 300000 ∧ 1 ≤ z.length ∧ z.length ≤ 50 ∧ Q (.str (repS n.toNat z)) H) := by
  intro pins s σ H x y v u Q I rx ry h
  obtain ⟨z, n, rfl, rfl, n0, n1, z0, z1, q⟩ := h
  obtain ⟨t, rfl⟩ := rx
  obtain ⟨t', rfl⟩ := ry
  have hlen : z.length * n.toNat ≤ 50 * 300000 := Nat.mul_le_mul z1 (by omega)
  refine PySem.P.mul_str ?_ (fun h1 _ => ?_) (fun _ _ => ?_) ?_
  · rw [decide_eq_false (by omega), decide_eq_false (by omega)]
    rfl
  · have h2 : (50 : Int) ≤ (2 ^ 63 - 1) / n := by
      rw [Int.le_ediv_iff_mul_le (by omega)]
      omega
    omega
  · unfold Builtin.Str.tooLong
    exact decide_eq_false (by have : 50 * 300000 ≤ sizeLine := by decide
                              omega)
  · by_cases a : n < 1
    · rw [if_pos a]
      have : n.toNat = 0 := by omega
      rw [this] at q
      exact ⟨by decide, .str (repS 0 z), H, I.tok _, ⟨_, rfl⟩, q⟩
    · rw [if_neg a]
      by_cases b : n = 1
      · subst b
        have e : repS 1 z = z := by
          show (⟨#[] ++ z.cps⟩ : Str) = z
          rw [Array.empty_append]
        rw [show ((1 : Int) == 1 || z.length == 0) = true from rfl, if_pos rfl]
        refine ⟨.str z, H, I, ⟨_, rfl⟩, ?_⟩
        rw [show (1 : Int).toNat = 1 from rfl, e] at q
        exact q
      · have c : (n == 1 || z.length == 0) = false := by
          rw [Bool.or_eq_false_iff]
          exact ⟨by simpa using b, by have : z.length ≠ 0 := by omega
                                      simpa using this⟩
        rw [c, if_neg nofun]
        refine ⟨?_, .str (repS n.toNat z), H, I.tok _, ⟨_, rfl⟩, q⟩
        have e := congrArg List.length (repS_list n.toNat z)
        rw [Array.length_toList, List.length_flatten, List.map_replicate, List.sum_replicate_nat, Array.length_toList] at e
        have h8 : n.toNat * z.cps.size = z.length * n.toNat := Nat.mul_comm ..
        have h9 : 50 * 300000 ≤ sizeLine := by decide
        show (repS n.toNat z).cps.size ≤ sizeLine
        omega
/-! ### the law's end -/
theorem endsY {l : PySem.W.OpenLaw} {n k : Nat} {q : Program} {loose : List Str} {XP : (Str → Option Value) → Heap → Prop} {YP : World → Heap → Prop} {d : DefRec} {CX : World → CXT} {x : Str} {tf : List He.Defn}
    (hn : l.most = some n) (hn2 : n ≤ sizeLine) (hdf : d.params.defaults = []) (hr : Room k callerA)
    (F : ∀ (w : World) (mg : Str → Option Value) (fa : Addr) (h : Heap), YP w h → h.Ns mainGlobals mg → mg d.name = some (.ref fa) →
      ∃ (K : PySem.W.Frag) (fd : FuncData) (sp : Sp), K.In h ∧ (∀ p ∈ tf, PySem.W.codeHdIn K (He.cT K p).1 (He.cT K p).2 = true) ∧ (∀ p ∈ tf, K.lookup (He.cT K p).2 = none) ∧ (∀ p ∈ tf, h.get? (He.cT K p).2 = some { cls := .none, data := .fields #[] }) ∧ (∀ (s : Shared) (u : Value), BindsTo s fd ⟨[u], []⟩ [(x, u)]) ∧
        (∀ (H : Hp) (a : Addr) (ns : List Int), ns.length ≤ n → (∀ z ∈ ns, Builtin.Int.intBits z ≤ 1048576) → (∀ p ∈ tf, H (He.cT K p).2 = some (.tbl #[])) → SqL K H a (ns.map V.int) → sp [.ref a] H (fun v _ => v = .bl true) fun _ _ _ => False) ∧
        ∀ base : Heap, K.In base → base.Ns mainGlobals mg → (∀ p ∈ tf, LamX.TabB base mg (He.cT K p).1 (He.cT K p).2) → FnOk l.prog w K mg base (CX w) k fa fd [x] sp)
    (hCX : ∀ (w : World) (H : Hp) (s : Shared) (e : Value) (s' : Shared), CX w [] H s (fun _ _ _ => False) e s' → False) :
    PySem.W.WalkO q loose XP YP l.row.toRowW d [] (fun f vs => PySem.call f vs) :=
  LamX.walk_ofTsE hn hn2 hdf hr (fun w mg fa h Y G hm => by
    obtain ⟨K, fd, sp, KX, a1, a2, a3, hb, hsp, hF⟩ := F w mg fa h Y G hm
    have mem : ∀ p ∈ tf.map (He.cT K), ∃ q ∈ tf, He.cT K q = p := fun p hp => List.mem_map.mp hp
    exact ⟨K, KX, fd, tf.map (He.cT K), sp, fun p hp => by obtain ⟨q, h1, rfl⟩ := mem p hp; exact a3 q h1, fun p hp => by obtain ⟨q, h1, rfl⟩ := mem p hp; exact a2 q h1, fun p hp => by obtain ⟨q, h1, rfl⟩ := mem p hp; exact PySem.W.codeHd_of_K KX (a1 q h1), hb,
      fun H a ns h1 h2 h3 h4 => hsp H a ns h1 h2 (fun p hp => h3 _ (List.mem_map.mpr ⟨p, hp, rfl⟩)) h4, fun base h1 h2 h3 => hF base h1 h2 fun p hp => h3 _ (List.mem_map.mpr ⟨p, hp, rfl⟩)⟩) hCX
end Tp


set_option Elab.async false
set_option linter.all false
set_option maxRecDepth 100000
set_option maxHeartbeats 4000000
namespace Tp
open PySem PySem.Spec PyProof.Rows L2 Evl
/-! ### a question's text, as it is to be read -/
/-- read to i, l is left, m steps; or the column and the reason -/
inductive QR where
  | ok (l : List Nat) (i m : Nat)
  | no (c : Nat) (r : Str)
def letB (c : Nat) : Bool := Nat.ble 97 c && Nat.ble c 122
def digB (c : Nat) : Bool := Nat.ble 48 c && Nat.ble c 57
def runL (p : Nat → Bool) : List Nat → Nat
  | [] => 0
  | c :: l => bif p c then runL p l + 1 else 0
theorem runL_le (p : Nat → Bool) : ∀ l : List Nat, runL p l ≤ l.length
  | [] => Nat.le_refl _
  | c :: l => by
    have := runL_le p l
    rw [runL, List.length_cons]
    cases p c with
    | true => exact Nat.succ_le_succ this
    | false => exact Nat.zero_le _
/-- at j < run stands such a sign, at the run's end none -/
theorem runL_at (p : Nat → Bool) : ∀ (l : List Nat) (j : Nat), (j < runL p l → ∃ c, l[j]? = some c ∧ p c = true) ∧ (j = runL p l → ∀ c, l[j]? = some c → p c = false)
  | [], j => ⟨fun h => absurd h (Nat.not_lt_zero _), fun _ c h => by cases h⟩
  | c :: l, j => by
    rw [runL]
    cases hp : p c with
    | false => exact ⟨fun h => absurd h (Nat.not_lt_zero _), fun h d hd => by
        have : j = 0 := h
        subst this
        cases hd
        exact hp⟩
    | true =>
      show (j < runL p l + 1 → _) ∧ (j = runL p l + 1 → _)
      cases j with
      | zero => exact ⟨fun _ => ⟨c, rfl, hp⟩, fun h => by cases h⟩
      | succ j =>
        obtain ⟨h1, h2⟩ := runL_at p l j
        exact ⟨fun h => h1 (by omega), fun h d hd => h2 (by omega) d hd⟩
def qTest (l : List Nat) (i m : Nat) : QR := if l.head? = some 42 ∨ l.head? = some 35 then .ok l.tail (i + 1) m else
  if 1 ≤ runL letB l ∧ runL letB l ≤ 12 then .ok (l.drop (runL letB l)) (i + runL letB l) m else .no (i + 1) "test"
def qNum (below : Bool) (l : List Nat) (i m : Nat) : QR :=
  if below = true ∨ 4 < runL digB l ∨ 5000 < NumText.digitsVal (l.take (runL digB l)) then .no (i + 1) "number" else .ok (l.drop (runL digB l)) (i + runL digB l) m
inductive SR where
  | bad (c : Nat)
  | fin (l : List Nat) (i n : Nat)
def qStr : List Nat → Nat → Nat → SR
  | [], i, n => .fin [] i n
  | [c], i, n => if c = 34 then .fin [c] i n else if c = 92 then .fin [] (i + 1) (n + 1) else if 32 ≤ c ∧ c ≤ 126 then .fin [] (i + 1) (n + 1) else .bad (i + 1)
  | c :: e :: l, i, n => if c = 34 then .fin (c :: e :: l) i n else if c = 92 then (if e = 34 ∨ e = 92 ∨ e = 110 then qStr l (i + 2) (n + 1) else .bad (i + 2))
    else if 32 ≤ c ∧ c ≤ 126 then qStr (e :: l) (i + 1) (n + 1) else .bad (i + 1)
/-- one sign of a string -/
def qSg (c : Nat) (r : List Nat) (i : Nat) : SR := if c = 92 then (match r with
  | [] => .fin [] (i + 1) 0
  | e :: r' => if e = 34 ∨ e = 92 ∨ e = 110 then .fin r' (i + 2) 0 else .bad (i + 2)) else if 32 ≤ c ∧ c ≤ 126 then .fin r (i + 1) 0 else .bad (i + 1)
theorem qStr_nil (i n : Nat) : qStr [] i n = .fin [] i n := by rw [qStr]
theorem qStr_end (r : List Nat) (i n : Nat) : qStr (34 :: r) i n = .fin (34 :: r) i n := by
  cases r with
  | nil => rw [qStr, if_pos rfl]
  | cons e r => rw [qStr, if_pos rfl]
theorem qStr_step {c : Nat} (hc : c ≠ 34) (r : List Nat) (i n : Nat) : qStr (c :: r) i n = match qSg c r i with
    | .bad k => .bad k
    | .fin l' i' _ => qStr l' i' (n + 1) := by
  unfold qSg
  cases r with
  | nil =>
    rw [qStr, if_neg hc]
    split
    · dsimp only
      rw [qStr_nil]
    · split
      · dsimp only
        rw [qStr_nil]
      · rfl
  | cons e r =>
    rw [qStr, if_neg hc]
    split
    · dsimp only
      split <;> rfl
    · split <;> rfl
def qString (l : List Nat) (i m : Nat) : QR := match qStr l.tail (i + 1) 0 with
  | .bad c => .no c "sign"
  | .fin r j n => if r.head? = some 34 ∧ 1 ≤ n ∧ n ≤ 40 then .ok r.tail (j + 1) m else .no (i + 1) "string"
def qClose : QR → QR
  | .no c r => .no c r
  | .ok l i m => if l.head? = some 93 then .ok l.tail (i + 1) m else .no (i + 1) "close"
def qFilter (steps : List Nat → Nat → Nat → QR) (below : Bool) (l : List Nat) (i m : Nat) : QR := qClose
  (if l.tail.head? = some 47 then steps l.tail (i + 1) m else if l.tail.head? = some 34 then qString l.tail (i + 1) m else
    if (match l.tail.head? with | some c => Nat.ble 49 c && Nat.ble c 57 | none => false) = true then qNum below l.tail (i + 1) m else .no (i + 2) "filter")
def qLoop (c : Nat) (step : List Nat → Nat → Nat → QR) : Nat → List Nat → Nat → Nat → QR
  | 0, l, i, m => .ok l i m
  | f + 1, l, i, m => if l.head? = some c then (match step l i m with
    | .ok l' i' m' => qLoop c step f l' i' m'
    | .no k r => .no k r) else .ok l i m
def qThen (a : QR) (f : List Nat → Nat → Nat → QR) : QR := match a with
  | .ok l i m => f l i m
  | .no c r => .no c r
def qAxis (l : List Nat) : Bool := decide (l.tail.head? = some 47)
def qStep (steps : List Nat → Nat → Nat → QR) (deep : Bool) (l : List Nat) (i m : Nat) : QR :=
  if l.head? = some 47 then (if m = 12 then .no (i + 1) "steps" else if deep = true then .no (i + 1) "deep" else
    qThen (qTest (l.drop (bif qAxis l then 2 else 1)) (i + (bif qAxis l then 2 else 1)) (m + 1)) fun l' i' m' => qLoop 91 (qFilter steps (qAxis l)) (l'.length + 1) l' i' m')
  else .no (i + 1) "step"
def qMany (step : List Nat → Nat → Nat → QR) (l : List Nat) (i m : Nat) : QR := qThen (step l i m) fun l' i' m' => qLoop 47 step (l'.length + 1) l' i' m'
/-- k: how many more may stand within one another -/
def qSteps : Nat → List Nat → Nat → Nat → QR
  | 0 => qMany (qStep (fun _ _ _ => .no 0 "") true)
  | k + 1 => qMany (qStep (qSteps k) false)
def qStepK : Nat → List Nat → Nat → Nat → QR
  | 0 => qStep (fun _ _ _ => .no 0 "") true
  | k + 1 => qStep (qSteps k) false
theorem qSteps_eq (k : Nat) : qSteps k = qMany (qStepK k) := by cases k <;> rfl
def qAll (l : List Nat) : QR := qThen (qSteps 3 l 0 0) fun l' i' m' => if l' = [] then .ok l' i' m' else .no (i' + 1) "end"
end Tp


set_option Elab.async false
set_option linter.all false
set_option maxRecDepth 100000
set_option maxHeartbeats 4000000
namespace Tp
open PySem PySem.Spec PyProof.Rows L2 Evl
/-! ### a document's text, as it is to be read -/
abbrev Fram : Type := PySem.Str × List Tr
/-- the open elements, what is left, where, how many nodes; or the place and the reason -/
inductive RR where
  | ok (F : List Fram) (l : List Nat) (i n : Nat)
  | no (i : Nat) (r : PySem.Str)
def sgB (c : Nat) : Bool := Nat.beq c 10 || (Nat.ble 32 c && Nat.ble c 126)
/-- the reason that is told at what is left -/
def why (l : List Nat) (r : PySem.Str) : PySem.Str := match l with
  | [] => "open"
  | c :: _ => bif sgB c then r else "character"
def rdNext (l : List Nat) : Option (List Nat × Nat × Nat) := if l.take 4 = [38, 108, 116, 59] then some (l.drop 4, 4, 60) else if l.take 4 = [38, 103, 116, 59] then some (l.drop 4, 4, 62) else
  if l.take 5 = [38, 97, 109, 112, 59] then some (l.drop 5, 5, 38) else match l with
    | [] => none
    | c :: r => bif sgB c && !(Nat.beq c 38) && !(Nat.beq c 62) then some (r, 1, c) else none
inductive TR where
  | ok (z : List Nat) (l : List Nat) (i n : Nat)
  | no (i : Nat) (r : PySem.Str)
/-- may one more node stand here? -/
def cntR (d : Nat) (l : List Nat) (n : Nat) : Option PySem.Str := if 60 < d then some (why l "deep") else if n = 5000 then some (why l "many") else none
def rdText (d : Nat) : Nat → List Nat → List Nat → Nat → Nat → TR
  | 0, acc, l, i, n => .ok acc l i n
  | f + 1, acc, l, i, n => if l.head? = some 60 then .ok acc l i n else match rdNext l with
    | none => .no i (why l "sign")
    | some (r, k, s) => if acc.length = 200 then .no i (why l "long") else
      if acc = [] then (match cntR d l n with
        | some y => .no i y
        | none => rdText d f (acc ++ [s]) r (i + k) (n + 1)) else rdText d f (acc ++ [s]) r (i + k) n
def addK (F : List Fram) (t : Tr) : List Fram := match F with
  | [] => []
  | f :: r => (f.1, f.2 ++ [t]) :: r
def rdEndTag (F : List Fram) (l : List Nat) (i n : Nat) : RR := if l.head? = some 62 then .ok F l.tail (i + 1) n else .no i (why l "tag")
def nameOk (l : List Nat) : Bool := Nat.ble 1 (runL letB l) && Nat.ble (runL letB l) 12
def rdBegin (F : List Fram) (l : List Nat) (i n : Nat) : RR := if l.tail = [] then .no (i + 1) "open" else match cntR F.length l n with
  | some y => .no i y
  | none => bif nameOk l.tail then (
      let k := runL letB l.tail
      let nm := sL (l.tail.take k)
      let r := l.tail.drop k
      if r.head? = some 47 then rdEndTag (addK F (.el nm [])) r.tail (i + 1 + k + 1) (n + 1) else rdEndTag ((nm, []) :: F) r (i + 1 + k) (n + 1))
    else .no (i + 1) (why l.tail "name")
def popK (F : List Fram) : List Fram := match F with
  | f :: r => addK r (.el f.1 f.2)
  | [] => []
def topN (F : List Fram) : PySem.Str := match F with
  | f :: _ => f.1
  | [] => ""
def rdPop : RR → RR
  | .ok F l i n => .ok (popK F) l i n
  | .no i r => .no i r
def rdEnd (F : List Fram) (l : List Nat) (i n : Nat) : RR := bif nameOk (l.drop 2) then (
    let k := runL letB (l.drop 2)
    let nm := (l.drop 2).take k
    let r := (l.drop 2).drop k
    if nm ≠ (topN F).cps.toList ∧ ¬ (r = [] ∧ (topN F).cps.toList.take k = nm) then .no (i + 2) (why (l.drop 2) "end") else rdPop (rdEndTag F r (i + 2 + k) n))
  else .no (i + 2) (why (l.drop 2) "name")
def rdPart (F : List Fram) (l : List Nat) (i n : Nat) : RR := if l.take 2 = [60, 47] then rdEnd F l i n else if l.head? = some 60 then rdBegin F l i n else
  match rdText F.length (l.length + 1) [] l i n with
    | .ok z l' i' n' => .ok (addK F (.txt (sL z))) l' i' n'
    | .no j r => .no j r
def rdLoop : Nat → List Fram → List Nat → Nat → Nat → RR
  | 0, F, l, i, n => .ok F l i n
  | f + 1, F, l, i, n => if 1 < F.length then (match rdPart F l i n with
    | .ok F' l' i' n' => rdLoop f F' l' i' n'
    | .no j r => .no j r) else .ok F l i n
def rdRoot (l : List Nat) : RR := if l.head? = some 60 then rdBegin [("", [])] l 0 0 else .no 0 (why l "element")
def rdDoc (l : List Nat) : RR := match rdRoot l with
  | .no j r => .no j r
  | .ok F l1 i n => match rdLoop (l1.length + 1) F l1 i n with
    | .no j r => .no j r
    | .ok F' l2 i2 n2 => if l2 = [] then .ok F' l2 i2 n2 else .no i2 (why l2 "more")
theorem rdNext_len {l r : List Nat} {k s : Nat} (h : rdNext l = some (r, k, s)) : 1 ≤ k ∧ k ≤ l.length ∧ r = l.drop k ∧ sgB s = true := by
  unfold rdNext at h
  split at h
  · rename_i e
    cases h
    have := congrArg List.length e
    rw [List.length_take] at this
    exact ⟨by decide, by simp at this; omega, rfl, by decide⟩
  split at h
  · rename_i e
    cases h
    have := congrArg List.length e
    rw [List.length_take] at this
    exact ⟨by decide, by simp at this; omega, rfl, by decide⟩
  split at h
  · rename_i e
    cases h
    have := congrArg List.length e
    rw [List.length_take] at this
    exact ⟨by decide, by simp at this; omega, rfl, by decide⟩
  cases l with
  | nil => cases h
  | cons c r' =>
    dsimp only at h
    cases hc : (sgB c && !(Nat.beq c 38) && !(Nat.beq c 62)) with
    | false => rw [hc] at h; cases h
    | true =>
      rw [hc] at h
      cases h
      exact ⟨Nat.le_refl _, by rw [List.length_cons]; omega, rfl, (Bool.and_eq_true_iff.mp (Bool.and_eq_true_iff.mp hc).1).1⟩
theorem rdText_more {d : Nat} {y l' : List Nat} {i' n' : Nat} : ∀ (f : Nat) (acc l : List Nat) (i n : Nat), acc ≠ [] → rdText d f acc l i n = .ok y l' i' n' → n' = n ∧ l'.length ≤ l.length
  | 0, acc, l, i, n, _, h => by
    rw [rdText] at h
    cases h
    exact ⟨rfl, Nat.le_refl _⟩
  | f + 1, acc, l, i, n, ha, h => by
    rw [rdText] at h
    by_cases h1 : l.head? = some 60
    · rw [if_pos h1] at h
      cases h
      exact ⟨rfl, Nat.le_refl _⟩
    rw [if_neg h1] at h
    cases e : rdNext l with
    | none => rw [e] at h; cases h
    | some p =>
      obtain ⟨r, k, s⟩ := p
      rw [e] at h
      dsimp only at h
      obtain ⟨k1, k2, k3, _⟩ := rdNext_len e
      by_cases h2 : acc.length = 200
      · rw [if_pos h2] at h; cases h
      rw [if_neg h2, if_neg ha] at h
      obtain ⟨g1, g2⟩ := rdText_more f _ r _ n (by simp) h
      refine ⟨g1, ?_⟩
      rw [k3, List.length_drop] at g2
      omega
theorem rdText_first {d f : Nat} {l y l' : List Nat} {i n i' n' : Nat} (h1 : l.head? ≠ some 60) (h : rdText d (f + 1) [] l i n = .ok y l' i' n') : n' = n + 1 ∧ cntR d l n = none ∧ l'.length < l.length := by
  rw [rdText, if_neg h1] at h
  cases e : rdNext l with
  | none => rw [e] at h; cases h
  | some p =>
    obtain ⟨r, k, s⟩ := p
    rw [e] at h
    dsimp only at h
    obtain ⟨k1, k2, k3, _⟩ := rdNext_len e
    rw [if_neg (by decide), if_pos rfl] at h
    cases e2 : cntR d l n with
    | some y => rw [e2] at h; cases h
    | none =>
      rw [e2] at h
      obtain ⟨g1, g2⟩ := rdText_more f _ r _ _ (by simp) h
      refine ⟨g1, rfl, ?_⟩
      rw [k3, List.length_drop] at g2
      omega
/-- the last open element has something in it, unless others are open -/
def WB : List Fram → Prop
  | [] => False
  | [b] => b.2 ≠ []
  | _ :: _ :: _ => True
theorem addK_WB {F : List Fram} {t : Tr} (h : F ≠ []) : WB (addK F t) := by
  match F, h with
  | [f], _ => show f.2 ++ [t] ≠ []; simp
  | f :: g :: r, _ => trivial
theorem rdEndTag_eq {F : List Fram} {l : List Nat} {i n : Nat} {F' : List Fram} {l' : List Nat} {i' n' : Nat} (h : rdEndTag F l i n = .ok F' l' i' n') : F' = F := by
  unfold rdEndTag at h
  split at h
  · cases h; rfl
  · cases h
theorem rdBegin_WB {F : List Fram} {l : List Nat} {i n : Nat} {F' : List Fram} {l' : List Nat} {i' n' : Nat} (hF : F ≠ []) (h : rdBegin F l i n = .ok F' l' i' n') : WB F' := by
  unfold rdBegin at h
  split at h
  · cases h
  split at h
  · cases h
  cases q : nameOk l.tail with
  | false => rw [q] at h; cases h
  | true =>
    rw [q] at h
    simp only [cond_true] at h
    split at h
    · rw [rdEndTag_eq h]
      exact addK_WB hF
    · rw [rdEndTag_eq h]
      match F, hF with
      | f :: r, _ => trivial
theorem rdPart_WB {F : List Fram} {l : List Nat} {i n : Nat} {F' : List Fram} {l' : List Nat} {i' n' : Nat} (hF : 1 < F.length) (h : rdPart F l i n = .ok F' l' i' n') : WB F' := by
  obtain ⟨f, g, r, rfl⟩ : ∃ f g r, F = f :: g :: r := by
    match F, hF with
    | f :: g :: r, _ => exact ⟨f, g, r, rfl⟩
  unfold rdPart at h
  split at h
  · unfold rdEnd at h
    cases q : nameOk (l.drop 2) with
    | false => rw [q] at h; cases h
    | true =>
      rw [q] at h
      simp only [cond_true] at h
      split at h
      · cases h
      · unfold rdEndTag at h
        split at h
        · cases h
          exact addK_WB (F := g :: r) (by simp)
        · cases h
  split at h
  · exact rdBegin_WB (by simp) h
  · split at h
    · cases h
      trivial
    · cases h
end Tp


set_option Elab.async false
set_option linter.all false
set_option maxRecDepth 100000
set_option maxHeartbeats 4000000
namespace Tp
open PySem PySem.Spec PyProof.Rows L2 Evl
/-! ### open elements, top first; the last one is the stack's own -/
mutual
/-- how many nodes a tree has -/
def nod : Tr → Nat
  | .txt _ => 1
  | .el _ cs => 1 + nods cs
def nods : List Tr → Nat
  | [] => 0
  | c :: cs => nod c + nods cs
end
theorem nod_pos : ∀ t : Tr, 1 ≤ nod t
  | .txt _ => by rw [nod]; exact Nat.le_refl _
  | .el _ cs => by rw [nod]; omega
def nb : Nat → Nat
  | 0 => 1
  | k + 1 => 1 + 3 * nb k
theorem nb_lo : ∀ k, 1 ≤ nb k
  | 0 => Nat.le_refl _
  | k + 1 => by rw [nb]; omega
theorem nods_le {m : Nat} : ∀ {cs : List Tr}, (∀ c ∈ cs, nod c ≤ m) → nods cs ≤ cs.length * m
  | [], _ => by rw [nods]; exact Nat.zero_le _
  | c :: cs, h => by
    have h1 := h c (List.mem_cons_self ..)
    have h2 := nods_le (cs := cs) fun y hy => h y (List.mem_cons_of_mem _ hy)
    rw [nods, List.length_cons, Nat.succ_mul]
    omega
theorem nod_le : ∀ {k : Nat} {t : Tr}, okTr k t → nod t ≤ nb k
  | k, .txt z, _ => by rw [nod]; exact nb_lo k
  | 0, .el _ _, h => h.elim
  | k + 1, .el n cs, h => by
    obtain ⟨_, h2, _, h4⟩ := h
    have h5 := nods_le (cs := cs) (m := nb k) fun c hc => nod_le (h4 c hc)
    rw [nod, nb]
    have := Nat.mul_le_mul_right (nb k) h2
    omega
structure Fr where
  t : Addr
  l : Addr
  n : Str
  vs : List V
  ds : List Tr
  rest : List Tr
/-- what is still to be read -/
def remF (b : Bool) : List Fr → List Nat
  | [] => []
  | [f] => wrs b f.rest
  | f :: g :: r => wrs b f.rest ++ 60 :: 47 :: (f.n.cps.toList ++ 62 :: remF b (g :: r))
theorem remF_cons {b : Bool} {f : Fr} {r : List Fr} {c : Tr} {rest : List Tr} (h : f.rest = c :: rest) (f' : Fr) (h' : f'.rest = rest) (hn : f'.n = f.n) : remF b (f :: r) = wr b c ++ remF b (f' :: r) := by
  cases r with
  | nil =>
    show wrs b f.rest = wr b c ++ wrs b f'.rest
    rw [h, h', wrs]
  | cons g r =>
    show wrs b f.rest ++ _ = wr b c ++ (wrs b f'.rest ++ _)
    rw [h, h', wrs, hn, List.append_assoc]
/-- the bottom's parts in the end, when mid stands between what the top has and what it gets -/
def finF (mid : List Tr) : List Fr → List Tr
  | [] => []
  | [f] => f.ds ++ mid ++ f.rest
  | f :: g :: r => finF [.el f.n (f.ds ++ mid ++ f.rest)] (g :: r)
theorem finF_eq {f g : Fr} {r : List Fr} {m m' : List Tr} (e : f.ds ++ m ++ f.rest = g.ds ++ m' ++ g.rest) (hn : f.n = g.n) : finF m (f :: r) = finF m' (g :: r) := by
  cases r with
  | nil => exact e
  | cons h r =>
    show finF [.el f.n (f.ds ++ m ++ f.rest)] (h :: r) = finF [.el g.n (g.ds ++ m' ++ g.rest)] (h :: r)
    rw [e, hn]
def nodF : List Fr → Nat
  | [] => 0
  | f :: r => nods f.rest + nodF r
def lastRest : List Fr → List Tr
  | [] => []
  | [f] => f.rest
  | _ :: g :: r => lastRest (g :: r)
/-- what f holds is data, whatever becomes of the places S -/
def Clo (K : PySem.W.Frag) (S : List Addr) (G : Hp) (vs : List V) (ds : List Tr) : Prop := ∀ G' : Hp, Kp S G G' → DpAll K G' vs (Tr.ds ds)
theorem Clo.step {K : PySem.W.Frag} {S : List Addr} {G G1 : Hp} {vs : List V} {ds : List Tr} (c : Clo K S G vs ds) (e : Kp S G G1) : Clo K S G1 vs ds := fun G' e' => c G' (e.trans e')
theorem Clo.less {K : PySem.W.Frag} {S S' : List Addr} {G : Hp} {vs : List V} {ds : List Tr} (c : Clo K S G vs ds) (h : ∀ a ∈ S', a ∈ S) : Clo K S' G vs ds := fun G' e' => c G' (e'.mono h)
/-- a new place may change too -/
theorem Clo.open {K : PySem.W.Frag} {S S1 : List Addr} {G G1 : Hp} {vs : List V} {ds : List Tr} {l : Addr} (c : Clo K S G vs ds) (e : Kp S G G1) (hl : G l = none) (hS : ∀ a ∈ S1, a = l ∨ a ∈ S) : Clo K S1 G1 vs ds := fun G' e' => c G' fun a o n h => by
  have hal : a ≠ l := fun z => by rw [z, hl] at h; cases h
  exact e' a o (fun z => by
    rcases hS a z with z | z
    · exact hal z
    · exact n z) (e a o n h)
theorem ds_app (as bs : List Tr) : Tr.ds (as ++ bs) = Tr.ds as ++ Tr.ds bs := by rw [ds_map, ds_map, ds_map, List.map_append]
/-- one frame, p: a part of it is open -/
structure FrOK (K : PySem.W.Frag) (H0 : Hp) (S : List Addr) (G : Hp) (p : Nat) (above : List V) (f : Fr) (r : List Fr) : Prop where
  t : G f.t = some (.tup [.str f.n, .ref f.l])
  l : G f.l = some (.lst (f.vs ++ above))
  c : Clo K S G f.vs f.ds
  few : f.ds.length + f.rest.length + p ≤ 3
  ap : apartT f.rest
  ok : ∀ c ∈ f.rest, okTr (5 - r.length) c
  n : r ≠ [] → f.n ∈ fourNames
  h : H0 f.l = none
def FrsOK (K : PySem.W.Frag) (H0 : Hp) (S : List Addr) (G : Hp) : Nat → List V → List Fr → Prop
  | _, _, [] => True
  | p, above, f :: r => FrOK K H0 S G p above f r ∧ FrsOK K H0 S G 1 [.ref f.t] r
theorem FrOK.step {K : PySem.W.Frag} {H0 : Hp} {S S1 S' : List Addr} {G G1 : Hp} {p : Nat} {above : List V} {f : Fr} {r : List Fr} (h : FrOK K H0 S G p above f r) (e : Kp S' G G1) (hl : f.l ∉ S') (ht : ∀ a ∈ S', ∀ xs, G a ≠ some (.tup xs)) (hC : ∀ vs ds, Clo K S G vs ds → Clo K S1 G1 vs ds) : FrOK K H0 S1 G1 p above f r :=
  ⟨e.at h.t fun z => ht _ z _ h.t, e.at h.l hl, hC _ _ h.c, h.few, h.ap, h.ok, h.n, h.h⟩
theorem FrsOK.step {K : PySem.W.Frag} {H0 : Hp} {S S1 S' : List Addr} {G G1 : Hp} (e : Kp S' G G1) (ht : ∀ a ∈ S', ∀ xs, G a ≠ some (.tup xs)) (hC : ∀ vs ds, Clo K S G vs ds → Clo K S1 G1 vs ds) :
    ∀ {r : List Fr} {p : Nat} {above : List V}, (∀ f ∈ r, f.l ∉ S') → FrsOK K H0 S G p above r → FrsOK K H0 S1 G1 p above r
  | [], _, _, _, _ => trivial
  | f :: r, _, _, hl, ⟨h1, h2⟩ => ⟨h1.step e (hl f (List.mem_cons_self ..)) ht hC, FrsOK.step e ht hC (fun g hg => hl g (List.mem_cons_of_mem _ hg)) h2⟩
/-- behind a text stands a tag -/
theorem behind_txt {b : Bool} {z : Str} {rest : List Tr} (h : apartT (.txt z :: rest)) (l : List Nat) : ∃ l', wrs b rest ++ 60 :: l = 60 :: l' := by
  cases rest with
  | nil => exact ⟨l, by rw [wrs]; rfl⟩
  | cons c r =>
    cases c with
    | txt y => exact absurd ⟨rfl, rfl⟩ h.1
    | el n cs =>
      rw [wrs, wr]
      split
      · exact ⟨_, rfl⟩
      · exact ⟨_, rfl⟩
theorem apartT_tail {c : Tr} {r : List Tr} (h : apartT (c :: r)) : apartT r := by
  cases r with
  | nil => trivial
  | cons d r => exact h.2
end Tp


set_option Elab.async false
set_option linter.all false
set_option maxRecDepth 100000
set_option maxHeartbeats 4000000
/-! Generator states are never dropped: what runs leaves as many as there were, or more. -/
namespace Tp
open PySem Sem
variable {M : Model}
theorem setGen_size (s : Shared) (g : Nat) (x : GenState) : (s.setGen g x).gens.size = s.gens.size := by
  unfold Shared.setGen
  simp
theorem runs_size {Γ : Ctx} {p : Pos} {t : Sem PySem.Fin} {fs : List Frame} {s s' : Shared} {e : End} (h : Runs M Γ p t fs s e s') : s.gens.size ≤ s'.gens.size := by
  induction h with
  | done => exact Nat.le_refl _
  | raise => exact Nat.le_refl _
  | yield => exact Nat.le_refl _
  | newGen _ ih =>
    rw [Array.size_push] at ih
    omega
  | call _ _ a b => exact Nat.le_trans a b
  | resumeFresh _ _ _ _ a b =>
    rw [setGen_size] at a b
    exact Nat.le_trans a b
  | resumeSuspended _ _ _ _ a b =>
    rw [setGen_size] at a b
    exact Nat.le_trans a b
  | resumeThrowFresh _ _ a =>
    rw [setGen_size] at a
    exact a
  | segRet _ _ a b => exact Nat.le_trans a b
  | segGen _ _ a b =>
    rw [setGen_size] at b
    exact Nat.le_trans a b
  | segSuspGen _ _ _ _ a b =>
    rw [setGen_size] at b
    exact Nat.le_trans a b
  | _ => assumption
theorem wakes_size {Γ : Ctx} {p : Pos} {g : Nat} {r : Resume} {s s' : Shared} {res : GenResult} (h : Wakes M Γ p g r s res s') : s.gens.size ≤ s'.gens.size := by
  unfold Wakes at h
  split at h
  · exact h.elim
  · split at h
    · obtain ⟨e, s1, hr, _, _, rfl⟩ := h
      have := runs_size hr
      rw [setGen_size] at this ⊢
      exact this
    · rw [h.2]
      exact Nat.le_refl _
    · rw [h.2, setGen_size]
      exact Nat.le_refl _
  · obtain ⟨e, s1, hr, _, _, rfl⟩ := h
    have := runs_size hr
    rw [setGen_size] at this ⊢
    exact this
  · rw [h.2]
    exact Nat.le_refl _
  · rw [h.2]
    exact Nat.le_refl _
theorem wp_size {α : Type} {Γ : Ctx} (n : Nat) (m : Sem α) : ∀ {Q : α → Pos → Shared → Prop} {E : Value → Pos → Shared → Prop} {p : Pos} {s : Shared}, n ≤ s.gens.size → wp M Γ m Q E p s → wp M Γ m (fun a p' s' => Q a p' s' ∧ n ≤ s'.gens.size) E p s := by
  induction m with
  | pure a => exact fun hn h => ⟨h, hn⟩
  | raise e => exact fun _ h => h
  | unsupported w => exact fun _ h => h.elim
  | finish e => exact fun _ h => h.elim
  | register a k => exact fun _ h => h.elim
  | yield v g l k => exact fun _ h => h.elim
  | fork c k => exact fun _ h => h.elim
  | await a f d l k => exact fun _ h => h.elim
  | rule tag k ih => exact fun hn h => ih () hn h
  | «at» p' k ih => exact fun hn h => ih () hn h
  | load a part k ih =>
    rintro Q E p s hn ⟨o, ho, h⟩
    exact ⟨o, ho, ih o hn h⟩
  | update a part f k ih =>
    rintro Q E p s hn ⟨ha, h⟩
    exact ⟨ha, ih () (s := { s with heap := s.heap.update a f }) hn h⟩
  | alloc o k ih =>
    intro Q E p s hn h
    exact ih s.heap.objs.size (s := { s with heap := s.heap.push o }) hn h
  | loadIfAlive a k ih => exact fun hn h => ih _ hn h
  | point l k ih => exact fun hn h => ih () hn h
  | fresh k ih =>
    intro Q E p s hn h
    exact ih s.toks (s := { s with toks := s.toks + 1 }) hn h
  | ask k ih => exact fun hn h => ih _ hn h
  | choose src n k ih =>
    rintro Q E p s hn ⟨h0, h⟩
    exact ⟨h0, ih _ (s := { s with drawn := s.drawn.bump src }) hn h⟩
  | os q l k ih =>
    intro Q E p s hn h
    exact ih _ (s := { s with os := (Os.step s.os q).1 }) hn h
  | call c h g l k ih =>
    rintro Q E p s hn ⟨r, s1, hret, hw⟩
    exact ⟨r, s1, hret, ih r (Nat.le_trans hn (runs_size hret)) hw⟩
  | handled own k ih => exact fun hn h => ih _ hn h
  | newGen c k ih =>
    intro Q E p s hn h
    exact ih s.gens.size (s := { s with gens := s.gens.push (.fresh c) }) (by rw [Array.size_push]; omega) h
  | genState g k ih =>
    rintro Q E p s hn ⟨st, hg, h⟩
    exact ⟨st, hg, ih _ hn h⟩
  | resume g r l k ih =>
    rintro Q E p s hn ⟨res, s1, hwk, h⟩
    exact ⟨res, s1, hwk, ih res (Nat.le_trans hn (wakes_size hwk)) h⟩
  | stack k ih => exact fun hn h => ih _ hn h
  | thread k ih => exact fun hn h => ih _ hn h
theorem wpAny_size {α : Type} {A : Around} {t : Sem α} {Q : α → Shared → Prop} {E : Value → Shared → Prop} {s : Shared} {n : Nat} (hn : n ≤ s.gens.size) (h : wpAny M A t Q E s) : wpAny M A t (fun a s' => Q a s' ∧ n ≤ s'.gens.size) E s :=
  fun Γ p hΓ => wp_size n t hn (h Γ p hΓ)
end Tp


set_option Elab.async false
set_option linter.all false
set_option maxRecDepth 100000
set_option maxHeartbeats 4000000
/-! any, all of a generator expression whose element may call defs: the element is read in the generator's own frame by the hand layer's rules. -/
namespace Tp
open PySem PySem.Spec PyProof.Rows L2 Evl
/-! ### a code object's table, by what is true of it -/
def TabF (P : Addr) : Heap → Prop := fun h => ∃ ps : Array Value, h.get? P = some { cls := .none, data := .fields ps } ∧ TriplesOk ps.toList
def TabO (P : Addr) : HO := .ext (TabF P)
section
variable {X : Cx} {pins : List (Addr × Obj)} {σ : L2.St} {H : Hp} {s : Shared}
theorem tab_ok {P : Program} {w : World} {H : Hp} {h : Heap} {a : Addr} {ps : Array Value} (e : h.get? a = some { cls := .none, data := .fields ps }) (t : TriplesOk ps.toList) : ObjOk P w H h a (TabO a) :=
  ⟨⟨ps, e, t⟩, ⟨_, e⟩, fun h1 h2 ⟨ps, e, t⟩ k => ⟨ps, k _ e, t⟩⟩
/-- the table has grown: the abstract heap stays -/
theorem inv_code {P : Addr} {ps' : Array Value} {h' : Heap} {tk : Nat} (I : Inv X pins σ H s) (hP : H P = some (TabO P)) (k : ∀ b o, b ≠ P → s.heap.get? b = some o → h'.get? b = some o) (hm : h'.get? P = some { cls := .none, data := .fields ps' }) (ht : TriplesOk ps'.toList) :
    Inv X pins σ H { s with heap := h', toks := tk } := by
  have nN : ∀ b, H b = none → b ≠ P := fun b e z => by
    rw [z, hP] at e
    cases e
  have nO : ∀ b u, H b = some u → u ≠ TabO P → b ≠ P := fun b u e q z => by
    rw [z, hP] at e
    exact q (Option.some.inj e).symm
  refine I.step (g' := s.gens) (d' := s.drawn) (ch := []) (fun b hb => absurd hb (by simp)) (fun b o _ _ _ e n => k b o (nN b n) e) (fun b o _ _ _ e n => ⟨o.slots, k b o (nN b n) e⟩) (fun b o _ e n => n) (fun b o _ e => ?_) (fun b xs e => e) (fun b o u e => e) (fun b qs e => ⟨#[], by rw [e]; simp⟩) (fun m hn => ?_) (fun b u e => ?_) I.bare
  · by_cases hb : b = P
    · rw [hb]
      exact ⟨_, hm⟩
    · exact ⟨o, k b o hb e⟩
  · obtain ⟨ob, es, ep, ho, r⟩ := hn
    exact ⟨ob, es, ep, k _ ob (nN _ I.free) ho, r⟩
  · by_cases hb : b = P
    · subst hb
      rw [hP] at e
      cases e
      exact tab_ok hm ht
    · refine (I.hok b u e).stay (fun d v hd q => k d v ?_ q) (fun d q => q) fun d xs q => q
      rcases hd with z | z
      · rw [z]
        exact hb
      · exact nO d _ z (by unfold TabO; nofun)
theorem inv_gens {G : Array GenState} (I : Inv X pins σ H s) (hG : AllBare G) : Inv X pins σ H { s with gens := G } := ⟨I.ok, I.os, hG, I.base, I.loc, I.cell, I.free, I.freeC, I.pin, I.hok, I.len⟩
theorem inv_like {s' : Shared} (I : Inv X pins σ H s) (h1 : s'.heap = s.heap) (h2 : s'.os = s.os) (hG : AllBare s'.gens) : Inv X pins σ H s' := by
  obtain ⟨h', g', d', t', o'⟩ := s'
  have e1 : h' = s.heap := h1
  have e2 : o' = s.os := h2
  subst e1 e2
  exact ⟨I.ok, I.os, hG, I.base, I.loc, I.cell, I.free, I.freeC, I.pin, I.hok, I.len⟩
end
theorem bare_set {s : Shared} {g : Nat} {x : GenState} (h : AllBare s.gens) (hx : x.bare = true) : AllBare (s.setGen g x).gens := by
  intro y hy
  unfold Shared.setGen at hy
  rcases Array.mem_or_eq_of_mem_setIfInBounds hy with q | q
  · exact h y q
  · rw [q]
    exact hx
theorem get_set {s : Shared} {g : Nat} {x : GenState} (h : g < s.gens.size) : (s.setGen g x).gens[g]? = some x := by
  unfold Shared.setGen
  simp [h]
/-! ### the generator's context -/
/-- names of the generator's scope: its own, and captured ones with their places in the def -/
def gnB (N : List Str) (sc scope : Scope) (cs : List (Str × Nat)) : Bool :=
  decide (scope.kind = .function) && (!scope.isCoroutine && (scope.names.all (fun y => !decide (y.2 = .cell) && (!decide (y.2 = .free) || decide (sc.names.lookup y.1 = some .cell) || decide (sc.names.lookup y.1 = some .free))) &&
    (decide (scope.names.lookup (".0" : Str) = some NameKind.local) && cs.all (fun p => decide (scope.names.lookup p.1 = some .free) && decide (N[p.2]? = some p.1)))))
structure GnS (N : List Str) (sc scope : Scope) (cs : List (Str × Nat)) : Prop where
  kind : scope.kind = .function
  co : scope.isCoroutine = false
  cell : ∀ y ∈ scope.names, y.2 ≠ .cell
  free : ∀ y ∈ scope.names, y.2 = .free → sc.names.lookup y.1 = some .cell ∨ sc.names.lookup y.1 = some .free
  dot : scope.names.lookup (".0" : Str) = some NameKind.local
  cap : ∀ p ∈ cs, scope.names.lookup p.1 = some .free ∧ N[p.2]? = some p.1
theorem gnS_by {N : List Str} {sc scope : Scope} {cs : List (Str × Nat)} (h : gnB N sc scope cs = true) : GnS N sc scope cs := by
  unfold gnB at h
  simp only [Bool.and_eq_true, Bool.or_eq_true, Bool.not_eq_true', decide_eq_true_eq, decide_eq_false_iff_not, List.all_eq_true] at h
  obtain ⟨h1, h2, h3, h4, h5⟩ := h
  refine ⟨h1, h2, fun y hy => (h3 y hy).1, fun y hy e => ?_, h4, h5⟩
  rcases (h3 y hy).2 with (z | z) | z
  · exact absurd e z
  · exact .inl z
  · exact .inr z
def σG (o : Nat) (cs : List (Str × Nat)) (σ : L2.St) : L2.St := List.replicate o none ++ cs.map fun p => (σ[p.2]?).getD none
def genCx (X : Cx) (A : Around) (s : Shared) (H : Hp) (cenv : Env) (N : List Str) (fp : List Addr) : Cx :=
  { X with A := A, N := N, s_0 := s, H_0 := H, env := cenv, outer := X.stack, stack := cenv :: X.stack, ex := fp, fn := fun _ => false, calm := true, pn := [], xe := fun _ _ => False }
section
variable {X : Cx} {pins : List (Addr × Obj)} {σ : L2.St} {H : Hp} {s : Shared}
theorem gen_start {own : List Str} {cs : List (Str × Nat)} {A : Around} {scope : Scope} {C : Addr} {code : Value} {h5 : Heap} {g5 : Array GenState} {tk : Nat} {fp : List Addr} {m0 : Str → Option Value} (I : Inv X pins σ H s) (L : GnS X.N X.env.scope scope cs) (hfp : ∀ b ∈ fp, FpOk X pins H b ∧ b < s.heap.objs.size)
    (hcL : s.heap.objs.size ≤ C) (hA : A.handled = none) (hAf : A.frames = some (genEnv scope (cloFrom X.env.cells scope.names []) C code builtinsNs X.env :: X.stack)) (kp : ∀ b o, s.heap.get? b = some o → h5.get? b = some o) (hns : h5.Ns C m0) (hg : AllBare g5) :
    Inv (genCx X A s H (genEnv scope (cloFrom X.env.cells scope.names []) C code builtinsNs X.env) (own ++ cs.map (·.1)) fp) [] (σG own.length cs σ) H { s with heap := h5, gens := g5, toks := tk } := by
  have hfree : ∀ y ∈ scope.names, y.2 = .free → ∃ c, X.env.cells.lookup y.1 = some c := fun y hy e => by
    rcases L.free y hy e with k | k
    · exact I.ok.has _ (.inl k)
    · exact I.ok.has _ (.inr k)
  have cm : ∀ {y c}, (cloFrom X.env.cells scope.names []).lookup y = some c → X.env.cells.lookup y = some c := fun {y c} e => by
    rcases cloFrom_mem (PySem.mem_of_lookup e) with hm | ⟨h1, h2⟩
    · cases hm
    · obtain ⟨c1, hc⟩ := hfree _ h1 rfl
      have hc : X.env.cells.lookup y = some c1 := hc
      have e2 : c = c1 := by
        rw [h2, hc] <;> rfl
      rw [e2]
      exact hc
  have look : ∀ {y}, scope.names.lookup y = some .free → ∃ c, (cloFrom X.env.cells scope.names []).lookup y = some c := fun {y} hl => by
    have hy : (y, NameKind.free) ∈ scope.names := PySem.mem_of_lookup hl
    exact mem_lookup (cloFrom_has (cells := X.env.cells) (acc := []) hy)
  have cellK : ∀ {c : Addr} {v : Option Value}, s.heap.IsCell c v → h5.IsCell c v := fun {c v} z => z.keeps kp
  have e0 := I.env0
  have blt : builtinsNs = X.env.builtins := I.ok.blt.symm
  refine ⟨⟨e0.mod, L.kind, I.ok.glob, rfl, hcL, fun y z c e1 e2 => I.ok.inj y z c (cm e1) (cm e2), fun y hy => ?_, fun y c z _ => ?_, fun _ => hA, hAf, .inr ⟨rfl, rfl⟩, fun b hb => ⟨?_, fun y c e z => ?_⟩, e0.bs, e0.bsz, fun b o e hb => ?_, fun b hb z => ?_, e0.funs, e0.frf⟩,
    rfl, hg, Un.kept kp, ⟨_, hns, fun i y v e1 e2 e3 => ?_⟩, fun y c e => ?_, e0.hok.fresh hcL, fun y c e => ?_, fun q hq => absurd (show q ∈ ([] : List (Addr × Obj)) ++ [] from hq) (by simp), e0.hok.kept kp, ?_⟩
  · have hy : scope.names.lookup y = some .cell ∨ scope.names.lookup y = some .free := hy
    rcases hy with hy | hy
    · exact absurd rfl (L.cell _ (PySem.mem_of_lookup hy))
    · exact look hy
  · have z : false = true := z
    cases z
  · exact Nat.ne_of_lt (Nat.lt_of_lt_of_le (hfp b hb).2 hcL)
  · exact (hfp b hb).1.2.2.2.2.1 y c (cm e) z
  · rcases (hfp b hb).1.2.2.2.1 with z | z
    · exact I.ok.noex b o e z
    · exact absurd (Nat.lt_of_lt_of_le (Heap.lt_size e) (Nat.le_trans I.ok.bsz z)) (Nat.lt_irrefl _)
  · rcases List.mem_cons.mp (I.stkSub b z) with z | z
    · exact (hfp b hb).1.2.1 z
    · exact (hfp b hb).1.2.2.1 z
  · have e1 : (own ++ cs.map (·.1))[i]? = some y := e1
    unfold σG at e2
    by_cases hi : i < own.length
    · rw [List.getElem?_append_left (by rw [List.length_replicate]; exact hi), List.getElem?_replicate] at e2
      split at e2 <;> cases e2
    · rw [List.getElem?_append_right (by rw [List.length_replicate]; omega), List.length_replicate, List.getElem?_map] at e2
      rw [List.getElem?_append_right (by omega), List.getElem?_map] at e1
      cases q : cs[i - own.length]? with
      | none => rw [q] at e1; cases e1
      | some p =>
        rw [q] at e1 e2
        have e1 : p.1 = y := Option.some.inj e1
        have e2 : (σ[p.2]?).getD none = some v := Option.some.inj e2
        obtain ⟨k, hN⟩ := L.cap p (List.mem_of_getElem? q)
        rw [e1] at k hN
        have e2' : σ[p.2]? = some (some v) := by
          cases r : σ[p.2]? with
          | none => rw [r] at e2; cases e2
          | some w' =>
            rw [r] at e2
            have e2 : w' = some v := e2
            rw [e2]
        obtain ⟨m, hn, hl⟩ := I.loc
        have hvis : Vis X.env.scope y := (L.free _ (PySem.mem_of_lookup k) rfl).elim (fun k => .inr (.inl k)) (fun k => .inr (.inr k))
        obtain ⟨w', r, q⟩ := hl p.2 y v hN e2' hvis
        obtain ⟨c2, h2⟩ := look k
        refine ⟨w', r, .inr ⟨.inr k, c2, h2, ?_⟩⟩
        have c1 := cm h2
        rcases q with ⟨k', _⟩ | ⟨_, c3, e', z⟩
        · have k' : X.env.scope.names.lookup y = some .local := k'
          rcases L.free _ (PySem.mem_of_lookup k) rfl with k2 | k2 <;> rw [show X.env.scope.names.lookup y = _ from k2] at k' <;> cases k'
        · rw [c1] at e'
          cases e'
          exact cellK z
  · obtain ⟨w', z⟩ := I.cell y c (cm e)
    exact ⟨w', cellK z⟩
  · exact I.freeC y c (cm e)
  · show (σG own.length cs σ).length = (own ++ cs.map (·.1)).length
    unfold σG
    simp
end
/-! ### the protocol -/
def GEnd (Xg : Cx) (pl : List (Addr × Obj)) (st : Bool) (Q : VK) (g : Nat) (s1 : Shared) : Prop := ∃ σ' H', Inv Xg pl σ' H' s1 ∧ g < s1.gens.size ∧ Q (.bl (!st)) H'
def GYp (Xg : Cx) (pl : List (Addr × Obj)) (st : Bool) (Q : VK) (g : Nat) : Protocol := fun m _ v s kap => ∃ σ' H' b, v = .bool b ∧ Inv Xg pl σ' H' s ∧ g < s.gens.size ∧ (b = st → Q (.bl st) H') ∧
  (b ≠ st → 1 ≤ m ∧ ∀ s'' : Shared, s''.heap = s.heap → s''.os = s.os → AllBare s''.gens → g < s''.gens.size → kap (.send .none) s'')
/-- the turns of the reading -/
def GTurn (st : Bool) (Q : VK) (J : It) (W : Nat → Nat → Hp → Prop) (g : TG) (te : TE) (o : Nat) (σ0 : L2.St) : Prop := ∀ i m H, W i m H →
  (J.stop i H ∧ Q (.bl (!st)) H) ∨ (J.go i H ∧ ∀ x H', J.yld i H x H' → g x σ0 H' fun σ2 H2 => (σ2.drop o = σ0.drop o ∧ σ2.length = σ0.length) ∧ te σ2 H2 fun y H3 => ∃ b, y = .bl b ∧ (b = st → Q (.bl st) H3) ∧ (b ≠ st → ∃ m', m' < m ∧ W (i + 1) m' H3))
section
variable {Xg : Cx} {K : PySem.W.Frag} {elt tg iter : Expr} {scope : Scope} {pos : Pos} {it : Addr} {fp : List Addr} {tn : Nat → Heap → Prop} {J : It} {W : Nat → Nat → Hp → Prop} {tgr : TG} {te : TE} {σ0 : L2.St} {st : Bool} {Q : VK} {a : Addr} {oa : Obj} {g : Nat} {o : Nat}
def GI (Xg : Cx) (pl : List (Addr × Obj)) (tn : Nat → Heap → Prop) (fp : List Addr) (σ0 : L2.St) (W : Nat → Nat → Hp → Prop) (g i m : Nat) (s : Shared) : Prop :=
  ∃ H m0, Inv Xg pl σ0 H s ∧ tn i s.heap ∧ (∀ b ∈ fp, H b = none) ∧ m0 ≤ m ∧ W i m0 H ∧ g < s.gens.size
theorem seg_loop {A : Around} (hXA : Xg.A = A.over (.compLoop (.GeneratorExp elt [⟨tg, iter, [], 0⟩] scope pos) 0 (.ref it) .none Xg.env) []) (hco : Xg.env.scope.isCoroutine = false) (hc : Xg.calm = true) (hex : Xg.ex = fp) (hpn : Xg.pn = []) (hxe : Xg.xe = fun _ _ => False)
    (T : Turn Xg.prog Xg.w Xg.K tg J fp it tn) (haf : a ∉ fp) (haL : ∀ p ∈ [(a, oa)], ∀ v, p.2.data ≠ .cell v) (hpg : PG Xg tg tgr) (hpe : PE Xg elt te) (hσ0 : ∀ i v, σ0[i]? = some (some v) → o ≤ i) (turn : GTurn st Q J W tgr te o σ0) :
    ∀ (m i : Nat) (s0 s : Shared), GI Xg [(a, oa)] tn fp σ0 W g i m s → Seg (model Xg.prog Xg.w) A (fun _ _ r s1 => r = .ok .next ∧ GEnd Xg [(a, oa)] st Q g s1) (GYp Xg [(a, oa)] st Q g) (m + 1) s0
      (.compLoop (.GeneratorExp elt [⟨tg, iter, [], 0⟩] scope pos) 0 (.ref it) .none Xg.env) ((model Xg.prog Xg.w).den (.compLoop (.GeneratorExp elt [⟨tg, iter, [], 0⟩] scope pos) 0 (.ref it) .none Xg.env)) [] s := by
  have stat : ∀ {σ' : L2.St} {H' : Hp} {s' : Shared}, Inv Xg [(a, oa)] σ' H' s' → (∀ b ∈ fp, H' b = none) → ∀ b ∈ fp, FpOk Xg [(a, oa)] H' b := fun {σ' H' s'} I' hn b hb =>
    ⟨hn b hb, (I'.ok.exf b (by rw [hex]; exact hb)).1, I'.ok.exfs b (by rw [hex]; exact hb), .inl (by rw [hex]; exact hb), fun x c e => (I'.ok.exf b (by rw [hex]; exact hb)).2 x c e, fun p hp => by
      rw [hpn] at hp
      have : p = (a, oa) := by simpa using hp
      rw [this]
      exact fun z => haf (by rw [← z] at hb; exact hb)⟩
  intro m
  induction m using Nat.strongRecOn with
  | _ m ih =>
    rintro i s0 s ⟨H, m0, I, st0, n0, hm, w0, hg⟩
    show Seg _ A _ _ _ s0 _ ((compTurn (.GeneratorExp elt [⟨tg, iter, [], 0⟩] scope pos) 0 (.ref it) .none Xg.env).onRaise (leaving Xg.env)) [] s
    rw [compTurn_gen, Sem.onRaise_eq_wrap]
    refine seg_bind_wrap (wpAny_standAt ?_)
    rcases turn i m0 H w0 with ⟨stop, qq⟩ | ⟨go, step⟩
    · refine seg_bind_wrap (by
        rw [← hXA]
        refine wpAny_mono (wpAny_size (n := g + 1) hg (T.done Xg rfl rfl rfl hc i [(a, oa)] s σ0 H (fun _ _ => False) I (stat I n0) st0 stop)) (fun r s1 h1 => ?_) fun _ _ z => z.elim
        obtain ⟨⟨hr, I1⟩, hz⟩ := h1
        subst hr
        exact seg_end (.ok .next) ⟨rfl, _, _, I1, hz, qq⟩)
    · refine seg_bind_wrap (by
        rw [← hXA]
        refine wpAny_mono (wpAny_size (n := g + 1) hg (T.item Xg rfl rfl rfl hc i [(a, oa)] s σ0 H (fun _ _ => False) I (stat I n0) st0 go)) (fun r s1 h1 => ?_) fun _ _ z => z.elim
        obtain ⟨⟨u, hr, h6⟩, hz1⟩ := h1
        subst hr
        refine seg_bind_wrap (by
          rw [← hXA]
          refine wpAny_mono (wpAny_size (n := g + 1) hz1 h6) (fun _ s7 h7 => ?_) fun _ _ z => z.elim
          obtain ⟨⟨x, H7, I7, r7, y7, st7, n7⟩, hz7⟩ := h7
          have I7' := I7.pinned (stat I7 n7) (T.obj _ _ st7)
          refine seg_bind_wrap (by
            rw [← hXA]
            refine wpAny_mono (wpAny_size (n := g + 1) hz7 (hpg.run _ s7 _ H7 x u _ I7' r7 (step x H7 y7))) (fun _ s8 h8 => ?_) fun _ s' z => by
              rw [hxe] at z
              exact z.elim
            obtain ⟨⟨σ8, H8, I8, ⟨hw8, hl8⟩, q8⟩, hz8⟩ := h8
            refine seg_bind_wrap (by
              rw [← hXA]
              refine wpAny_tests_nil ?_
              simp only [if_true]
              have hy : ∀ v, yieldOut Xg.env v = yieldValue v := fun v => by simp only [yieldOut, hco, Bool.false_eq_true, if_false]
              simp only [hy]
              rw [Sem.bind_eq_wrap', Sem.bind_eq_wrap', Sem.wrap_wrap, Sem.wrap_wrap]
              refine seg_wrap (by
                rw [← hXA]
                refine wpAny_mono (wpAny_size (n := g + 1) hz8 (hpe.run _ s8 σ8 H8 _ I8 q8)) (fun yv s9 h9 => ?_) fun _ s' z => by
                  rw [hxe] at z
                  exact z.elim
                obtain ⟨⟨yx, H9, I9, r9, b, rfl, hs, hn⟩, hz9⟩ := h9
                have r9 : yv = Value.bool b := r9
                subst r9
                refine seg_at (seg_yield rfl rfl rfl ⟨σ8, H9, b, rfl, I9.unpinned, hz9, hs, fun hb => ?_⟩)
                obtain ⟨m', hm', w'⟩ := hn hb
                refine ⟨by omega, fun s'' e1 e2 hG hgs => ?_⟩
                obtain ⟨m1, rfl⟩ : ∃ m1, m = m1 + 1 := ⟨m - 1, by omega⟩
                have pin' : ∀ b ∈ fp, ∀ o, s7.heap.get? b = some o → s9.heap.get? b = some o ∧ H9 b = none := fun b hb o e =>
                  let z := I9.pin (b, o) (List.mem_append_right _ (List.mem_append_right _ (mem_pinsAt hb e)))
                  ⟨z.1, z.2.1⟩
                refine seg_again rfl (ih m1 (by omega) (i + 1) s'' s'' ⟨H9, m', (inv_like I9.unpinned e1 e2 hG).weak hl8.symm (fun j v e => ?_), T.keep _ _ _ st7 fun b hb o e => by rw [e1]; exact (pin' b hb o e).1, fun b hb => ?_, by omega, w', hgs⟩)
                · have hj := hσ0 j v e
                  have e2 := congrArg (fun l => l[j - o]?) hw8
                  simp only [List.getElem?_drop] at e2
                  rw [show o + (j - o) = j by omega] at e2
                  rw [e2]
                  exact e
                · obtain ⟨ob, e, _⟩ := T.obj _ _ st7 b hb
                  exact (pin' b hb ob e).2)))))
/-- the generator a at state g, ready for its next turn -/
def LS (Xg : Cx) (A : Around) (a : Addr) (oa : Obj) (st : Bool) (Q : VK) (g m : Nat) (s : Shared) : Prop :=
  s.heap.IsGen a g ∧ s.heap.NoLimit ∧ ∃ gs, s.gens[g]? = some gs ∧ gs.Goes (model Xg.prog Xg.w) A.in1.in1 (fun _ _ r s1 => r = .ok .next ∧ GEnd Xg [(a, oa)] st Q g s1) (GYp Xg [(a, oa)] st Q g) (m + 1) (.send .none) (s.setGen g .running)
def GenO (oa : Obj) (g : Nat) : Prop := oa.cls = .type "generator" ∧ ∃ nm qn, oa.data = .fields #[.int g 0, nm, qn] ∧ oa.slots = #[]
theorem isGen_of {pl : List (Addr × Obj)} {σ : L2.St} {H : Hp} {s : Shared} (I : Inv Xg [(a, oa)] σ H s) (ho : GenO oa g) : s.heap.IsGen a g := by
  obtain ⟨h1, nm, qn, h2, h3⟩ := ho
  exact ⟨oa, nm, qn, (I.pin (a, oa) (List.mem_append_right _ (List.mem_singleton.mpr rfl))).1, h1, h2, h3⟩
section
variable {A : Around} {R : Result → Shared → Prop}
theorem loop_all (hh : A.in1.handled = none) (hroom : A.in1.depth < recursionLimit) (ho : GenO oa g) (fin : ∀ (b : Bool) (σ' : L2.St) (H' : Hp) (s' : Shared), Inv Xg [(a, oa)] σ' H' s' → Q (.bl b) H' → R (.ok (.ret (.bool b))) s') :
    ∀ (m : Nat) (s : Shared), LS Xg A a oa false Q g m s → codeAny (model Xg.prog Xg.w) A (.builtin "all.loop" ⟨[.ref a], []⟩) R s := by
  intro m
  induction m using Nat.strongRecOn with
  | _ m ih =>
    rintro s ⟨hg, hl, gs, hgs, hgo⟩
    refine codeAny_builtin F.entry_all_loop ?_
    rw [Around.under_plainId F.plain_all_loop _]
    show wpAny _ A.in1 (pyNext (.ref a) >>= _) _ _ s
    refine wpAny_bind (wpAny_pyNext_genexpQ (P := fun _ _ s1 => GEnd Xg [(a, oa)] false Q g s1) hh hl hroom hg hgs hgo (fun v s1 gs' hb hv => ?_) (fun s1 hp h' hk => ?_))
    · obtain ⟨σ', H', b, rfl, I, hz, hs, hn⟩ := hv
      refine wpAny_bind (wpAny_holding (wpAny_truthy_bool ?_))
      refine wpAny_bind (wpAny_letGo ?_)
      cases b with
      | true =>
        obtain ⟨h1, kap⟩ := hn (by decide)
        obtain ⟨m1, rfl⟩ : ∃ m1, m = m1 + 1 := ⟨m - 1, by omega⟩
        simp only [if_true]
        have hz' : g < (s1.setGen g gs').gens.size := by
          rw [setGen_size]
          exact hz
        refine wpAny_pure ⟨plainId_quiet F.plain_all_loop _, ih m1 (by omega) _ ⟨show (s1.setGen g gs').heap.IsGen a g from isGen_of (s := s1) (pl := []) I ho, show (s1.setGen g gs').heap.NoLimit from I.nolimit, gs', get_set hz, kap _ rfl rfl (bare_set (bare_set I.bare hb) rfl) (by rw [setGen_size, setGen_size]; exact hz)⟩⟩
      | false =>
        simp only [Bool.false_eq_true, if_false]
        refine wpAny_bind (wpAny_rule (wpAny_pure ?_))
        exact fin false σ' H' _ (inv_gens I (bare_set I.bare hb)) (hs rfl)
    · obtain ⟨σ', H', I, hz, q⟩ := hp
      refine wpAny_bind (wpAny_rule (wpAny_pure ?_))
      exact fin true σ' H' _ ((inv_gens I (bare_set I.bare rfl)).kept hk) q
theorem loop_any (hh : A.in1.handled = none) (hroom : A.in1.depth < recursionLimit) (ho : GenO oa g) (fin : ∀ (b : Bool) (σ' : L2.St) (H' : Hp) (s' : Shared), Inv Xg [(a, oa)] σ' H' s' → Q (.bl b) H' → R (.ok (.ret (.bool b))) s') :
    ∀ (m : Nat) (s : Shared), LS Xg A a oa true Q g m s → codeAny (model Xg.prog Xg.w) A (.builtin "any.loop" ⟨[.ref a], []⟩) R s := by
  intro m
  induction m using Nat.strongRecOn with
  | _ m ih =>
    rintro s ⟨hg, hl, gs, hgs, hgo⟩
    refine codeAny_builtin F.entry_any_loop ?_
    rw [Around.under_plainId F.plain_any_loop _]
    show wpAny _ A.in1 (pyNext (.ref a) >>= _) _ _ s
    refine wpAny_bind (wpAny_pyNext_genexpQ (P := fun _ _ s1 => GEnd Xg [(a, oa)] true Q g s1) hh hl hroom hg hgs hgo (fun v s1 gs' hb hv => ?_) (fun s1 hp h' hk => ?_))
    · obtain ⟨σ', H', b, rfl, I, hz, hs, hn⟩ := hv
      refine wpAny_bind (wpAny_holding (wpAny_truthy_bool ?_))
      refine wpAny_bind (wpAny_letGo ?_)
      cases b with
      | false =>
        obtain ⟨h1, kap⟩ := hn (by decide)
        obtain ⟨m1, rfl⟩ : ∃ m1, m = m1 + 1 := ⟨m - 1, by omega⟩
        simp only [Bool.false_eq_true, if_false]
        refine wpAny_pure ⟨plainId_quiet F.plain_any_loop _, ih m1 (by omega) _ ⟨show (s1.setGen g gs').heap.IsGen a g from isGen_of (s := s1) (pl := []) I ho, show (s1.setGen g gs').heap.NoLimit from I.nolimit, gs', get_set hz, kap _ rfl rfl (bare_set (bare_set I.bare hb) rfl) (by rw [setGen_size, setGen_size]; exact hz)⟩⟩
      | true =>
        simp only [if_true]
        refine wpAny_bind (wpAny_rule (wpAny_pure ?_))
        exact fin true σ' H' _ (inv_gens I (bare_set I.bare hb)) (hs rfl)
    · obtain ⟨σ', H', I, hz, q⟩ := hp
      refine wpAny_bind (wpAny_rule (wpAny_pure ?_))
      exact fin false σ' H' _ ((inv_gens I (bare_set I.bare rfl)).kept hk) q
end
/-- the generator's first steps lead to its loop -/
theorem seg_first {A : Around} {cenv : Env} {P : Program} {w : World} {K : PySem.W.Frag} {R : GenEnd} {Y : Protocol} {n : Nat} {s0 s : Shared} (T : Turn P w K tg J fp it tn) (st0 : tn 0 s.heap)
    (loop : Seg (model P w) A R Y n s0 (.compLoop (.GeneratorExp elt [⟨tg, iter, [], 0⟩] scope pos) 0 (.ref it) .none cenv) ((model P w).den (.compLoop (.GeneratorExp elt [⟨tg, iter, [], 0⟩] scope pos) 0 (.ref it) .none cenv)) [] s) :
    Seg (model P w) A R Y n s0 (.compStart (.GeneratorExp elt [⟨tg, iter, [], 0⟩] scope pos) 0 (.ref it) .none cenv) ((model P w).den (.compStart (.GeneratorExp elt [⟨tg, iter, [], 0⟩] scope pos) 0 (.ref it) .none cenv)) [] s := by
  show Seg _ A _ _ _ s0 _ ((compStart (.GeneratorExp elt [⟨tg, iter, [], 0⟩] scope pos) 0 (.ref it) .none cenv).onRaise (leaving cenv)) [] s
  unfold compStart
  rw [Sem.onRaise_eq_wrap]
  show Seg _ A _ _ _ s0 _ ((ask >>= _).wrap _ _ _ _) [] s
  refine seg_bind_wrap (wpAny_askSetting ?_)
  split
  · exact seg_again rfl loop
  · first
      | exact seg_bind_wrap (wpAny_rule (seg_bind_wrap (wpAny_standAt (seg_bind_wrap (T.self _ 0 s _ _ st0 (seg_again rfl loop))))))
      | (refine seg_bind_wrap (wpAny_rule ?_); show Seg _ A _ _ _ s0 _ ((standAt iter.pos >>= _).wrap _ _ _ _) [] s; exact seg_bind_wrap (wpAny_standAt (seg_bind_wrap (T.self _ 0 s _ _ st0 (seg_again rfl loop)))))
end
/-! ### the rules -/
/-- any (st = true), all (st = false) of a generator expression: P the def's table, o the number of the generator's own names, cs the captured ones with their places -/
def tGx (st : Bool) (P : Addr) (wi : TI) (g : TG) (te : TE) (o : Nat) (cs : List (Str × Nat)) : TE := fun σ H Q => wi σ H fun J H1 => H1 P = some (TabO P) ∧ ∃ W : Nat → Nat → Hp → Prop, (∃ m, W 0 m H1) ∧ GTurn st Q J W g te o (σG o cs σ)
section
variable {X : Cx} {pins : List (Addr × Obj)} {σ : L2.St} {H : Hp} {s : Shared} {c P : Addr} {elt tg iter : Expr} {scope : Scope} {p pos gpos : Pos} {wi : TI} {tgr : TG} {te : TE} {own : List Str} {cs : List (Str × Nat)} {k : Nat} {st : Bool} {Q : VK}
theorem gen_ready {Q' : Value → Shared → Prop} (hr : Room (k + 1) X.A) (TB : GxR.TabB X.base X.mg c P) (hcode : X.env.code = .ref c) (L : GnS X.N X.env.scope scope cs) (hi : PI X tg iter wi)
    (hpg : ∀ (A : Around) (s : Shared) (H : Hp) (C : Addr) (code : Value) (fp : List Addr), PG (genCx X A s H (genEnv scope (cloFrom X.env.cells scope.names []) C code builtinsNs X.env) (own ++ cs.map (·.1)) fp) tg tgr)
    (hpe : ∀ (A : Around) (s : Shared) (H : Hp) (C : Addr) (code : Value) (fp : List Addr), Room k A → PE (genCx X A s H (genEnv scope (cloFrom X.env.cells scope.names []) C code builtinsNs X.env) (own ++ cs.map (·.1)) fp) elt te)
    (hs : ∀ v, genFold iter X.env v = pure v) (I : Inv X pins σ H s) (h : tGx st P wi tgr te own.length cs σ H Q)
    (hQ : ∀ (Xg : Cx) (a : Addr) (oa : Obj) (g m : Nat) (s5 : Shared), Xg.prog = X.prog → Xg.w = X.w → GenO oa g → LS Xg X.A a oa st Q g m s5 → (∀ σ' H' s', Inv Xg [(a, oa)] σ' H' s' → Inv X pins σ H' s') → Q' (.ref a) s5) :
    wpAny (model X.prog X.w) X.A (eval (.GeneratorExp elt [⟨tg, iter, [], 0⟩] scope gpos) X.env) Q' X.xe s := by
  have hfree : ∀ y ∈ scope.names, y.2 = .free → ∃ c, X.env.cells.lookup y.1 = some c := fun y hy e => by
    rcases L.free y hy e with k | k
    · exact I.ok.has _ (.inl k)
    · exact I.ok.has _ (.inr k)
  refine wpAny_GeneratorExp_make L.co (closure_ok hfree) L.cell L.dot L.kind hr.depth (thn (hi.run pins s σ H _ I h) fun xv s1 hx => thn hx fun itv s2 h2 => ?_) hs
  obtain ⟨it, fp, tn, J, H2, rfl, I2, T, st2, f2, hTab, W, ⟨m0, w0⟩, turn⟩ := h2
  obtain ⟨⟨ps, ePs, tr⟩, _, _⟩ := I2.hok P _ hTab
  have hPlt : P < s2.heap.objs.size := Heap.lt_size ePs
  have cd : PySem.W.CodeHd s2.heap c P := TB.code.keeps fun b u e => I2.bk b u e
  have sz : ∀ b ∈ fp, b < s2.heap.objs.size := fun b hb => by
    obtain ⟨o, e, _⟩ := T.obj _ _ st2 b hb
    exact Heap.lt_size e
  have nfP : ∀ b ∈ fp, b ≠ P := fun b hb z => by
    have := (f2 b hb).1
    rw [z, hTab] at this
    cases this
  have cont : ∀ (code : Value) (h3 : Heap) (tk : Nat) (ps' : Array Value), Heap.ExtBut P s2.heap h3 → s2.heap.objs.size ≤ h3.objs.size → h3.get? P = some { cls := .none, data := .fields ps' } → TriplesOk ps'.toList →
      wpAny (model X.prog X.w) X.A (builtinsFor X.env.globals X.env.builtins) (fun bi s₄ => ∀ h', h'.Ns s₄.heap.objs.size (fun y => if y = ".0" then some (Value.ref it) else none) → Heap.SameBut s₄.heap.objs.size (s₄.heap.push { cls := .type "frame", data := .dict #[] }) h' →
          Q' (.ref h'.objs.size) { s₄ with
            gens := s₄.gens.push (.fresh (.compStart (.GeneratorExp elt [⟨tg, iter, [], 0⟩] scope gpos) 0 (.ref it) .none (genEnv scope (cloFrom X.env.cells scope.names []) s₄.heap.objs.size code bi X.env))),
            toks := s₄.toks + 1 + 1 + 1,
            heap := h'.push { cls := .type "generator", data := .fields #[.int s₄.gens.size 0, .str "<genexpr>" (s₄.toks + 1), .str (X.env.qual ++ "<genexpr>") (s₄.toks + 1 + 1)] } }) X.xe { s2 with heap := h3, toks := tk } := by
    intro code h3 tk ps' hx hsz hP3 ht3
    have kx : ∀ b o, b ≠ P → s2.heap.get? b = some o → h3.get? b = some o := fun b o hb e => hx b o hb e
    have I3 := inv_code (tk := tk) I2 hTab kx hP3 ht3
    obtain ⟨bm, ob, e1, e2, e3, e4, e5, e6, e7, e8⟩ := TB.bm
    refine wpAny_builtinsFor (m := X.mg) (by rw [I3.ok.glob]; exact I3.mod.glob.keeps I3.bk) e1 e2 (I3.bk _ _ e5) e6 e7 e8 ?_
    intro h' hn' hs'
    have st3 : tn 0 h3 := T.keep _ _ _ st2 fun b hb o e => kx b o (nfP b hb) e
    generalize hs3 : ({ s2 with heap := h3, toks := tk } : Shared) = s3 at I3 hn' hs' ⊢
    have eh : s3.heap = h3 := by rw [← hs3]
    have hszh : h'.objs.size = s3.heap.objs.size + 1 := by rw [hs'.1, Heap.size_push]
    have keep' : ∀ b o, s3.heap.get? b = some o → h'.get? b = some o := fun b o e => hs'.extBut b o (Nat.ne_of_lt (Heap.lt_size e)) (Heap.get?_push_of_some _ e)
    generalize hgo : ({ cls := .type "generator", data := .fields #[.int s3.gens.size 0, .str "<genexpr>" (s3.toks + 1), .str (X.env.qual ++ "<genexpr>") (s3.toks + 1 + 1)] } : Obj) = go
    have kp : ∀ b o, s3.heap.get? b = some o → (h'.push go).get? b = some o := fun b o e => Heap.get?_push_of_some _ (keep' b o e)
    have hfp : ∀ b ∈ fp, FpOk X pins H2 b ∧ b < s3.heap.objs.size := fun b hb => ⟨f2 b hb, by rw [eh]; exact Nat.lt_of_lt_of_le (sz b hb) hsz⟩
    have hho : GenO go s3.gens.size := by
      rw [← hgo]
      exact ⟨rfl, _, _, rfl, rfl⟩
    have hh1 : X.A.in1.handled = none := hr.hd
    generalize hA : (X.A.in1.in1).over (.compLoop (.GeneratorExp elt [⟨tg, iter, [], 0⟩] scope gpos) 0 (.ref it) .none (genEnv scope (cloFrom X.env.cells scope.names []) s3.heap.objs.size code builtinsNs X.env)) [] = A
    have hAh : A.handled = none := by
      rw [← hA]
      exact hh1
    have hAf : A.frames = some (genEnv scope (cloFrom X.env.cells scope.names []) s3.heap.objs.size code builtinsNs X.env :: X.stack) := by
      rw [← hA]
      show pushEnvs [_] (pushEnvs [] X.A.frames) = _
      rw [I.ok.frames]
      rfl
    have hrA : Room k A := by
      rw [← hA]
      refine ⟨hr.hd, ?_, ?_⟩
      · have := hr.dp
        show X.A.depth + 0 + 1 + 3 * k + 5 < _
        omega
      · have := hr.un
        show X.A.units + 1 + 1 + 0 + 3 + 16 * k + 200 < _
        omega
    have hgb : AllBare (s3.gens.push (.fresh (.compStart (.GeneratorExp elt [⟨tg, iter, [], 0⟩] scope gpos) 0 (.ref it) .none (genEnv scope (cloFrom X.env.cells scope.names []) s3.heap.objs.size code builtinsNs X.env)))) := I3.bare.push rfl
    have I5 := gen_start (own := own) (A := A) (code := code) (tk := s3.toks + 1 + 1 + 1) I3 L hfp (Nat.le_refl _) hAh hAf kp (hn'.push go) hgb
    have nst : ∀ b ∈ frs X.stack, b < s3.heap.objs.size := fun b hb => by
      rcases List.mem_cons.mp (I3.stkSub b hb) with z | z
      · rw [z]
        exact I3.lt
      · obtain ⟨_, o, ho, _⟩ := I3.funs.mem z
        exact Heap.lt_size ho
    have I6 := I5.pins_of (pins' := [(h'.objs.size, go)]) fun q hq => by
      have hq : q = (h'.objs.size, go) := by simpa using hq
      subst hq
      refine ⟨Heap.get?_push_size _ (by rw [← hgo]; rfl), I3.hok.fresh (by rw [hszh]; exact Nat.le_succ _), ?_, fun z => ?_, fun v z => ?_⟩
      · show h'.objs.size ≠ s3.heap.objs.size
        omega
      · have := nst _ z
        have this : h'.objs.size < s3.heap.objs.size := this
        omega
      · obtain ⟨_, _, _, hd, _⟩ := hho
        rw [hd] at z
        cases z
    refine hQ (genCx X A s3 H2 (genEnv scope (cloFrom X.env.cells scope.names []) s3.heap.objs.size code builtinsNs X.env) (own ++ cs.map (·.1)) fp) h'.objs.size go s3.gens.size m0 _ rfl rfl hho ⟨isGen_of (pl := []) I6 hho, I6.nolimit, _, Array.getElem?_push_size .., ⟨rfl, ?_⟩⟩ fun σ' H' s' J' => ?_
    · have st5 : tn 0 (h'.push go) := T.keep _ _ _ st3 fun b hb o e => kp b o (by rw [eh]; exact e)
      refine seg_first (K := X.K) T st5 ?_
      have haf : h'.objs.size ∉ fp := fun z => by
        have this : h'.objs.size < s3.heap.objs.size := (hfp _ z).2
        omega
      refine seg_loop (Xg := genCx X A s3 H2 (genEnv scope (cloFrom X.env.cells scope.names []) s3.heap.objs.size code builtinsNs X.env) (own ++ cs.map (·.1)) fp) (o := own.length) hA.symm L.co rfl rfl rfl rfl T haf ?_ (hpg ..) (hpe _ _ _ _ _ _ hrA) ?_ turn m0 0 _ _ ?_
      · intro q hq v z
        have hq : q = (h'.objs.size, go) := by simpa using hq
        subst hq
        obtain ⟨_, _, _, hd, _⟩ := hho
        rw [hd] at z
        cases z
      · intro i v e
        unfold σG at e
        rcases Nat.lt_or_ge i own.length with q | q
        · rw [List.getElem?_append_left (by rw [List.length_replicate]; exact q), List.getElem?_replicate] at e
          split at e <;> cases e
        · exact q
      · refine ⟨H2, m0, inv_like I6 rfl rfl (bare_set hgb rfl), st5, fun b hb => (f2 b hb).1, Nat.le_refl _, w0, ?_⟩
        rw [setGen_size, Array.size_push]
        exact Nat.lt_succ_self _
    · exact I3.call' (ch := fp) J'.os J'.base J'.hok J'.bare fun b hb => ⟨(hfp b hb).1.2.2.2.1, (hfp b hb).1.2.1, (hfp b hb).1.2.2.2.2.1, (hfp b hb).1.2.2.2.2.2⟩
  refine ⟨I2.nolimit, ?_⟩
  cases hf : codeAmong gpos ps.toList with
  | none =>
    refine wpAny_genexprCodeX hcode (cd.code ePs tr) (cd.tab ePs) hf fun c' h' tk hx hge hlt hco' _ htab' _ => ?_
    obtain ⟨o1, vs, f1, tf, fl, tg', inF, tx, tt, op, _, _, _, _, _, _, _, _, _, htr, _⟩ := hco'
    exact cont _ h' tk _ hx (Nat.le_trans hge (Nat.le_of_lt hlt)) htab'.2 htr
  | some cv =>
    refine wpAny_genexprCode_hit hcode (cd.code ePs tr) hf ?_
    exact cont cv s2.heap s2.toks ps (Heap.ExtBut.refl _ _) (Nat.le_refl _) ePs tr
theorem pe_gAll (hr : Room (k + 1) X.A) (hg : Gl X "all") (hm : X.mg "all" = none) (TB : GxR.TabB X.base X.mg c P) (hcode : X.env.code = .ref c) (L : GnS X.N X.env.scope scope cs) (hi : PI X tg iter wi)
    (hpg : ∀ (A : Around) (s : Shared) (H : Hp) (C : Addr) (code : Value) (fp : List Addr), PG (genCx X A s H (genEnv scope (cloFrom X.env.cells scope.names []) C code builtinsNs X.env) (own ++ cs.map (·.1)) fp) tg tgr)
    (hpe : ∀ (A : Around) (s : Shared) (H : Hp) (C : Addr) (code : Value) (fp : List Addr), Room k A → PE (genCx X A s H (genEnv scope (cloFrom X.env.cells scope.names []) C code builtinsNs X.env) (own ++ cs.map (·.1)) fp) elt te)
    (hs : ∀ v, genFold iter X.env v = pure v := by intro _; rfl)
    (he : starEach [.GeneratorExp elt [⟨tg, iter, [], 0⟩] scope gpos] X.env = (false, eval (.GeneratorExp elt [⟨tg, iter, [], 0⟩] scope gpos) X.env) :: starEach [] X.env := by rfl) :
    PE X (.Call (.Name "all" p) [.GeneratorExp elt [⟨tg, iter, [], 0⟩] scope gpos] [] pos) (tGx false P wi tgr te own.length cs) := by
  refine ⟨fun pins s σ H Q I h => ?_⟩
  refine wpAny_Call_Name_kw (ld_blt I hg hm (show bootBuiltins "all" = some (.builtin "all") by decide +kernel) ?_)
  refine PyProof.Rows.callWith_builtin1 ?_ he (by rfl)
  rw [he]
  show wpAny _ _ (spliced ((false, eval (.GeneratorExp elt [⟨tg, iter, [], 0⟩] scope gpos) X.env) :: backTo pos (starEach [] X.env))) _ _ s
  refine Calls.spliced_cons (gen_ready hr TB hcode L hi hpg hpe hs I h fun Xg a oa g m s5 e1 e2 ho hL back => ?_)
  refine Calls.spliced_nil ?_
  refine call_function_tree F.kind_all F.plain_all F.entry_all (F.args_all1 _) ?_
  unfold Builtin.«all»
  refine wpAny_bind (m := oneArg "all" _) (wpAny_pure ?_)
  refine wpAny_bind (wpAny_pyIter_gen hL.1 ?_)
  rw [← e1, ← e2]
  have hh1 : X.A.in1.handled = none := hr.hd
  refine wpAny_pure ⟨plainId_quiet F.plain_all_loop _, loop_all hh1 hr.depth ho (fun b σ' H' s' J' q => ?_) m s5 hL⟩
  exact ⟨.bl b, H', back σ' H' s' J', rfl, q⟩
theorem pe_gAny (hr : Room (k + 1) X.A) (hg : Gl X "any") (hm : X.mg "any" = none) (TB : GxR.TabB X.base X.mg c P) (hcode : X.env.code = .ref c) (L : GnS X.N X.env.scope scope cs) (hi : PI X tg iter wi)
    (hpg : ∀ (A : Around) (s : Shared) (H : Hp) (C : Addr) (code : Value) (fp : List Addr), PG (genCx X A s H (genEnv scope (cloFrom X.env.cells scope.names []) C code builtinsNs X.env) (own ++ cs.map (·.1)) fp) tg tgr)
    (hpe : ∀ (A : Around) (s : Shared) (H : Hp) (C : Addr) (code : Value) (fp : List Addr), Room k A → PE (genCx X A s H (genEnv scope (cloFrom X.env.cells scope.names []) C code builtinsNs X.env) (own ++ cs.map (·.1)) fp) elt te)
    (hs : ∀ v, genFold iter X.env v = pure v := by intro _; rfl)
    (he : starEach [.GeneratorExp elt [⟨tg, iter, [], 0⟩] scope gpos] X.env = (false, eval (.GeneratorExp elt [⟨tg, iter, [], 0⟩] scope gpos) X.env) :: starEach [] X.env := by rfl) :
    PE X (.Call (.Name "any" p) [.GeneratorExp elt [⟨tg, iter, [], 0⟩] scope gpos] [] pos) (tGx true P wi tgr te own.length cs) := by
  refine ⟨fun pins s σ H Q I h => ?_⟩
  refine wpAny_Call_Name_kw (ld_blt I hg hm (show bootBuiltins "any" = some (.builtin "any") by decide +kernel) ?_)
  refine PyProof.Rows.callWith_builtin1 ?_ he (by rfl)
  rw [he]
  show wpAny _ _ (spliced ((false, eval (.GeneratorExp elt [⟨tg, iter, [], 0⟩] scope gpos) X.env) :: backTo pos (starEach [] X.env))) _ _ s
  refine Calls.spliced_cons (gen_ready hr TB hcode L hi hpg hpe hs I h fun Xg a oa g m s5 e1 e2 ho hL back => ?_)
  refine Calls.spliced_nil ?_
  refine call_function_tree F.kind_any F.plain_any F.entry_any (F.args_any1 _) ?_
  unfold Builtin.«any»
  refine wpAny_bind (m := oneArg "any" _) (wpAny_pure ?_)
  refine wpAny_bind (wpAny_pyIter_gen hL.1 ?_)
  rw [← e1, ← e2]
  have hh1 : X.A.in1.handled = none := hr.hd
  refine wpAny_pure ⟨plainId_quiet F.plain_any_loop _, loop_any hh1 hr.depth ho (fun b σ' H' s' J' q => ?_) m s5 hL⟩
  exact ⟨.bl b, H', back σ' H' s' J', rfl, q⟩
end
/-! ### defs that know their code object -/
theorem tabB_G {base : Heap} {mg : Str → Option Value} {c P : Addr} (h : LamX.TabB base mg c P) : GxR.TabB base mg c P := ⟨h.code, h.bm, h.gP⟩
theorem def0G {P : Program} {w : World} {K : PySem.W.Frag} {mg : Str → Option Value} {base : Heap} {x qual : Str} {params : Arguments} {body : List Stmt} {scope : Scope} {dvs : List V} {kws : List (Str × V)} {at_ : Str × Option Str} {fd : FuncData} {N ps : List Str} {k : Nat} {sp : Sp}
    (F : FunD K x qual params body scope dvs kws (He.fAd K at_) fd) (S : FnScope N ps scope) (len : ∀ vs H Q E, sp vs H Q E → vs.length = ps.length)
    (hb : ∀ (A : Around) (outer : List Env) (s : Shared) (H : Hp) (vs : List V) (Q : VK) (E : XK), Room k (A.deeper (envOfC qual scope s.heap.objs.size (He.fAd K at_) (.ref (He.codeOf K at_)))) → sp vs H Q E →
      ∃ t, PSs (cxOf CX0 P w K mg base N qual scope (He.fAd K at_) (.ref (He.codeOf K at_)) A outer s H E).nox body t ∧ t { nx := fun _ H' => Q .non H', rt := Q } (start N vs) H) : FnOk P w K mg base CX0 (k + 1) (He.fAd K at_) fd ps sp := by
  obtain ⟨oc, od, dV, kV, doc, pm, an, cdv, ct, osl, rfl, lk, hcd, _, _⟩ := F.ex
  obtain ⟨c, rfl⟩ := He.codeIn_ref hcd
  have e := He.codeOf_eq lk (c := c) rfl
  refine fn_of lk hcd S len fun A outer s H vs Q E hr h => ?_
  rw [e] at hb
  obtain ⟨t, ht, q⟩ := hb A outer s H vs Q E hr h
  exact ⟨t, PSs.nox ht, q⟩
/-! ### tables at the law's entry -/
/-- the tables at T, told by what is true of them -/
def extT (T : List Addr) (H : Hp) : Hp := fun a => if a ∈ T then some (TabO a) else H a
def spTab (T : List Addr) (sp : Sp) : Sp := fun vs H Q _ => (∀ a ∈ T, H a = some (.tbl #[])) ∧ sp vs (extT T H) (fun v H' => (∀ a ∈ T, H' a = some (TabO a)) ∧ ∀ H'', Q v H'') E0
def psAt (h : Heap) (a : Addr) : Array Value := match h.get? a with
  | some ⟨_, _, .fields ps, _⟩ => ps
  | _ => #[]
theorem fn_tabs {P : Program} {w : World} {K : PySem.W.Frag} {mg : Str → Option Value} {base : Heap} {k : Nat} {f : Addr} {fd : FuncData} {ps : List Str} {sp : Sp} (T : List Addr) (F : FnOk P w K mg base CX0 k f fd ps sp) : FnOk P w K mg base CX0 k f fd ps (spTab T sp) := by
  refine ⟨fun vs H Q E h => F.len _ _ _ _ h.2, fun A outer s H args us vs Q E hr e0 hb hv h => ?_⟩
  obtain ⟨hT, h⟩ := h
  have nT : ∀ {b : Addr} {u : Option HO}, H b = u → u ≠ some (.tbl #[]) → b ∉ T := fun {b u} e n hb => n (by rw [← e]; exact hT b hb)
  have out : ∀ {b : Addr}, b ∉ T → extT T H b = H b := fun {b} hb => if_neg hb
  have e1 : Env0 P w K mg base A outer s (extT T H) := by
    refine ⟨e0.frames, e0.mod, fun b o e => ⟨(e0.bs b o e).1, ?_⟩, e0.bsz, e0.funs, fun b hb => ?_, fun a u e => ?_, e0.bare⟩
    · rw [out (nT (e0.bs b o e).2 nofun)]
      exact (e0.bs b o e).2
    · rw [out (nT (e0.frf b hb) nofun)]
      exact e0.frf b hb
    · by_cases ha : a ∈ T
      · have e : (if a ∈ T then some (TabO a) else H a) = some u := e
        rw [if_pos ha] at e
        cases e
        exact tab_ok (e0.hok a _ (hT a ha)) trivial
      · rw [out ha] at e
        refine (e0.hok a u e).stay (fun b v _ q => q) (fun b q => ?_) fun b xs q => ?_
        · rw [out (nT q (by nofun))]
          exact q
        · rw [out (nT q (by nofun))]
          exact q
  refine codeAny_mono (F.run A outer s (extT T H) args us vs _ E0 hr e1 hb hv h) fun r s' q => ?_
  cases r with
  | error e => exact q.elim
  | ok fl =>
    cases fl with
    | next => exact False.elim q
    | brk => exact False.elim q
    | cont => exact False.elim q
    | ret u =>
      obtain ⟨v, H', os, bare, un, hok', rv, hT', hq⟩ := q
      have out2 : ∀ {b : Addr}, b ∉ T → (if b ∈ T then some (HO.tbl (psAt s'.heap b)) else H' b) = H' b := fun {b} hb => if_neg hb
      have nT' : ∀ {b : Addr} {u : HO}, H' b = some u → u ≠ TabO b → b ∉ T := fun {b u} e n hb => n (by have := hT' b hb; rw [e] at this; exact Option.some.inj this)
      refine ⟨v, fun b => if b ∈ T then some (.tbl (psAt s'.heap b)) else H' b, os, bare, ⟨fun b o e n hb hx => ?_, fun b o e n hb hx => ?_, fun b o e n hx => ?_, fun b o e hx => un.there b o e hx, fun b xs e => ?_, fun b o u e => ?_, fun b qs e => ?_⟩, fun a u e => ?_, rv, hq _⟩
      · exact un.keep b o e (by rw [out (nT n nofun)]; exact n) hb hx
      · exact un.slot b o e (by rw [out (nT n nofun)]; exact n) hb hx
      · have hb := nT n nofun
        show (if b ∈ T then _ else _) = _
        rw [if_neg hb]
        exact un.free b o e (by rw [out hb]; exact n) hx
      · have hb := nT e (by nofun)
        show (if b ∈ T then _ else _) = _
        rw [if_neg hb]
        exact un.tups b xs (by rw [out hb]; exact e)
      · have hb := nT e (by nofun)
        show (if b ∈ T then _ else _) = _
        rw [if_neg hb]
        exact un.frzs b o u (by rw [out hb]; exact e)
      · by_cases hb : b ∈ T
        · have := hT b hb
          rw [e] at this
          cases this
          exact ⟨psAt s'.heap b, by simp [hb]⟩
        · obtain ⟨more, q⟩ := un.tbls b qs (by rw [out hb]; exact e)
          exact ⟨more, by show (if b ∈ T then _ else _) = _; rw [if_neg hb]; exact q⟩
      · by_cases ha : a ∈ T
        · have e : (if a ∈ T then some (HO.tbl (psAt s'.heap a)) else H' a) = some u := e
          rw [if_pos ha] at e
          cases e
          obtain ⟨⟨ps, e2, _⟩, _⟩ := hok' a _ (hT' a ha)
          show s'.heap.get? a = some { cls := .none, data := .fields (psAt s'.heap a) }
          unfold psAt
          rw [e2]
        · have e : (if a ∈ T then some (HO.tbl (psAt s'.heap a)) else H' a) = some u := e
          rw [if_neg ha] at e
          refine (hok' a u e).stay (fun b v _ q => q) (fun b q => ?_) fun b xs q => ?_
          · show (if b ∈ T then _ else _) = _
            rw [if_neg (nT' q (by unfold TabO; nofun))]
            exact q
          · show (if b ∈ T then _ else _) = _
            rw [if_neg (nT' q (by unfold TabO; nofun))]
            exact q
end Tp


set_option Elab.async false
set_option linter.all false
set_option maxRecDepth 100000
set_option maxHeartbeats 4000000
/-! Readings of any and all over generators: by a walk, over a text, a list, pairs. -/
namespace Tp
open PySem PySem.Spec PyProof.Rows L2 Evl
def resB (st : Bool) (n : Nat) (b : Nat → Bool) : Bool := if st then (List.range n).any b else (List.range n).all b
theorem resB_stop {st : Bool} {n i : Nat} {b : Nat → Bool} (hi : i < n) (h : b i = st) : resB st n b = st := by
  unfold resB
  cases st with
  | true =>
    rw [if_pos rfl, List.any_eq_true]
    exact ⟨i, List.mem_range.mpr hi, h⟩
  | false =>
    rw [if_neg nofun]
    exact Bool.eq_false_iff.mpr fun q => by
      have := List.all_eq_true.mp q i (List.mem_range.mpr hi)
      rw [h] at this
      cases this
theorem resB_end {st : Bool} {n : Nat} {b : Nat → Bool} (h : ∀ i, i < n → b i ≠ st) : resB st n b = !st := by
  unfold resB
  cases st with
  | true =>
    rw [if_pos rfl]
    exact Bool.eq_false_iff.mpr fun q => by
      obtain ⟨i, hi, e⟩ := List.any_eq_true.mp q
      exact h i (List.mem_range.mp hi) e
  | false =>
    rw [if_neg nofun]
    exact List.all_eq_true.mpr fun i hi => by
      have := h i (List.mem_range.mp hi)
      simpa using this
theorem gx_walk {st : Bool} {Q : VK} {J : It} {n : Nat} {G : Hp → Prop} {Y : Nat → Hp → V → Hp → Prop} (w : Walk J n G Y) {g : TG} {te : TE} {o : Nat} {σ0 : L2.St} {H1 : Hp} (hG : ∀ H', Ex H1 H' → G H') (b : Nat → Bool)
    (turn : ∀ i x H H', i < n → Ex H1 H → Y i H x H' → g x σ0 H' fun σ2 H2 => (σ2.drop o = σ0.drop o ∧ σ2.length = σ0.length) ∧ ∀ Q' : VK, (∀ H3, Ex H1 H3 → Q' (.bl (b i)) H3) → te σ2 H2 Q') (done : ∀ H', Ex H1 H' → Q (.bl (resB st n b)) H')
    (gm : ∀ x τ G (Q1 Q2 : L2.St → Hp → Prop), (∀ a b, Q1 a b → Q2 a b) → g x τ G Q1 → g x τ G Q2) :
    ∃ W : Nat → Nat → Hp → Prop, (∃ m, W 0 m H1) ∧ GTurn st Q J W g te o σ0 := by
  refine ⟨fun i m H => m + i = n ∧ Ex H1 H ∧ ∀ j, j < i → b j ≠ st, ⟨n, rfl, Ex.refl _, fun j hj => absurd hj (Nat.not_lt_zero _)⟩, ?_⟩
  rintro i m H ⟨hm, e, hb⟩
  by_cases hi : i = n
  · subst hi
    refine .inl ⟨w.stops H (hG H e), ?_⟩
    have := done H e
    rwa [resB_end hb] at this
  · have hlt : i < n := by omega
    refine .inr ⟨w.goes i H hlt (hG H e), fun x H' y => gm _ _ _ _ _ (fun σ2 H2 h => ⟨h.1, h.2 _ fun H3 e3 => ⟨b i, rfl, fun hs => ?_, fun hs => ⟨m - 1, by omega, by omega, e3, fun j hj => ?_⟩⟩⟩) (turn i x H H' hlt e (w.yields i H x H' hlt (hG H e) y))⟩
    · have := done H3 e3
      rwa [resB_stop hlt hs] at this
    · by_cases q : j = i
      · rw [q]
        exact hs
      · exact hb j (by omega)
theorem gm_name {j : Nat} : ∀ (x : V) (τ : L2.St) (G : Hp) (Q1 Q2 : L2.St → Hp → Prop), (∀ a b, Q1 a b → Q2 a b) → gName j x τ G Q1 → gName j x τ G Q2 := fun _ _ _ _ _ h q => h _ _ q
theorem gm_pair {K : PySem.W.Frag} {i j : Nat} : ∀ (x : V) (τ : L2.St) (G : Hp) (Q1 Q2 : L2.St → Hp → Prop), (∀ a b, Q1 a b → Q2 a b) → gTup K 2 (gCons (gName i) (gCons (gName j) gNil)) x τ G Q1 → gTup K 2 (gCons (gName i) (gCons (gName j) gNil)) x τ G Q2 := fun x τ G Q1 Q2 h q => by
  obtain ⟨a, xs, h1, h2, h3, v, r, h4, v2, r2, h5, h6, h7⟩ := q
  exact ⟨a, xs, h1, h2, h3, v, r, h4, v2, r2, h5, h6, h _ _ h7⟩
section
variable {K : PySem.W.Frag} {σ : L2.St} {H : Hp} {ta te : TE} {P : Addr} {cs : List (Str × Nat)} {st : Bool}
theorem rng_str (z : Str) (f : Nat → Bool) : resB st z.cps.size (fun i => f (z.cps.toList.getD i 0)) = if st then z.cps.toList.any f else z.cps.toList.all f := by
  have e : z.cps.toList = (List.range z.cps.size).map fun i => z.cps.toList.getD i 0 := by
    refine List.ext_getElem? fun i => ?_
    rw [List.getElem?_map]
    by_cases h : i < z.cps.size
    · rw [List.getElem?_range h, List.getElem?_eq_getElem (by rw [Array.length_toList]; exact h)]
      simp [List.getD, h]
    · rw [List.getElem?_eq_none (by rw [Array.length_toList]; omega), List.getElem?_eq_none (by rw [List.length_range]; omega)]
      rfl
  unfold resB
  have e1 : z.cps.toList.any f = ((List.range z.cps.size).map fun i => z.cps.toList.getD i 0).any f := congrArg (fun l => List.any l f) e
  have e2 : z.cps.toList.all f = ((List.range z.cps.size).map fun i => z.cps.toList.getD i 0).all f := congrArg (fun l => List.all l f) e
  rw [e1, e2, List.any_map, List.all_map]
  rfl
/-- over a text's signs -/
theorem ev_gxS {z : Str} (h : Ev ta σ H (.str z)) (hP : H P = some (TabO P)) (f : Nat → Bool) (he : ∀ c G, Ex H G → c ∈ z.cps.toList → Ev te (some (.str (sL [c])) :: (σG 0 cs σ)) G (.bl (f c))) :
    Ev (tGx st P (iStr ta) (gName 0) te 1 cs) σ H (.bl (if st then z.cps.toList.any f else z.cps.toList.all f)) := fun H1 e1 Q q => h H1 e1 _ fun H2 e2 => ⟨z, rfl, (e1.trans e2) _ _ hP, by
    refine gx_walk walk_str (fun _ _ => trivial) (fun i => f (z.cps.toList.getD i 0)) (fun i x G G' hi e y => ?_) (fun G e => ?_) gm_name
    · obtain ⟨rfl, c, hc, rfl⟩ := y
      have hc' : z.cps.toList[i]? = some c := by rw [Array.getElem?_toList]; exact hc
      have hd : z.cps.toList.getD i 0 = c := by
        unfold List.getD
        rw [hc']
        rfl
      refine ⟨⟨rfl, ?_⟩, fun Q' q' => ?_⟩
      · show (List.set _ _ _).length = _
        rw [List.length_set]
      · rw [hd] at q'
        exact he c G' ((e1.trans e2).trans e) (List.mem_of_getElem? hc') G' (Ex.refl _) Q' fun H3 e3 => q' H3 (e.trans e3)
    · rw [rng_str]
      exact q G (e2.trans e)⟩
/-- over zip of a list and a new one -/
theorem ev_gxZ {t1 t2 : TE} {a : Addr} {xs ys : List V} {n : Nat} (h : Ev t1 σ H (.ref a)) (hx : SqL K H a xs) (h2 : EvL t2 σ H ys) (hn : n = min xs.length ys.length) (hP : H P = some (TabO P)) (f : Nat → Bool)
    (he : ∀ i x y G, Ex H G → i < n → xs[i]? = some x → ys[i]? = some y → Ev te (some x :: some y :: (σG 0 cs σ)) G (.bl (f i))) :
    Ev (tGx st P (iZip K (tCons t1 (tCons t2 tNil))) (gTup K 2 (gCons (gName 0) (gCons (gName 1) gNil))) te 2 cs) σ H (.bl (resB st n f)) := fun H1 e1 Q q => h H1 e1 _ fun H2 e2 => h2 H2 (e1.trans e2) _ fun b H3 hb e3 h3 =>
  ⟨a, b, xs, ys, rfl, ex_l ((e1.trans e2).trans e3) hx, SqL.of h3, ((e1.trans e2).trans e3) _ _ hP, by
    refine gx_walk (walk_zip hn) (fun G e => ⟨ex_l (((e1.trans e2).trans e3).trans e) hx, SqL.of (e _ _ h3)⟩) f (fun i x G G' hi e y => ?_) (fun G e => ?_) gm_pair
    · obtain ⟨T, v1, v2, rfl, hT, rfl, g1, g2⟩ := y
      refine ⟨T, _, rfl, SqT.of upd_same, rfl, v1, _, rfl, v2, _, rfl, rfl, ⟨rfl, ?_⟩, fun Q' q' => ?_⟩
      · show (List.set (List.set _ _ _) _ _).length = _
        rw [List.length_set, List.length_set]
      · exact he i v1 v2 _ ((((e1.trans e2).trans e3).trans e).trans (Ex.new hT)) hi g1 g2 _ (Ex.refl _) Q' fun H4 e4 => q' H4 ((e.trans (Ex.new hT)).trans e4)
    · exact q G ((e2.trans e3).trans e)⟩
/-- over a list -/
theorem ev_gxL {a : Addr} {xs : List V} (h : Ev ta σ H (.ref a)) (hx : SqL K H a xs) (hP : H P = some (TabO P)) (f : Nat → Bool) (he : ∀ i x G, Ex H G → xs[i]? = some x → Ev te (some x :: (σG 0 cs σ)) G (.bl (f i))) :
    Ev (tGx st P (iList K ta) (gName 0) te 1 cs) σ H (.bl (resB st xs.length f)) := fun H1 e1 Q q => h H1 e1 _ fun H2 e2 => ⟨a, rfl, ⟨xs, ex_l (e1.trans e2) hx⟩, (e1.trans e2) _ _ hP, by
    refine gx_walk walk_list (fun G e => ex_l ((e1.trans e2).trans e) hx) f (fun i x G G' hi e y => ?_) (fun G e => ?_) gm_name
    · obtain ⟨rfl, hc⟩ := y
      refine ⟨⟨rfl, ?_⟩, fun Q' q' => ?_⟩
      · show (List.set _ _ _).length = _
        rw [List.length_set]
      · exact he i x G' ((e1.trans e2).trans e) hc G' (Ex.refl _) Q' fun H3 e3 => q' H3 (e.trans e3)
    · exact q G (e2.trans e)⟩
end
end Tp


set_option Elab.async false
set_option linter.all false
set_option maxRecDepth 100000
set_option maxHeartbeats 4000000
/-! Trees of any kind, and when they are documents. -/
namespace Tp
open PySem PySem.Spec PyProof.Rows L2 Evl
mutual
def smallT : Tr → Prop
  | .txt z => z.cps.size ≤ 100000
  | .el n cs => n.cps.size ≤ 100000 ∧ smallTs cs
def smallTs : List Tr → Prop
  | [] => True
  | c :: cs => smallT c ∧ smallTs cs
end
theorem smallTs_mem : ∀ {cs : List Tr} {c : Tr}, smallTs cs → c ∈ cs → smallT c
  | x :: cs, c, h, hc => by
    rw [smallTs] at h
    rcases List.mem_cons.mp hc with e | e
    · rw [e]
      exact h.1
    · exact smallTs_mem h.2 e
theorem smallTs_of : ∀ {cs : List Tr}, (∀ c ∈ cs, smallT c) → smallTs cs
  | [], _ => by rw [smallTs]; trivial
  | x :: cs, h => by
    rw [smallTs]
    exact ⟨h x (List.mem_cons_self ..), smallTs_of fun c hc => h c (List.mem_cons_of_mem _ hc)⟩
def nameB (n : Str) : Bool := (decide (1 ≤ n.cps.size) && decide (n.cps.size ≤ 12)) && n.cps.toList.all letB
def txtB (z : Str) : Bool := (decide (1 ≤ z.cps.size) && decide (z.cps.size ≤ 200)) && z.cps.toList.all sgB
def besideB : List Tr → Bool
  | a :: b :: r => (a.isT && b.isT) || besideB (b :: r)
  | _ => false
def wellB : Tr → Bool
  | .txt z => txtB z
  | .el n cs => nameB n && !besideB cs
mutual
def okAt : Nat → Tr → Bool
  | d, .txt z => decide (d ≤ 60) && txtB z
  | d, .el n cs => (decide (d ≤ 60) && wellB (.el n cs)) && oksAt (d + 1) cs
def oksAt : Nat → List Tr → Bool
  | _, [] => true
  | d, c :: cs => okAt d c && oksAt d cs
end
theorem oksAt_all (d : Nat) : ∀ cs : List Tr, oksAt d cs = cs.all (okAt d)
  | [] => by rw [oksAt]; rfl
  | c :: cs => by rw [oksAt, oksAt_all d cs, List.all_cons]
def docB : Tr → Bool
  | .txt _ => false
  | .el n cs => okAt 1 (.el n cs) && decide (nod (.el n cs) ≤ 5000)
def isTi (cs : List Tr) (i : Nat) : Bool := ((cs[i]?).map Tr.isT).getD false
theorem beside_res : ∀ cs : List Tr, resB true (cs.length - 1) (fun i => isTi cs i && isTi cs (i + 1)) = besideB cs
  | [] => rfl
  | [_] => rfl
  | a :: b :: r => by
    have ih := beside_res (b :: r)
    unfold resB at ih ⊢
    rw [if_pos rfl] at ih ⊢
    rw [show (a :: b :: r).length - 1 = (b :: r).length - 1 + 1 by simp, List.range_succ_eq_map, List.any_cons, List.any_map, besideB, ← ih]
    rfl
theorem apart_beside : ∀ {cs : List Tr}, apartT cs → besideB cs = false
  | [], _ => rfl
  | [_], _ => rfl
  | a :: b :: r, h => by
    obtain ⟨h1, h2⟩ := h
    rw [besideB, apart_beside h2, Bool.or_false]
    cases q : a.isT with
    | false => rfl
    | true =>
      cases q2 : b.isT with
      | false => rfl
      | true => exact absurd ⟨q, q2⟩ h1
/-! ### a stack of nodes with their depths -/
def stkOk (L : List (Tr × Nat)) : Bool := L.all fun p => okAt p.2 p.1
def stkN (L : List (Tr × Nat)) : Nat := (L.map fun p => nod p.1).sum
theorem nods_sum : ∀ cs : List Tr, nods cs = (cs.map nod).sum
  | [] => by rw [nods]; rfl
  | c :: cs => by rw [nods, nods_sum cs, List.map_cons, List.sum_cons]
theorem len_nods : ∀ cs : List Tr, cs.length ≤ nods cs
  | [] => Nat.zero_le _
  | c :: cs => by
    have := nod_pos c
    have := len_nods cs
    rw [nods, List.length_cons]
    omega
theorem stkN_len : ∀ L : List (Tr × Nat), L.length ≤ stkN L
  | [] => Nat.zero_le _
  | p :: L => by
    have := nod_pos p.1
    have := stkN_len L
    unfold stkN at this ⊢
    rw [List.map_cons, List.sum_cons, List.length_cons]
    omega
theorem stk_app (L M : List (Tr × Nat)) : stkOk (L ++ M) = (stkOk L && stkOk M) := List.all_append
theorem stkN_app (L M : List (Tr × Nat)) : stkN (L ++ M) = stkN L + stkN M := by
  unfold stkN
  rw [List.map_append, List.sum_append]
theorem stk_kids (d : Nat) (cs : List Tr) : stkOk (cs.map fun c => (c, d)) = oksAt d cs := by
  rw [oksAt_all]
  unfold stkOk
  rw [List.all_map]
  rfl
theorem stkN_kids (d : Nat) (cs : List Tr) : stkN (cs.map fun c => (c, d)) = nods cs := by
  rw [nods_sum]
  unfold stkN
  rw [List.map_map]
  rfl
def kidsT : Tr → List Tr
  | .txt _ => []
  | .el _ cs => cs
theorem okAt_eq (d : Nat) (t : Tr) : okAt d t = ((decide (d ≤ 60) && wellB t) && oksAt (d + 1) (kidsT t)) := by
  cases t with
  | txt z => rw [okAt, kidsT, oksAt, Bool.and_true]; rfl
  | el n cs => rw [okAt, kidsT]
theorem nod_eq (t : Tr) : nod t = 1 + nods (kidsT t) := by
  cases t with
  | txt z => rw [nod, kidsT, nods]
  | el n cs => rw [nod, kidsT]
end Tp

namespace Tp
open PySem PySem.Spec PyProof.Rows L2 Evl
/-! ### the text by places, the facts -/
def top (i : Nat) : Stmt := PySem.Challenge.pw_topiary_k16_documents_recognized.main.body.getD i (.Pass ⟨0, 0, 0, 0⟩)
abbrev s_is_sign : Stmt := top 1
abbrev N_is_sign : List Str := ["character"]
abbrev ps_is_sign : List Str := ["character"]
abbrev at_is_sign : Str × Option Str := ("is_sign", none)
theorem sc_is_sign : FnScope N_is_sign ps_is_sign (defScope s_is_sign) := ⟨rfl, rfl, rfl, by decide +kernel, rfl, by decide +kernel, by decide +kernel⟩
def d_is_sign : He.DefD := ⟨at_is_sign, "is_sign", "is_sign", defArgs s_is_sign, defBody s_is_sign, defScope s_is_sign, [], []⟩
abbrev s_has_only_signs : Stmt := top 2
abbrev N_has_only_signs : List Str := ["string"]
abbrev ps_has_only_signs : List Str := ["string"]
abbrev at_has_only_signs : Str × Option Str := ("has_only_signs", none)
theorem sc_has_only_signs : FnScope N_has_only_signs ps_has_only_signs (defScope s_has_only_signs) := ⟨rfl, rfl, rfl, by decide +kernel, rfl, by decide +kernel, by decide +kernel⟩
def d_has_only_signs : He.DefD := ⟨at_has_only_signs, "has_only_signs", "has_only_signs", defArgs s_has_only_signs, defBody s_has_only_signs, defScope s_has_only_signs, [], []⟩
abbrev s_is_letter : Stmt := top 3
abbrev N_is_letter : List Str := ["character"]
abbrev ps_is_letter : List Str := ["character"]
abbrev at_is_letter : Str × Option Str := ("is_letter", none)
theorem sc_is_letter : FnScope N_is_letter ps_is_letter (defScope s_is_letter) := ⟨rfl, rfl, rfl, by decide +kernel, rfl, by decide +kernel, by decide +kernel⟩
def d_is_letter : He.DefD := ⟨at_is_letter, "is_letter", "is_letter", defArgs s_is_letter, defBody s_is_letter, defScope s_is_letter, [], []⟩
abbrev s_is_name : Stmt := top 9
abbrev N_is_name : List Str := ["word"]
abbrev ps_is_name : List Str := ["word"]
abbrev at_is_name : Str × Option Str := ("is_name", none)
theorem sc_is_name : FnScope N_is_name ps_is_name (defScope s_is_name) := ⟨rfl, rfl, rfl, by decide +kernel, rfl, by decide +kernel, by decide +kernel⟩
def d_is_name : He.DefD := ⟨at_is_name, "is_name", "is_name", defArgs s_is_name, defBody s_is_name, defScope s_is_name, [], []⟩
abbrev s_is_text : Stmt := top 10
abbrev N_is_text : List Str := ["string"]
abbrev ps_is_text : List Str := ["string"]
abbrev at_is_text : Str × Option Str := ("is_text", none)
theorem sc_is_text : FnScope N_is_text ps_is_text (defScope s_is_text) := ⟨rfl, rfl, rfl, by decide +kernel, rfl, by decide +kernel, by decide +kernel⟩
def d_is_text : He.DefD := ⟨at_is_text, "is_text", "is_text", defArgs s_is_text, defBody s_is_text, defScope s_is_text, [], []⟩
abbrev s__children : Stmt := top 11
abbrev N__children : List Str := ["tree"]
abbrev ps__children : List Str := ["tree"]
abbrev at__children : Str × Option Str := ("_children", none)
theorem sc__children : FnScope N__children ps__children (defScope s__children) := ⟨rfl, rfl, rfl, by decide +kernel, rfl, by decide +kernel, by decide +kernel⟩
def d__children : He.DefD := ⟨at__children, "_children", "_children", defArgs s__children, defBody s__children, defScope s__children, [], []⟩
abbrev s__has_texts_beside : Stmt := top 12
abbrev N__has_texts_beside : List Str := ["trees"]
abbrev ps__has_texts_beside : List Str := ["trees"]
abbrev at__has_texts_beside : Str × Option Str := ("_has_texts_beside", none)
theorem sc__has_texts_beside : FnScope N__has_texts_beside ps__has_texts_beside (defScope s__has_texts_beside) := ⟨rfl, rfl, rfl, by decide +kernel, rfl, by decide +kernel, by decide +kernel⟩
def d__has_texts_beside : He.DefD := ⟨at__has_texts_beside, "_has_texts_beside", "_has_texts_beside", defArgs s__has_texts_beside, defBody s__has_texts_beside, defScope s__has_texts_beside, [], []⟩
abbrev s__is_well_made : Stmt := top 13
abbrev N__is_well_made : List Str := ["tree"]
abbrev ps__is_well_made : List Str := ["tree"]
abbrev at__is_well_made : Str × Option Str := ("_is_well_made", none)
theorem sc__is_well_made : FnScope N__is_well_made ps__is_well_made (defScope s__is_well_made) := ⟨rfl, rfl, rfl, by decide +kernel, rfl, by decide +kernel, by decide +kernel⟩
def d__is_well_made : He.DefD := ⟨at__is_well_made, "_is_well_made", "_is_well_made", defArgs s__is_well_made, defBody s__is_well_made, defScope s__is_well_made, [], []⟩
abbrev s_is_document : Stmt := top 14
abbrev N_is_document : List Str := ["tree", "many", "waiting", "node", "depth", "child"]
abbrev ps_is_document : List Str := ["tree"]
abbrev at_is_document : Str × Option Str := ("is_document", none)
theorem sc_is_document : FnScope N_is_document ps_is_document (defScope s_is_document) := ⟨rfl, rfl, rfl, by decide +kernel, rfl, by decide +kernel, by decide +kernel⟩
def d_is_document : He.DefD := ⟨at_is_document, "is_document", "is_document", defArgs s_is_document, defBody s_is_document, defScope s_is_document, [], []⟩
abbrev s__law_draws : Stmt := top 16
abbrev N__law_draws : List Str := ["script", "draws", "cell", "seed", "k", "number", "first"]
abbrev ps__law_draws : List Str := ["script"]
abbrev at__law_draws : Str × Option Str := ("_law_draws", none)
theorem sc__law_draws : FnScope N__law_draws ps__law_draws (defScope s__law_draws) := ⟨rfl, rfl, rfl, by decide +kernel, rfl, by decide +kernel, by decide +kernel⟩
def d__law_draws : He.DefD := ⟨at__law_draws, "_law_draws", "_law_draws", defArgs s__law_draws, defBody s__law_draws, defScope s__law_draws, [], []⟩
abbrev s__law_take : Stmt := top 17
abbrev N__law_take : List Str := ["draws", "bound"]
abbrev ps__law_take : List Str := ["draws", "bound"]
abbrev at__law_take : Str × Option Str := ("_law_take", none)
theorem sc__law_take : FnScope N__law_take ps__law_take (defScope s__law_take) := ⟨rfl, rfl, rfl, by decide +kernel, rfl, by decide +kernel, by decide +kernel⟩
def d__law_take : He.DefD := ⟨at__law_take, "_law_take", "_law_take", defArgs s__law_take, defBody s__law_take, defScope s__law_take, [], []⟩
abbrev s__law_same : Stmt := top 18
abbrev N__law_same : List Str := ["actual", "due", "k"]
abbrev ps__law_same : List Str := ["actual", "due"]
abbrev at__law_same : Str × Option Str := ("_law_same", none)
theorem sc__law_same : FnScope N__law_same ps__law_same (defScope s__law_same) := ⟨rfl, rfl, rfl, by decide +kernel, rfl, by decide +kernel, by decide +kernel⟩
def d__law_same : He.DefD := ⟨at__law_same, "_law_same", "_law_same", defArgs s__law_same, defBody s__law_same, defScope s__law_same, [], []⟩
abbrev s__law_string : Stmt := top 19
abbrev N__law_string : List Str := ["draws", "most", "signs", "string", "k"]
abbrev ps__law_string : List Str := ["draws", "most"]
abbrev at__law_string : Str × Option Str := ("_law_string", none)
theorem sc__law_string : FnScope N__law_string ps__law_string (defScope s__law_string) := ⟨rfl, rfl, rfl, by decide +kernel, rfl, by decide +kernel, by decide +kernel⟩
def d__law_string : He.DefD := ⟨at__law_string, "_law_string", "_law_string", defArgs s__law_string, defBody s__law_string, defScope s__law_string, [], []⟩
abbrev s__law_tree : Stmt := top 20
abbrev N__law_tree : List Str := ["draws", "depth", "names", "children", "many", "k", "beside"]
abbrev ps__law_tree : List Str := ["draws", "depth", "names"]
abbrev at__law_tree : Str × Option Str := ("_law_tree", none)
theorem sc__law_tree : FnScope N__law_tree ps__law_tree (defScope s__law_tree) := ⟨rfl, rfl, rfl, by decide +kernel, rfl, by decide +kernel, by decide +kernel⟩
def d__law_tree : He.DefD := ⟨at__law_tree, "_law_tree", "_law_tree", defArgs s__law_tree, defBody s__law_tree, defScope s__law_tree, [], []⟩
abbrev s__law_names : Stmt := top 21
abbrev N__law_names : List Str := ["draws"]
abbrev ps__law_names : List Str := ["draws"]
abbrev at__law_names : Str × Option Str := ("_law_names", none)
theorem sc__law_names : FnScope N__law_names ps__law_names (defScope s__law_names) := ⟨rfl, rfl, rfl, by decide +kernel, rfl, by decide +kernel, by decide +kernel⟩
def d__law_names : He.DefD := ⟨at__law_names, "_law_names", "_law_names", defArgs s__law_names, defBody s__law_names, defScope s__law_names, [], []⟩
abbrev s__law_bad_name : Stmt := top 22
abbrev N__law_bad_name : List Str := ["draws"]
abbrev ps__law_bad_name : List Str := ["draws"]
abbrev at__law_bad_name : Str × Option Str := ("_law_bad_name", none)
theorem sc__law_bad_name : FnScope N__law_bad_name ps__law_bad_name (defScope s__law_bad_name) := ⟨rfl, rfl, rfl, by decide +kernel, rfl, by decide +kernel, by decide +kernel⟩
def d__law_bad_name : He.DefD := ⟨at__law_bad_name, "_law_bad_name", "_law_bad_name", defArgs s__law_bad_name, defBody s__law_bad_name, defScope s__law_bad_name, [], []⟩
abbrev s__law_bad_text : Stmt := top 23
abbrev N__law_bad_text : List Str := ["draws"]
abbrev ps__law_bad_text : List Str := ["draws"]
abbrev at__law_bad_text : Str × Option Str := ("_law_bad_text", none)
theorem sc__law_bad_text : FnScope N__law_bad_text ps__law_bad_text (defScope s__law_bad_text) := ⟨rfl, rfl, rfl, by decide +kernel, rfl, by decide +kernel, by decide +kernel⟩
def d__law_bad_text : He.DefD := ⟨at__law_bad_text, "_law_bad_text", "_law_bad_text", defArgs s__law_bad_text, defBody s__law_bad_text, defScope s__law_bad_text, [], []⟩
abbrev s__law_spoilt : Stmt := top 24
abbrev N__law_spoilt : List Str := ["draws", "tree", "children", "inner", "kind", "at", "k"]
abbrev ps__law_spoilt : List Str := ["draws", "tree"]
abbrev at__law_spoilt : Str × Option Str := ("_law_spoilt", none)
theorem sc__law_spoilt : FnScope N__law_spoilt ps__law_spoilt (defScope s__law_spoilt) := ⟨rfl, rfl, rfl, by decide +kernel, rfl, by decide +kernel, by decide +kernel⟩
def d__law_spoilt : He.DefD := ⟨at__law_spoilt, "_law_spoilt", "_law_spoilt", defArgs s__law_spoilt, defBody s__law_spoilt, defScope s__law_spoilt, [], []⟩
abbrev s__law_chain : Stmt := top 25
abbrev N__law_chain : List Str := ["depth", "tree", "k"]
abbrev ps__law_chain : List Str := ["depth"]
abbrev at__law_chain : Str × Option Str := ("_law_chain", none)
theorem sc__law_chain : FnScope N__law_chain ps__law_chain (defScope s__law_chain) := ⟨rfl, rfl, rfl, by decide +kernel, rfl, by decide +kernel, by decide +kernel⟩
def d__law_chain : He.DefD := ⟨at__law_chain, "_law_chain", "_law_chain", defArgs s__law_chain, defBody s__law_chain, defScope s__law_chain, [], []⟩
abbrev s_law : Stmt := top 26
abbrev N_law : List Str := ["script", "draws", "tree", "depth", "many", "k"]
abbrev ps_law : List Str := ["script"]
abbrev at_law : Str × Option Str := ("law", none)
theorem sc_law : FnScope N_law ps_law (defScope s_law) := ⟨rfl, rfl, rfl, by decide +kernel, rfl, by decide +kernel, by decide +kernel⟩
def d_law : He.DefD := ⟨at_law, "law", "law", defArgs s_law, defBody s_law, defScope s_law, [], []⟩
def fn : List He.DefD := [d_is_sign, d_has_only_signs, d_is_letter, d_is_name, d_is_text, d__children, d__has_texts_beside, d__is_well_made, d_is_document, d__law_draws, d__law_take, d__law_same, d__law_string, d__law_tree, d__law_names, d__law_bad_name, d__law_bad_text, d__law_spoilt, d__law_chain, d_law]
def fa : List He.Fa := [.free "len", .free "range", .free "int", .free "str", .free "list", .free "tuple", .free "bool", .free "zip", .free "reversed", .free "isinstance", .free "abs", .free "any", .free "all", .int "NAME_LETTERS" 12, .int "TEXT_CHARACTERS" 200, .int "MOST_NODES" 5000, .int "MOST_DEPTH" 60, .glo "is_sign", .glo "has_only_signs", .glo "is_letter", .glo "is_name", .glo "is_text", .glo "_children", .glo "_has_texts_beside", .glo "_is_well_made", .glo "is_document", .glo "_law_draws", .glo "_law_take", .glo "_law_same", .glo "_law_string", .glo "_law_tree", .glo "_law_names", .glo "_law_bad_name", .glo "_law_bad_text", .glo "_law_spoilt", .glo "_law_chain", .glo "law"]
def fx : List Fx := []
def ts : List He.Tab := []
def tf : List He.Defn := [at_has_only_signs, at_is_name, at__has_texts_beside]
def genT (K : PySem.W.Frag) : List Addr := tf.map fun p => (He.cT K p).2
abbrev TX (K : PySem.W.Frag) (mg : Str → Option Value) : Prop := Txt fa fn fx K mg
theorem TX.n_len {K : PySem.W.Frag} {mg : Str → Option Value} (T : TX K mg) : mg "len" = none := T.no 0 _ rfl
theorem TX.n_range {K : PySem.W.Frag} {mg : Str → Option Value} (T : TX K mg) : mg "range" = none := T.no 1 _ rfl
theorem TX.n_int {K : PySem.W.Frag} {mg : Str → Option Value} (T : TX K mg) : mg "int" = none := T.no 2 _ rfl
theorem TX.n_str {K : PySem.W.Frag} {mg : Str → Option Value} (T : TX K mg) : mg "str" = none := T.no 3 _ rfl
theorem TX.n_list {K : PySem.W.Frag} {mg : Str → Option Value} (T : TX K mg) : mg "list" = none := T.no 4 _ rfl
theorem TX.n_tuple {K : PySem.W.Frag} {mg : Str → Option Value} (T : TX K mg) : mg "tuple" = none := T.no 5 _ rfl
theorem TX.n_bool {K : PySem.W.Frag} {mg : Str → Option Value} (T : TX K mg) : mg "bool" = none := T.no 6 _ rfl
theorem TX.n_zip {K : PySem.W.Frag} {mg : Str → Option Value} (T : TX K mg) : mg "zip" = none := T.no 7 _ rfl
theorem TX.n_reversed {K : PySem.W.Frag} {mg : Str → Option Value} (T : TX K mg) : mg "reversed" = none := T.no 8 _ rfl
theorem TX.n_isinstance {K : PySem.W.Frag} {mg : Str → Option Value} (T : TX K mg) : mg "isinstance" = none := T.no 9 _ rfl
theorem TX.n_abs {K : PySem.W.Frag} {mg : Str → Option Value} (T : TX K mg) : mg "abs" = none := T.no 10 _ rfl
theorem TX.n_any {K : PySem.W.Frag} {mg : Str → Option Value} (T : TX K mg) : mg "any" = none := T.no 11 _ rfl
theorem TX.n_all {K : PySem.W.Frag} {mg : Str → Option Value} (T : TX K mg) : mg "all" = none := T.no 12 _ rfl
theorem TX.c_NAME_LETTERS {K : PySem.W.Frag} {mg : Str → Option Value} (T : TX K mg) : ∃ t, mg "NAME_LETTERS" = some (.int 12 t) := T.int 13 _ _ rfl
theorem TX.c_TEXT_CHARACTERS {K : PySem.W.Frag} {mg : Str → Option Value} (T : TX K mg) : ∃ t, mg "TEXT_CHARACTERS" = some (.int 200 t) := T.int 14 _ _ rfl
theorem TX.c_MOST_NODES {K : PySem.W.Frag} {mg : Str → Option Value} (T : TX K mg) : ∃ t, mg "MOST_NODES" = some (.int 5000 t) := T.int 15 _ _ rfl
theorem TX.c_MOST_DEPTH {K : PySem.W.Frag} {mg : Str → Option Value} (T : TX K mg) : ∃ t, mg "MOST_DEPTH" = some (.int 60 t) := T.int 16 _ _ rfl
theorem TX.g_is_sign {K : PySem.W.Frag} {mg : Str → Option Value} (T : TX K mg) : mg "is_sign" = some (.ref (He.ga K "is_sign")) := T.gl 17 _ rfl
theorem TX.k_is_sign {K : PySem.W.Frag} {mg : Str → Option Value} (T : TX K mg) : PySem.W.keepIn K (.ref (He.fAd K at_is_sign)) = true := (T.d 0 _ rfl).choose_spec.kp
theorem TX.g_has_only_signs {K : PySem.W.Frag} {mg : Str → Option Value} (T : TX K mg) : mg "has_only_signs" = some (.ref (He.ga K "has_only_signs")) := T.gl 18 _ rfl
theorem TX.k_has_only_signs {K : PySem.W.Frag} {mg : Str → Option Value} (T : TX K mg) : PySem.W.keepIn K (.ref (He.fAd K at_has_only_signs)) = true := (T.d 1 _ rfl).choose_spec.kp
theorem TX.g_is_letter {K : PySem.W.Frag} {mg : Str → Option Value} (T : TX K mg) : mg "is_letter" = some (.ref (He.ga K "is_letter")) := T.gl 19 _ rfl
theorem TX.k_is_letter {K : PySem.W.Frag} {mg : Str → Option Value} (T : TX K mg) : PySem.W.keepIn K (.ref (He.fAd K at_is_letter)) = true := (T.d 2 _ rfl).choose_spec.kp
theorem TX.g_is_name {K : PySem.W.Frag} {mg : Str → Option Value} (T : TX K mg) : mg "is_name" = some (.ref (He.ga K "is_name")) := T.gl 20 _ rfl
theorem TX.k_is_name {K : PySem.W.Frag} {mg : Str → Option Value} (T : TX K mg) : PySem.W.keepIn K (.ref (He.fAd K at_is_name)) = true := (T.d 3 _ rfl).choose_spec.kp
theorem TX.g_is_text {K : PySem.W.Frag} {mg : Str → Option Value} (T : TX K mg) : mg "is_text" = some (.ref (He.ga K "is_text")) := T.gl 21 _ rfl
theorem TX.k_is_text {K : PySem.W.Frag} {mg : Str → Option Value} (T : TX K mg) : PySem.W.keepIn K (.ref (He.fAd K at_is_text)) = true := (T.d 4 _ rfl).choose_spec.kp
theorem TX.g__children {K : PySem.W.Frag} {mg : Str → Option Value} (T : TX K mg) : mg "_children" = some (.ref (He.ga K "_children")) := T.gl 22 _ rfl
theorem TX.k__children {K : PySem.W.Frag} {mg : Str → Option Value} (T : TX K mg) : PySem.W.keepIn K (.ref (He.fAd K at__children)) = true := (T.d 5 _ rfl).choose_spec.kp
theorem TX.g__has_texts_beside {K : PySem.W.Frag} {mg : Str → Option Value} (T : TX K mg) : mg "_has_texts_beside" = some (.ref (He.ga K "_has_texts_beside")) := T.gl 23 _ rfl
theorem TX.k__has_texts_beside {K : PySem.W.Frag} {mg : Str → Option Value} (T : TX K mg) : PySem.W.keepIn K (.ref (He.fAd K at__has_texts_beside)) = true := (T.d 6 _ rfl).choose_spec.kp
theorem TX.g__is_well_made {K : PySem.W.Frag} {mg : Str → Option Value} (T : TX K mg) : mg "_is_well_made" = some (.ref (He.ga K "_is_well_made")) := T.gl 24 _ rfl
theorem TX.k__is_well_made {K : PySem.W.Frag} {mg : Str → Option Value} (T : TX K mg) : PySem.W.keepIn K (.ref (He.fAd K at__is_well_made)) = true := (T.d 7 _ rfl).choose_spec.kp
theorem TX.g_is_document {K : PySem.W.Frag} {mg : Str → Option Value} (T : TX K mg) : mg "is_document" = some (.ref (He.ga K "is_document")) := T.gl 25 _ rfl
theorem TX.k_is_document {K : PySem.W.Frag} {mg : Str → Option Value} (T : TX K mg) : PySem.W.keepIn K (.ref (He.fAd K at_is_document)) = true := (T.d 8 _ rfl).choose_spec.kp
theorem TX.g__law_draws {K : PySem.W.Frag} {mg : Str → Option Value} (T : TX K mg) : mg "_law_draws" = some (.ref (He.ga K "_law_draws")) := T.gl 26 _ rfl
theorem TX.k__law_draws {K : PySem.W.Frag} {mg : Str → Option Value} (T : TX K mg) : PySem.W.keepIn K (.ref (He.fAd K at__law_draws)) = true := (T.d 9 _ rfl).choose_spec.kp
theorem TX.g__law_take {K : PySem.W.Frag} {mg : Str → Option Value} (T : TX K mg) : mg "_law_take" = some (.ref (He.ga K "_law_take")) := T.gl 27 _ rfl
theorem TX.k__law_take {K : PySem.W.Frag} {mg : Str → Option Value} (T : TX K mg) : PySem.W.keepIn K (.ref (He.fAd K at__law_take)) = true := (T.d 10 _ rfl).choose_spec.kp
theorem TX.g__law_same {K : PySem.W.Frag} {mg : Str → Option Value} (T : TX K mg) : mg "_law_same" = some (.ref (He.ga K "_law_same")) := T.gl 28 _ rfl
theorem TX.k__law_same {K : PySem.W.Frag} {mg : Str → Option Value} (T : TX K mg) : PySem.W.keepIn K (.ref (He.fAd K at__law_same)) = true := (T.d 11 _ rfl).choose_spec.kp
theorem TX.g__law_string {K : PySem.W.Frag} {mg : Str → Option Value} (T : TX K mg) : mg "_law_string" = some (.ref (He.ga K "_law_string")) := T.gl 29 _ rfl
theorem TX.k__law_string {K : PySem.W.Frag} {mg : Str → Option Value} (T : TX K mg) : PySem.W.keepIn K (.ref (He.fAd K at__law_string)) = true := (T.d 12 _ rfl).choose_spec.kp
theorem TX.g__law_tree {K : PySem.W.Frag} {mg : Str → Option Value} (T : TX K mg) : mg "_law_tree" = some (.ref (He.ga K "_law_tree")) := T.gl 30 _ rfl
theorem TX.k__law_tree {K : PySem.W.Frag} {mg : Str → Option Value} (T : TX K mg) : PySem.W.keepIn K (.ref (He.fAd K at__law_tree)) = true := (T.d 13 _ rfl).choose_spec.kp
theorem TX.g__law_names {K : PySem.W.Frag} {mg : Str → Option Value} (T : TX K mg) : mg "_law_names" = some (.ref (He.ga K "_law_names")) := T.gl 31 _ rfl
theorem TX.k__law_names {K : PySem.W.Frag} {mg : Str → Option Value} (T : TX K mg) : PySem.W.keepIn K (.ref (He.fAd K at__law_names)) = true := (T.d 14 _ rfl).choose_spec.kp
theorem TX.g__law_bad_name {K : PySem.W.Frag} {mg : Str → Option Value} (T : TX K mg) : mg "_law_bad_name" = some (.ref (He.ga K "_law_bad_name")) := T.gl 32 _ rfl
theorem TX.k__law_bad_name {K : PySem.W.Frag} {mg : Str → Option Value} (T : TX K mg) : PySem.W.keepIn K (.ref (He.fAd K at__law_bad_name)) = true := (T.d 15 _ rfl).choose_spec.kp
theorem TX.g__law_bad_text {K : PySem.W.Frag} {mg : Str → Option Value} (T : TX K mg) : mg "_law_bad_text" = some (.ref (He.ga K "_law_bad_text")) := T.gl 33 _ rfl
theorem TX.k__law_bad_text {K : PySem.W.Frag} {mg : Str → Option Value} (T : TX K mg) : PySem.W.keepIn K (.ref (He.fAd K at__law_bad_text)) = true := (T.d 16 _ rfl).choose_spec.kp
theorem TX.g__law_spoilt {K : PySem.W.Frag} {mg : Str → Option Value} (T : TX K mg) : mg "_law_spoilt" = some (.ref (He.ga K "_law_spoilt")) := T.gl 34 _ rfl
theorem TX.k__law_spoilt {K : PySem.W.Frag} {mg : Str → Option Value} (T : TX K mg) : PySem.W.keepIn K (.ref (He.fAd K at__law_spoilt)) = true := (T.d 17 _ rfl).choose_spec.kp
theorem TX.g__law_chain {K : PySem.W.Frag} {mg : Str → Option Value} (T : TX K mg) : mg "_law_chain" = some (.ref (He.ga K "_law_chain")) := T.gl 35 _ rfl
theorem TX.k__law_chain {K : PySem.W.Frag} {mg : Str → Option Value} (T : TX K mg) : PySem.W.keepIn K (.ref (He.fAd K at__law_chain)) = true := (T.d 18 _ rfl).choose_spec.kp
theorem TX.g_law {K : PySem.W.Frag} {mg : Str → Option Value} (T : TX K mg) : mg "law" = some (.ref (He.ga K "law")) := T.gl 36 _ rfl
theorem TX.k_law {K : PySem.W.Frag} {mg : Str → Option Value} (T : TX K mg) : PySem.W.keepIn K (.ref (He.fAd K at_law)) = true := (T.d 19 _ rfl).choose_spec.kp
theorem mk_is_sign {P : Program} {w : World} {K : PySem.W.Frag} {mg : Str → Option Value} {base : Heap} {CX : CXT} {k : Nat} {sp : Sp} (T : TX K mg) (h : ∀ fd, FunD K "is_sign" "is_sign" (defArgs s_is_sign) (defBody s_is_sign) (defScope s_is_sign) [] [] (He.fAd K at_is_sign) fd → FnOk P w K mg base CX k (He.fAd K at_is_sign) fd ps_is_sign sp) :
    Can P w K mg base CX k (He.fAd K at_is_sign) ps_is_sign [] sp := by
  obtain ⟨fd, F⟩ := T.d 0 _ rfl
  exact ⟨fd, h fd F, [], .nil, FunD.bindsN F fun _ _ _ _ _ _ us hl => match us, hl with | [_], _ => rfl⟩
theorem mk_has_only_signs {P : Program} {w : World} {K : PySem.W.Frag} {mg : Str → Option Value} {base : Heap} {CX : CXT} {k : Nat} {sp : Sp} (T : TX K mg) (h : ∀ fd, FunD K "has_only_signs" "has_only_signs" (defArgs s_has_only_signs) (defBody s_has_only_signs) (defScope s_has_only_signs) [] [] (He.fAd K at_has_only_signs) fd → FnOk P w K mg base CX k (He.fAd K at_has_only_signs) fd ps_has_only_signs sp) :
    Can P w K mg base CX k (He.fAd K at_has_only_signs) ps_has_only_signs [] sp := by
  obtain ⟨fd, F⟩ := T.d 1 _ rfl
  exact ⟨fd, h fd F, [], .nil, FunD.bindsN F fun _ _ _ _ _ _ us hl => match us, hl with | [_], _ => rfl⟩
theorem mk_is_letter {P : Program} {w : World} {K : PySem.W.Frag} {mg : Str → Option Value} {base : Heap} {CX : CXT} {k : Nat} {sp : Sp} (T : TX K mg) (h : ∀ fd, FunD K "is_letter" "is_letter" (defArgs s_is_letter) (defBody s_is_letter) (defScope s_is_letter) [] [] (He.fAd K at_is_letter) fd → FnOk P w K mg base CX k (He.fAd K at_is_letter) fd ps_is_letter sp) :
    Can P w K mg base CX k (He.fAd K at_is_letter) ps_is_letter [] sp := by
  obtain ⟨fd, F⟩ := T.d 2 _ rfl
  exact ⟨fd, h fd F, [], .nil, FunD.bindsN F fun _ _ _ _ _ _ us hl => match us, hl with | [_], _ => rfl⟩
theorem mk_is_name {P : Program} {w : World} {K : PySem.W.Frag} {mg : Str → Option Value} {base : Heap} {CX : CXT} {k : Nat} {sp : Sp} (T : TX K mg) (h : ∀ fd, FunD K "is_name" "is_name" (defArgs s_is_name) (defBody s_is_name) (defScope s_is_name) [] [] (He.fAd K at_is_name) fd → FnOk P w K mg base CX k (He.fAd K at_is_name) fd ps_is_name sp) :
    Can P w K mg base CX k (He.fAd K at_is_name) ps_is_name [] sp := by
  obtain ⟨fd, F⟩ := T.d 3 _ rfl
  exact ⟨fd, h fd F, [], .nil, FunD.bindsN F fun _ _ _ _ _ _ us hl => match us, hl with | [_], _ => rfl⟩
theorem mk_is_text {P : Program} {w : World} {K : PySem.W.Frag} {mg : Str → Option Value} {base : Heap} {CX : CXT} {k : Nat} {sp : Sp} (T : TX K mg) (h : ∀ fd, FunD K "is_text" "is_text" (defArgs s_is_text) (defBody s_is_text) (defScope s_is_text) [] [] (He.fAd K at_is_text) fd → FnOk P w K mg base CX k (He.fAd K at_is_text) fd ps_is_text sp) :
    Can P w K mg base CX k (He.fAd K at_is_text) ps_is_text [] sp := by
  obtain ⟨fd, F⟩ := T.d 4 _ rfl
  exact ⟨fd, h fd F, [], .nil, FunD.bindsN F fun _ _ _ _ _ _ us hl => match us, hl with | [_], _ => rfl⟩
theorem mk__children {P : Program} {w : World} {K : PySem.W.Frag} {mg : Str → Option Value} {base : Heap} {CX : CXT} {k : Nat} {sp : Sp} (T : TX K mg) (h : ∀ fd, FunD K "_children" "_children" (defArgs s__children) (defBody s__children) (defScope s__children) [] [] (He.fAd K at__children) fd → FnOk P w K mg base CX k (He.fAd K at__children) fd ps__children sp) :
    Can P w K mg base CX k (He.fAd K at__children) ps__children [] sp := by
  obtain ⟨fd, F⟩ := T.d 5 _ rfl
  exact ⟨fd, h fd F, [], .nil, FunD.bindsN F fun _ _ _ _ _ _ us hl => match us, hl with | [_], _ => rfl⟩
theorem mk__has_texts_beside {P : Program} {w : World} {K : PySem.W.Frag} {mg : Str → Option Value} {base : Heap} {CX : CXT} {k : Nat} {sp : Sp} (T : TX K mg) (h : ∀ fd, FunD K "_has_texts_beside" "_has_texts_beside" (defArgs s__has_texts_beside) (defBody s__has_texts_beside) (defScope s__has_texts_beside) [] [] (He.fAd K at__has_texts_beside) fd → FnOk P w K mg base CX k (He.fAd K at__has_texts_beside) fd ps__has_texts_beside sp) :
    Can P w K mg base CX k (He.fAd K at__has_texts_beside) ps__has_texts_beside [] sp := by
  obtain ⟨fd, F⟩ := T.d 6 _ rfl
  exact ⟨fd, h fd F, [], .nil, FunD.bindsN F fun _ _ _ _ _ _ us hl => match us, hl with | [_], _ => rfl⟩
theorem mk__is_well_made {P : Program} {w : World} {K : PySem.W.Frag} {mg : Str → Option Value} {base : Heap} {CX : CXT} {k : Nat} {sp : Sp} (T : TX K mg) (h : ∀ fd, FunD K "_is_well_made" "_is_well_made" (defArgs s__is_well_made) (defBody s__is_well_made) (defScope s__is_well_made) [] [] (He.fAd K at__is_well_made) fd → FnOk P w K mg base CX k (He.fAd K at__is_well_made) fd ps__is_well_made sp) :
    Can P w K mg base CX k (He.fAd K at__is_well_made) ps__is_well_made [] sp := by
  obtain ⟨fd, F⟩ := T.d 7 _ rfl
  exact ⟨fd, h fd F, [], .nil, FunD.bindsN F fun _ _ _ _ _ _ us hl => match us, hl with | [_], _ => rfl⟩
theorem mk_is_document {P : Program} {w : World} {K : PySem.W.Frag} {mg : Str → Option Value} {base : Heap} {CX : CXT} {k : Nat} {sp : Sp} (T : TX K mg) (h : ∀ fd, FunD K "is_document" "is_document" (defArgs s_is_document) (defBody s_is_document) (defScope s_is_document) [] [] (He.fAd K at_is_document) fd → FnOk P w K mg base CX k (He.fAd K at_is_document) fd ps_is_document sp) :
    Can P w K mg base CX k (He.fAd K at_is_document) ps_is_document [] sp := by
  obtain ⟨fd, F⟩ := T.d 8 _ rfl
  exact ⟨fd, h fd F, [], .nil, FunD.bindsN F fun _ _ _ _ _ _ us hl => match us, hl with | [_], _ => rfl⟩
theorem mk__law_draws {P : Program} {w : World} {K : PySem.W.Frag} {mg : Str → Option Value} {base : Heap} {CX : CXT} {k : Nat} {sp : Sp} (T : TX K mg) (h : ∀ fd, FunD K "_law_draws" "_law_draws" (defArgs s__law_draws) (defBody s__law_draws) (defScope s__law_draws) [] [] (He.fAd K at__law_draws) fd → FnOk P w K mg base CX k (He.fAd K at__law_draws) fd ps__law_draws sp) :
    Can P w K mg base CX k (He.fAd K at__law_draws) ps__law_draws [] sp := by
  obtain ⟨fd, F⟩ := T.d 9 _ rfl
  exact ⟨fd, h fd F, [], .nil, FunD.bindsN F fun _ _ _ _ _ _ us hl => match us, hl with | [_], _ => rfl⟩
theorem mk__law_take {P : Program} {w : World} {K : PySem.W.Frag} {mg : Str → Option Value} {base : Heap} {CX : CXT} {k : Nat} {sp : Sp} (T : TX K mg) (h : ∀ fd, FunD K "_law_take" "_law_take" (defArgs s__law_take) (defBody s__law_take) (defScope s__law_take) [] [] (He.fAd K at__law_take) fd → FnOk P w K mg base CX k (He.fAd K at__law_take) fd ps__law_take sp) :
    Can P w K mg base CX k (He.fAd K at__law_take) ps__law_take [] sp := by
  obtain ⟨fd, F⟩ := T.d 10 _ rfl
  exact ⟨fd, h fd F, [], .nil, FunD.bindsN F fun _ _ _ _ _ _ us hl => match us, hl with | [_, _], _ => rfl⟩
theorem mk__law_same {P : Program} {w : World} {K : PySem.W.Frag} {mg : Str → Option Value} {base : Heap} {CX : CXT} {k : Nat} {sp : Sp} (T : TX K mg) (h : ∀ fd, FunD K "_law_same" "_law_same" (defArgs s__law_same) (defBody s__law_same) (defScope s__law_same) [] [] (He.fAd K at__law_same) fd → FnOk P w K mg base CX k (He.fAd K at__law_same) fd ps__law_same sp) :
    Can P w K mg base CX k (He.fAd K at__law_same) ps__law_same [] sp := by
  obtain ⟨fd, F⟩ := T.d 11 _ rfl
  exact ⟨fd, h fd F, [], .nil, FunD.bindsN F fun _ _ _ _ _ _ us hl => match us, hl with | [_, _], _ => rfl⟩
theorem mk__law_string {P : Program} {w : World} {K : PySem.W.Frag} {mg : Str → Option Value} {base : Heap} {CX : CXT} {k : Nat} {sp : Sp} (T : TX K mg) (h : ∀ fd, FunD K "_law_string" "_law_string" (defArgs s__law_string) (defBody s__law_string) (defScope s__law_string) [] [] (He.fAd K at__law_string) fd → FnOk P w K mg base CX k (He.fAd K at__law_string) fd ps__law_string sp) :
    Can P w K mg base CX k (He.fAd K at__law_string) ps__law_string [] sp := by
  obtain ⟨fd, F⟩ := T.d 12 _ rfl
  exact ⟨fd, h fd F, [], .nil, FunD.bindsN F fun _ _ _ _ _ _ us hl => match us, hl with | [_, _], _ => rfl⟩
theorem mk__law_tree {P : Program} {w : World} {K : PySem.W.Frag} {mg : Str → Option Value} {base : Heap} {CX : CXT} {k : Nat} {sp : Sp} (T : TX K mg) (h : ∀ fd, FunD K "_law_tree" "_law_tree" (defArgs s__law_tree) (defBody s__law_tree) (defScope s__law_tree) [] [] (He.fAd K at__law_tree) fd → FnOk P w K mg base CX k (He.fAd K at__law_tree) fd ps__law_tree sp) :
    Can P w K mg base CX k (He.fAd K at__law_tree) ps__law_tree [] sp := by
  obtain ⟨fd, F⟩ := T.d 13 _ rfl
  exact ⟨fd, h fd F, [], .nil, FunD.bindsN F fun _ _ _ _ _ _ us hl => match us, hl with | [_, _, _], _ => rfl⟩
theorem mk__law_names {P : Program} {w : World} {K : PySem.W.Frag} {mg : Str → Option Value} {base : Heap} {CX : CXT} {k : Nat} {sp : Sp} (T : TX K mg) (h : ∀ fd, FunD K "_law_names" "_law_names" (defArgs s__law_names) (defBody s__law_names) (defScope s__law_names) [] [] (He.fAd K at__law_names) fd → FnOk P w K mg base CX k (He.fAd K at__law_names) fd ps__law_names sp) :
    Can P w K mg base CX k (He.fAd K at__law_names) ps__law_names [] sp := by
  obtain ⟨fd, F⟩ := T.d 14 _ rfl
  exact ⟨fd, h fd F, [], .nil, FunD.bindsN F fun _ _ _ _ _ _ us hl => match us, hl with | [_], _ => rfl⟩
theorem mk__law_bad_name {P : Program} {w : World} {K : PySem.W.Frag} {mg : Str → Option Value} {base : Heap} {CX : CXT} {k : Nat} {sp : Sp} (T : TX K mg) (h : ∀ fd, FunD K "_law_bad_name" "_law_bad_name" (defArgs s__law_bad_name) (defBody s__law_bad_name) (defScope s__law_bad_name) [] [] (He.fAd K at__law_bad_name) fd → FnOk P w K mg base CX k (He.fAd K at__law_bad_name) fd ps__law_bad_name sp) :
    Can P w K mg base CX k (He.fAd K at__law_bad_name) ps__law_bad_name [] sp := by
  obtain ⟨fd, F⟩ := T.d 15 _ rfl
  exact ⟨fd, h fd F, [], .nil, FunD.bindsN F fun _ _ _ _ _ _ us hl => match us, hl with | [_], _ => rfl⟩
theorem mk__law_bad_text {P : Program} {w : World} {K : PySem.W.Frag} {mg : Str → Option Value} {base : Heap} {CX : CXT} {k : Nat} {sp : Sp} (T : TX K mg) (h : ∀ fd, FunD K "_law_bad_text" "_law_bad_text" (defArgs s__law_bad_text) (defBody s__law_bad_text) (defScope s__law_bad_text) [] [] (He.fAd K at__law_bad_text) fd → FnOk P w K mg base CX k (He.fAd K at__law_bad_text) fd ps__law_bad_text sp) :
    Can P w K mg base CX k (He.fAd K at__law_bad_text) ps__law_bad_text [] sp := by
  obtain ⟨fd, F⟩ := T.d 16 _ rfl
  exact ⟨fd, h fd F, [], .nil, FunD.bindsN F fun _ _ _ _ _ _ us hl => match us, hl with | [_], _ => rfl⟩
theorem mk__law_spoilt {P : Program} {w : World} {K : PySem.W.Frag} {mg : Str → Option Value} {base : Heap} {CX : CXT} {k : Nat} {sp : Sp} (T : TX K mg) (h : ∀ fd, FunD K "_law_spoilt" "_law_spoilt" (defArgs s__law_spoilt) (defBody s__law_spoilt) (defScope s__law_spoilt) [] [] (He.fAd K at__law_spoilt) fd → FnOk P w K mg base CX k (He.fAd K at__law_spoilt) fd ps__law_spoilt sp) :
    Can P w K mg base CX k (He.fAd K at__law_spoilt) ps__law_spoilt [] sp := by
  obtain ⟨fd, F⟩ := T.d 17 _ rfl
  exact ⟨fd, h fd F, [], .nil, FunD.bindsN F fun _ _ _ _ _ _ us hl => match us, hl with | [_, _], _ => rfl⟩
theorem mk__law_chain {P : Program} {w : World} {K : PySem.W.Frag} {mg : Str → Option Value} {base : Heap} {CX : CXT} {k : Nat} {sp : Sp} (T : TX K mg) (h : ∀ fd, FunD K "_law_chain" "_law_chain" (defArgs s__law_chain) (defBody s__law_chain) (defScope s__law_chain) [] [] (He.fAd K at__law_chain) fd → FnOk P w K mg base CX k (He.fAd K at__law_chain) fd ps__law_chain sp) :
    Can P w K mg base CX k (He.fAd K at__law_chain) ps__law_chain [] sp := by
  obtain ⟨fd, F⟩ := T.d 18 _ rfl
  exact ⟨fd, h fd F, [], .nil, FunD.bindsN F fun _ _ _ _ _ _ us hl => match us, hl with | [_], _ => rfl⟩
theorem mk_law {P : Program} {w : World} {K : PySem.W.Frag} {mg : Str → Option Value} {base : Heap} {CX : CXT} {k : Nat} {sp : Sp} (T : TX K mg) (h : ∀ fd, FunD K "law" "law" (defArgs s_law) (defBody s_law) (defScope s_law) [] [] (He.fAd K at_law) fd → FnOk P w K mg base CX k (He.fAd K at_law) fd ps_law sp) :
    Can P w K mg base CX k (He.fAd K at_law) ps_law [] sp := by
  obtain ⟨fd, F⟩ := T.d 19 _ rfl
  exact ⟨fd, h fd F, [], .nil, FunD.bindsN F fun _ _ _ _ _ _ us hl => match us, hl with | [_], _ => rfl⟩
/-! ### values that are data -/
theorem dp_ex {K : PySem.W.Frag} {H H' : Hp} (e : Ex H H') : ∀ {d : PyData} {v : V}, Dp K H v d → Dp K H' v d := by
  intro d v h
  refine Dp.rec (motive_1 := fun v d _ => Dp K H' v d) (motive_2 := fun vs ds _ => DpAll K H' vs ds) .non .bl .int .str (fun h _ ih => .lst (ex_l e h) ih) (fun h _ ih => .tup (ex_t e h) ih) .nil (fun _ _ a b => .cons a b) h
theorem dpAll_ex {K : PySem.W.Frag} {H H' : Hp} (e : Ex H H') : ∀ {ds : List PyData} {vs : List V}, DpAll K H vs ds → DpAll K H' vs ds
  | [], _, h => by
    cases h
    exact .nil
  | d :: ds, _, h => by
    cases h with
    | cons a b => exact .cons (dp_ex e a) (dpAll_ex e b)
theorem dpAll_snoc {K : PySem.W.Frag} {H : Hp} {v : V} {d : PyData} : ∀ {ds : List PyData} {vs : List V}, DpAll K H vs ds → Dp K H v d → DpAll K H (vs ++ [v]) (ds ++ [d])
  | [], _, h, h2 => by
    cases h
    exact .cons h2 .nil
  | c :: ds, _, h, h2 => by
    cases h with
    | cons a b => exact .cons a (dpAll_snoc b h2)
theorem dpa_at {K : PySem.W.Frag} {H : Hp} : ∀ {ds : List PyData} {xs : List V} {i : Nat} {x : V}, DpAll K H xs ds → xs[i]? = some x → ∃ d, ds[i]? = some d ∧ Dp K H x d
  | [], _, _, _, h, e => by
    cases h
    cases e
  | c :: ds, _, 0, _, h, e => by
    cases h with
    | cons a b =>
      cases e
      exact ⟨c, rfl, a⟩
  | c :: ds, _, i + 1, _, h, e => by
    cases h with
    | cons a b => exact dpa_at (i := i) b e
theorem dpa_len {K : PySem.W.Frag} {H : Hp} : ∀ {ds : List PyData} {xs : List V}, DpAll K H xs ds → xs.length = ds.length
  | [], _, h => by
    cases h
    rfl
  | c :: ds, _, h => by
    cases h with
    | cons a b => rw [List.length_cons, List.length_cons, dpa_len b]
/-! ### the draws -/
/-- a list of numbers stands at d -/
def Dr (H : Hp) (d : Addr) : Prop := ∃ ns : List Int, H d = some (.lst (ns.map V.int))
theorem Dr.kp {S : List Addr} {H H' : Hp} {d : Addr} (D : Dr H d) (e : Kp S H H') (h : d ∉ S) : Dr H' d := D.imp fun _ g => e.at g h
theorem Dr.keep {H H' : Hp} {d : Addr} (D : Dr H d) (e : Ex H H') : Dr H' d := D.imp fun _ g => e _ _ g
theorem Dr.on {H : Hp} {d : Addr} (D : Dr H d) : H d ≠ none := by
  obtain ⟨ns, h⟩ := D
  rw [h]
  intro z
  cases z
theorem Dr.ne {H : Hp} {d p : Addr} (D : Dr H d) (h : H p = none) : p ≠ d := fun e => D.on (e ▸ h)
theorem Dr.put {H : Hp} {d p : Addr} {o : HO} (D : Dr H d) (h : H p = none) : Dr (upd H p o) d := D.keep (Ex.new h)
theorem Dr.mut {H : Hp} {d p : Addr} {o : HO} (D : Dr H d) (h : p ≠ d) : Dr (upd H p o) d := D.kp (Kp.up (p := p)) fun z => h (List.mem_singleton.mp z).symm
def spTake : Sp := fun vs H Q _ => ∃ (d : Addr) (m : Int), vs = [.ref d, .int m] ∧ 0 < m ∧ Dr H d ∧ ∀ (v : Int) (H' : Hp), 0 ≤ v → v < m → Dr H' d → Kp [d] H H' → Q (.int v) H'
theorem fmod_in {i m : Int} (h : 0 < m) : 0 ≤ i.fmod m ∧ i.fmod m < m := by
  rw [Int.fmod_eq_emod_of_nonneg i (Int.le_of_lt h)]
  exact ⟨Int.emod_nonneg _ (by omega), Int.emod_lt_of_pos _ h⟩
theorem rd_take {σ : L2.St} {H : Hp} {i : Nat} {te : TE} {d : Addr} {m : Int} {Q : VK} {E : XK} (hσ : σ[i]? = some (some (.ref d))) (hm : Val te σ H (.int m)) (m0 : 0 < m) (D : Dr H d)
    (k : ∀ (v : Int) (H' : Hp), 0 ≤ v → v < m → Dr H' d → Kp [d] H H' → Q (.int v) H') : tCall spTake [] E (tCons (tVar i) (tCons te tNil)) σ H Q := ⟨_, hσ, hm _ ⟨d, m, rfl, m0, D, k⟩⟩
def spDraws (K : PySem.W.Frag) : Sp := fun vs H Q _ => ∃ (a : Addr) (ns : List Int), vs = [.ref a] ∧ SqL K H a (ns.map V.int) ∧ ns.length ≤ 63 ∧ ∀ (d : Addr) (H' : Hp), H d = none → Dr H' d → Ex H H' → Q (.ref d) H'
section
variable {P : Program} {w : World} {K : PySem.W.Frag} {mg : Str → Option Value} {base : Heap}
theorem ok__law_take (T : TX K mg) : Can P w K mg base CX0 1 (He.fAd K at__law_take) ps__law_take [] spTake := mk__law_take T fun fd F => def0 F sc__law_take (fun vs H Q E h => by
  obtain ⟨d, m, rfl, _⟩ := h
  rfl) fun cdv A outer s H vs Q E hr h => by
  obtain ⟨d, m, rfl, m0, ⟨ns, hd⟩, k⟩ := h
  refine ⟨_, (pss_cons (ps_if (pt_cmpR op_eq (pe_callB (cLen K rfl) (by rfl) T.n_len PySem.boot_len (pa_cons (pv 0) pa_nil)) pe_int (nomark _)) (pss_one (ps_ret pe_int)) pss_nil)
  (pss_one (ps_ret (pe_op op_modN (pe_callTy call_int1 (by rfl) T.n_int (by decide +kernel) (pa_cons (eBm0 K rfl PySem.F.plainAttrs_list PySem.F.slot_list_pop PySem.F.type_list_pop mt_pop (pv 0)) pa_nil)) (pv 1))))), ?_⟩
  refine st_seq (st_if (ans_v (val_eq (val_lenL (val_var rfl) (SqL.of hd)) val_c rfl)) (fun h0 => ?_) (fun h0 => ?_))
  · exact go_ret (k 0 H (Int.le_refl _) m0 ⟨ns, hd⟩ Kp.refl)
  · have hl : ns ≠ [] := fun z => by
      subst z
      simp at h0
    have hlast : (ns.map V.int)[(ns.map V.int).length - 1]? = some (.int (ns.getLast hl)) := by
      rw [List.length_map]
      refine at_int ?_
      rw [← List.getLast?_eq_getElem?, List.getLast?_eq_some_getLast hl]
    have hdrop : (ns.map V.int).dropLast = (ns.dropLast).map V.int := (List.map_dropLast ..).symm
    refine ⟨_, rfl, .inl ⟨rfl, _, SqL.of hd⟩, d, _, _, rfl, rfl, hd, hlast, .inl ⟨_, rfl, _, rfl, _, _, rfl, rfl, (by omega), ?_⟩⟩
    exact k _ _ (fmod_in m0).1 (fmod_in m0).2 ⟨ns.dropLast, by rw [upd_same, hdrop]⟩ (Kp.put (by simp))
theorem ok__law_draws (T : TX K mg) : Can P w K mg base CX0 1 (He.fAd K at__law_draws) ps__law_draws [] (spDraws K) := mk__law_draws T fun fd F => def0 F sc__law_draws (fun vs H Q E h => by
  obtain ⟨a, ns, rfl, _⟩ := h
  rfl) fun cdv A outer s H vs Q E hr h => by
  obtain ⟨a, ns, rfl, hS, hz, k⟩ := h
  refine ⟨_, (pss_cons (ps_set (i := 1) sc__law_draws.nd rfl (Or.inl rfl) (pe_lst pa_nil))
  (pss_cons (ps_for PassesOwn.never rfl (iLst K rfl (pv 0)) (pg_name (i := 2) sc__law_draws.nd rfl (Or.inl rfl))
  (pss_cons (ps_set (i := 5) sc__law_draws.nd rfl (Or.inl rfl) (pe_callB call_abs (by rfl) T.n_abs (by decide +kernel) (pa_cons (pv 2) pa_nil)))
  (Evl.pss_cut (ps_if (pt_cmpR op_lt (pv 5) (pe_op op_pow pe_int pe_int) (nomark _)) (pss_cons (ps_set (i := 6) sc__law_draws.nd rfl (Or.inl rfl) (pe_op op_modN (pe_callTy call_int1 (by rfl) T.n_int (by decide +kernel) (pa_cons (pe_op op_add (pe_op op_mul (pv 5) pe_int) pe_int) pa_nil)) pe_int))
  (pss_cons (ps_expr (eBm K rfl PySem.F.plainAttrs_list PySem.F.slot_list_append PySem.F.type_list_append mt_append (pv 1) (pa_cons (pe_op op_modN (pe_callTy call_int1 (by rfl) T.n_int (by decide +kernel) (pa_cons (pe_op op_add (pe_op op_mul (pv 6) pe_int) (pv 5)) pa_nil)) pe_int) pa_nil)))
  (pss_cons (ps_expr (eBm K rfl PySem.F.plainAttrs_list PySem.F.slot_list_append PySem.F.type_list_append mt_append (pv 1) (pa_cons (pe_op op_modN (pe_callTy call_int1 (by rfl) T.n_int (by decide +kernel) (pa_cons (pe_op op_add (pv 6) (pe_op op_fdivN (pv 5) pe_int)) pa_nil)) pe_int) pa_nil)))
  (pss_one (ps_set (i := 5) sc__law_draws.nd rfl (Or.inl rfl) pe_int))))) pss_nil)
  (pss_one (ps_for PassesOwn.never rfl (pi_range1 rfl T.n_range (pa_cons pe_int pa_nil)) (pg_name (i := 4) sc__law_draws.nd rfl (Or.inl rfl))
  (pss_one (ps_if (pt_cmpR op_gt (pv 5) pe_int (nomark _)) (pss_cons (ps_expr (eBm K rfl PySem.F.plainAttrs_list PySem.F.slot_list_append PySem.F.type_list_append mt_append (pv 1) (pa_cons (pe_op op_modN (pe_callTy call_int1 (by rfl) T.n_int (by decide +kernel) (pa_cons (pv 5) pa_nil)) pe_int) pa_nil)))
  (pss_one (ps_set (i := 5) sc__law_draws.nd rfl (Or.inl rfl) (pe_op op_fdivN (pv 5) pe_int)))) pss_nil)))))))
  (pss_cons (ps_set (i := 3) sc__law_draws.nd rfl (Or.inl rfl) pe_int)
  (Evl.pss_cut (ps_if (pt_cmpR op_gt (pe_callB (cLen K rfl) (by rfl) T.n_len PySem.boot_len (pa_cons (pv 0) pa_nil)) pe_int (nomark _)) (pss_one (ps_set (i := 3) sc__law_draws.nd rfl (Or.inl rfl) (pe_op op_add pe_int (pe_callB call_abs (by rfl) T.n_abs (by decide +kernel) (pa_cons (pe_ix (ixL K rfl) (pv 0) pe_int (fun _ _ => rfl)) pa_nil))))) pss_nil)
  (pss_cons (ps_for PassesOwn.never rfl (pi_range1 rfl T.n_range (pa_cons pe_int pa_nil)) (pg_name (i := 4) sc__law_draws.nd rfl (Or.inl rfl))
  (pss_cons (ps_set (i := 3) sc__law_draws.nd rfl (Or.inl rfl) (pe_op op_modN (pe_callTy call_int1 (by rfl) T.n_int (by decide +kernel) (pa_cons (pe_op op_add (pe_op op_mul (pv 3) pe_int) pe_int) pa_nil)) pe_int))
  (pss_one (ps_expr (eBm K rfl PySem.F.plainAttrs_list PySem.F.slot_list_append PySem.F.type_list_append mt_append (pv 1) (pa_cons (pe_op op_fdivN (pv 3) pe_int) pa_nil))))))
  (pss_one (ps_ret (pe_lstRev K rfl rfl (by rfl) T.n_list (by rfl) T.n_reversed (pv 1))))))))), ?_⟩
  refine ⟨by show 0 ≤ sizeLine; decide, fun p hp => ?_⟩
  dsimp only [gName]
  have vi : ∀ {te : TE} {σ : L2.St} {G : Hp} {i : Int}, Val te σ G (.int i) → Val (tCB (fun xs H Q => (∃ i, xs = [V.int i] ∧ Q (V.int i) H) ∨ ∃ k, xs = [V.bl k] ∧ Q (V.int (if k = true then 1 else 0)) H) (tCons te tNil)) σ G (.int i) := fun h => val_cb (va_one h) fun _ q => .inl ⟨_, rfl, q⟩
  have va : ∀ {te : TE} {σ : L2.St} {G : Hp} {i : Int}, Val te σ G (.int i) → Val (tCB (fun xs H Q => ∃ i, xs = [V.int i] ∧ Q (V.int (if i < 0 then -i else i)) H) (tCons te tNil)) σ G (.int (if i < 0 then -i else i)) := fun h => val_cb (va_one h) fun _ q => ⟨_, rfl, q⟩
  have app : ∀ {D : Ends} {σ : L2.St} {G : Hp} {te : TE} {ms : List Int} {v : Int}, σ[1]? = some (some (.ref p)) → G p = some (.lst (ms.map V.int)) → ms.length ≤ 10000 → Val te σ G (.int v) → D.nx σ (upd G p (.lst ((ms ++ [v]).map V.int))) → tDrop (tBM K "list" rAppend (tVar 1) (tCons te tNil)) D σ G := fun {D σ G te ms v} hσ hG hl hv k => st_app hG (val_var hσ) hv (small9 (by rw [List.length_map]; omega)) (by
    rw [List.map_append] at k
    exact k)
  refine st_seq (st_forL (val_var rfl) (ex_l (Ex.new hp) hS) (fun i σ G => ∃ v2 v4 v5 v6, ∃ ms : List Int, σ = [some (.ref a), some (.ref p), v2, none, v4, v5, v6] ∧ Ex H G ∧ G p = some (.lst (ms.map V.int)) ∧ ms.length ≤ 62 * i) ⟨_, _, _, _, [], rfl, Ex.new hp, upd_same, Nat.zero_le _⟩ (fun i σ G _ ⟨_, _, _, _, _, _, e, _⟩ => ex_l e hS) ?_ ?_)
  · rintro i x σ G hi ⟨v2, v4, v5, v6, ms, rfl, e, hG, hl⟩
    obtain ⟨z, hz', rfl⟩ := int_at hi
    have hi63 := lt_of_at hz'
    refine st_seq (go_asg (va (val_var rfl) _ ?_))
    generalize (if z < 0 then -z else z) = y
    dsimp only [gName]
    refine ⟨fun σ' G' => ∃ (y' : Int) (v6' : Option V) (ms' : List Int), σ' = [some (.ref a), some (.ref p), some (.int z), none, v4, some (.int y'), v6'] ∧ Ex H G' ∧ G' p = some (.lst (ms'.map V.int)) ∧ ms'.length ≤ 62 * i + 2, ?_, ?_⟩
    · refine st_if (ans_v (val_I (g := fun i j => .bl (decide (i < j))) (val_var rfl) (val_IC (g := fun i j => .int (i ^ j.toNat)) val_c val_c ⟨by decide, by decide, by decide⟩))) (fun _ => ?_) (fun _ => ⟨y, v6, ms, rfl, e, hG, by omega⟩)
      refine st_seq (go_asg (val_IC (g := fun i j => .int (i.fmod j)) (vi (val_I (g := fun i j => .int (i + j)) (val_IC (g := fun i j => .int (i * j)) (val_var rfl) val_c (.inr ⟨by decide, by decide⟩)) val_c)) val_c (by decide) _ ?_))
      dsimp only [gName]
      refine st_seq (app rfl hG (by omega) (val_IC (g := fun i j => .int (i.fmod j)) (vi (val_I (g := fun i j => .int (i + j)) (val_IC (g := fun i j => .int (i * j)) (val_var rfl) val_c (.inr ⟨by decide, by decide⟩)) (val_var rfl))) val_c (by decide)) ?_)
      refine st_seq (app rfl upd_same (by rw [List.length_append]; show _ + 1 ≤ _; omega) (val_IC (g := fun i j => .int (i.fmod j)) (vi (val_I (g := fun i j => .int (i + j)) (val_var rfl) (val_IC (g := fun i j => .int (i.fdiv j)) (val_var rfl) val_c ⟨by decide, by decide⟩))) val_c (by decide)) ?_)
      rw [upd_upd]
      exact ⟨0, _, _, rfl, e.mut hp, upd_same, by rw [List.length_append, List.length_append]; show _ + 1 + 1 ≤ _; omega⟩
    · rintro σ' G' ⟨y', v6', ms', rfl, e', hG', hl'⟩
      refine ⟨60, rfl, by decide, by decide, for_range (lo := 0) (n := 60) (fun k σ G => ∃ v4 v6, ∃ (y : Int) (ms : List Int), σ = [some (.ref a), some (.ref p), some (.int z), none, v4, some (.int y), v6] ∧ Ex H G ∧ G p = some (.lst (ms.map V.int)) ∧ ms.length ≤ 62 * i + 2 + k) ⟨_, _, y', ms', rfl, e', hG', hl'⟩ ?_ ?_⟩
      · rintro k σ G hk ⟨v4, v6, y, ms, rfl, e, hG, hl⟩
        refine st_if (ans_v (val_I (g := fun i j => .bl (decide (i > j))) (val_var rfl) val_c)) (fun _ => ?_) (fun _ => ⟨_, _, y, ms, rfl, e, hG, by omega⟩)
        refine st_seq (app rfl hG (by omega) (val_IC (g := fun i j => .int (i.fmod j)) (vi (val_var rfl)) val_c (by decide)) ?_)
        exact go_asg (val_IC (g := fun i j => .int (i.fdiv j)) (val_var rfl) val_c ⟨by decide, by decide⟩ _ ⟨_, _, _, _, rfl, e.mut hp, upd_same, by rw [List.length_append]; show _ + 1 ≤ _; omega⟩)
      · rintro σ G ⟨v4, v6, y, ms, rfl, e, hG, hl⟩
        exact ⟨_, _, _, _, ms, rfl, e, hG, by omega⟩
  · rintro σ G ⟨v2, v4, v5, v6, ms, rfl, e, hG, hl⟩
    rw [List.length_map] at hl
    dsimp only [gName]
    refine st_seq (go_asg ?_)
    dsimp only [gName]
    refine ⟨fun σ' G' => ∃ y : Int, σ' = [some (.ref a), some (.ref p), v2, some (.int y), v4, v5, v6] ∧ G' = G, ?_, ?_⟩
    · refine st_if (ans_v (val_I (g := fun i j => .bl (decide (i > j))) (val_lenL (val_var rfl) (ex_l e hS)) val_c)) (fun h0 => ?_) (fun _ => ⟨1, rfl, rfl⟩)
      cases ns with
      | nil => cases h0
      | cons z r => exact go_asg (val_I (g := fun i j => .int (i + j)) val_c (va (val_ixL (val_var rfl) val_c (ex_l e hS) (atI_nat (j := 0) rfl))) _ ⟨_, rfl, rfl⟩)
    · rintro σ' G' ⟨y, rfl, rfl⟩
      refine ⟨240, rfl, by decide, by decide, for_range (lo := 0) (n := 240) (fun k σ G => ∃ v4, ∃ (y : Int) (ms : List Int), σ = [some (.ref a), some (.ref p), v2, some (.int y), v4, v5, v6] ∧ Ex H G ∧ G p = some (.lst (ms.map V.int)) ∧ ms.length ≤ 62 * 63 + k) ⟨_, y, ms, rfl, e, hG, by omega⟩ ?_ ?_⟩
      · rintro k σ G hk ⟨v4, y, ms, rfl, e, hG, hl⟩
        refine st_seq (go_asg (val_IC (g := fun i j => .int (i.fmod j)) (vi (val_I (g := fun i j => .int (i + j)) (val_IC (g := fun i j => .int (i * j)) (val_var rfl) val_c (.inr ⟨by decide, by decide⟩)) val_c)) val_c (by decide) _ ?_))
        dsimp only [gName]
        exact app rfl hG (by omega) (val_IC (g := fun i j => .int (i.fdiv j)) (val_var rfl) val_c ⟨by decide, by decide⟩) ⟨_, _, _, rfl, e.mut hp, upd_same, by rw [List.length_append]; show _ + 1 ≤ _; omega⟩
      · rintro σ G ⟨v4, y, ms, rfl, e, hG, hl⟩
        exact ⟨_, rfl, p, _, rfl, SqL.of hG, fun q hq => k q _ (fresh_back e hq) ⟨ms.reverse, by rw [upd_same, List.map_reverse]⟩ (e.trans (Ex.new hq))⟩
end
/-! ### the same data -/
/-- a value's class, by the data that it is -/
def nameD : PyData → String
  | .none => "NoneType"
  | .bool _ => "bool"
  | .int _ => "int"
  | .str _ => "str"
  | .list _ => "list"
  | .tuple _ => "tuple"
  | .dict _ => "dict"
theorem ty_sqL {K : PySem.W.Frag} {H : Hp} {a : Addr} {xs : List V} (h : SqL K H a xs) : TyX K H (.ref a) (.type "list") := by
  rcases h with (h | ⟨o, h⟩) | ⟨o, its, n, hk, hc, _⟩
  · exact .base (.lst h)
  · exact .base (.frz h)
  · exact .kList hk hc
theorem ty_sqT {K : PySem.W.Frag} {H : Hp} {a : Addr} {xs : List V} (h : SqT K H a xs) : TyX K H (.ref a) (.type "tuple") := by
  rcases h with (h | ⟨o, h⟩) | ⟨o, its, n, hk, hc, _⟩
  · exact .base (.tup h)
  · exact .fTuple h
  · exact .kTuple hk hc
theorem ty_dp {K : PySem.W.Frag} {H : Hp} {x : V} {d : PyData} (h : Dp K H x d) : TyX K H x (.type (nameD d)) := by
  cases h with
  | non => exact .base .non
  | bl b => exact .base (.bl b)
  | int i => exact .base (.int i)
  | str z => exact .base (.str z)
  | lst h _ => exact ty_sqL h
  | tup h _ => exact ty_sqT h
theorem dpAll_len {K : PySem.W.Frag} {H : Hp} {xs : List V} {ds : List PyData} (h : DpAll K H xs ds) : xs.length = ds.length := by
  induction ds generalizing xs with
  | nil => cases h; rfl
  | cons d ds ih =>
    cases h with
    | cons a b => rw [List.length_cons, List.length_cons, ih b]
theorem dpAll_at {K : PySem.W.Frag} {H : Hp} {xs : List V} {ds : List PyData} (h : DpAll K H xs ds) {i : Nat} {d : PyData} (e : ds[i]? = some d) : ∃ x, xs[i]? = some x ∧ Dp K H x d := by
  induction ds generalizing xs i with
  | nil => cases e
  | cons c ds ih =>
    cases h with
    | cons a b =>
      cases i with
      | zero =>
        have e' : c = d := Option.some.inj e
        exact ⟨_, rfl, e' ▸ a⟩
      | succ i => exact ih b e
theorem depth_at {ds : List PyData} {i : Nat} {d : PyData} (e : ds[i]? = some d) : d.depth ≤ PyData.depthAll ds := by
  induction ds generalizing i with
  | nil => cases e
  | cons c ds ih =>
    rw [PyData.depthAll]
    cases i with
    | zero =>
      have e' : c = d := Option.some.inj e
      subst e'
      exact Nat.le_max_left _ _
    | succ i => exact Nat.le_trans (ih e) (Nat.le_max_right _ _)
theorem dpAll_ints {K : PySem.W.Frag} {H : Hp} : ∀ ns : List Int, DpAll K H (ns.map V.int) (ns.map PyData.int)
  | [] => .nil
  | n :: r => .cons (.int n) (dpAll_ints r)
theorem depth_ints : ∀ ns : List Int, PyData.depthAll (ns.map PyData.int) = 0
  | [] => rfl
  | n :: r => by rw [List.map_cons, PyData.depthAll, depth_ints r, PyData.depth]; rfl
mutual
def lenD : PyData → Nat
  | .list xs => lenAll xs
  | .tuple xs => lenAll xs
  | .dict _ => 0
  | .none => 0
  | .bool _ => 0
  | .int _ => 0
  | .str _ => 0
def lenAll : List PyData → Nat
  | [] => 0
  | x :: xs => lenD x + 1 + lenAll xs
end
theorem len_le : ∀ ds : List PyData, ds.length ≤ lenAll ds
  | [] => Nat.le_refl _
  | d :: ds => by
    have := len_le ds
    rw [lenAll, List.length_cons]
    omega
theorem len_at : ∀ {ds : List PyData} {i : Nat} {d : PyData}, ds[i]? = some d → lenD d ≤ lenAll ds
  | [], _, _, e => by cases e
  | c :: ds, 0, d, e => by
    have e' : c = d := Option.some.inj e
    subst e'
    rw [lenAll]
    omega
  | c :: ds, i + 1, d, e => by
    have := len_at (ds := ds) (i := i) e
    rw [lenAll]
    omega
theorem lenAll_ints : ∀ ns : List Int, lenAll (ns.map PyData.int) = ns.length
  | [] => rfl
  | n :: r => by rw [List.map_cons, lenAll, lenAll_ints r, lenD, List.length_cons]; omega
/-- two values that are the same data, less than n deep: True -/
def spSame (K : PySem.W.Frag) (n : Nat) : Sp := fun vs H Q _ => ∃ (x y : V) (d : PyData), vs = [x, y] ∧ Dp K H x d ∧ Dp K H y d ∧ d.depth < n ∧ lenD d < 2 ^ 62 ∧ Q (.bl true) H
section
variable {P : Program} {w : World} {K : PySem.W.Frag} {mg : Str → Option Value} {base : Heap}
theorem ok_same (T : TX K mg) : ∀ n, Can P w K mg base CX0 n (He.fAd K at__law_same) ps__law_same [] (spSame K n)
  | 0 => by
    obtain ⟨fd, _, b⟩ := mk__law_same (P := P) (w := w) (base := base) (CX := CX0) (k := 0) (sp := fun _ _ _ _ => False) T fun fd F => ⟨fun _ _ _ _ h => h.elim, fun _ _ _ _ _ _ _ _ _ _ _ _ _ h => h.elim⟩
    exact ⟨fd, ⟨fun _ _ _ _ ⟨_, _, _, _, _, _, h, _⟩ => absurd h (Nat.not_lt_zero _), fun _ _ _ _ _ _ _ _ _ _ _ _ _ ⟨_, _, _, _, _, _, h, _⟩ => absurd h (Nat.not_lt_zero _)⟩, b⟩
  | n + 1 => by
    obtain ⟨fd_s, G__law_same, ds_s, v__law_same, b__law_same⟩ := ok_same T n
    exact mk__law_same T fun fd F => def0 F sc__law_same (fun vs H Q E h => by
      obtain ⟨x, y, d, rfl, _⟩ := h
      rfl) fun cdv A outer s H vs Q E hr h => by
      obtain ⟨x, y, d, rfl, hx, hy, hd, hz0, k⟩ := h
      refine ⟨_, (pss_cons (ps_if (PW.pt (pw_or (pt_val (pe_callB (cIsi K rfl) (by rfl) T.n_isinstance (by decide +kernel) (pa_cons (pv 1) (pa_cons (pe_bltn (v := .ty "tuple") rfl T.n_tuple (by decide +kernel) rfl) pa_nil)))) (pw_or1 (pt_val (pe_callB (cIsi K rfl) (by rfl) T.n_isinstance (by decide +kernel) (pa_cons (pv 1) (pa_cons (pe_bltn (v := .ty "list") rfl T.n_list (by decide +kernel) rfl) pa_nil))))))) (pss_cons (ps_if (PW.pt (pw_or (pt_cmpR op_ne (pe_callB (cIsi K rfl) (by rfl) T.n_isinstance (by decide +kernel) (pa_cons (pv 1) (pa_cons (pe_bltn (v := .ty "tuple") rfl T.n_tuple (by decide +kernel) rfl) pa_nil))) (pe_callB (cIsi K rfl) (by rfl) T.n_isinstance (by decide +kernel) (pa_cons (pv 0) (pa_cons (pe_bltn (v := .ty "tuple") rfl T.n_tuple (by decide +kernel) rfl) pa_nil))) (nomark _)) (pw_or1 (pt_cmpR op_ne (pe_callB (cIsi K rfl) (by rfl) T.n_isinstance (by decide +kernel) (pa_cons (pv 1) (pa_cons (pe_bltn (v := .ty "list") rfl T.n_list (by decide +kernel) rfl) pa_nil))) (pe_callB (cIsi K rfl) (by rfl) T.n_isinstance (by decide +kernel) (pa_cons (pv 0) (pa_cons (pe_bltn (v := .ty "list") rfl T.n_list (by decide +kernel) rfl) pa_nil))) (nomark _))))) (pss_one (ps_ret pe_bl)) pss_nil)
  (pss_cons (ps_if (pt_cmpR op_ne (pe_callB (cLen K rfl) (by rfl) T.n_len PySem.boot_len (pa_cons (pv 0) pa_nil)) (pe_callB (cLen K rfl) (by rfl) T.n_len PySem.boot_len (pa_cons (pv 1) pa_nil)) (nomark _)) (pss_one (ps_ret pe_bl)) pss_nil)
  (pss_cons (ps_for PassesOwn.never rfl (pi_range1 rfl T.n_range (pa_cons (pe_callB (cLen K rfl) (by rfl) T.n_len PySem.boot_len (pa_cons (pv 1) pa_nil)) pa_nil)) (pg_name (i := 2) sc__law_same.nd rfl (Or.inl rfl))
  (pss_one (ps_if (pt_not (pt_val (pe_call G__law_same (hr.mono (by first | decide | omega)) rfl T.g__law_same T.k__law_same b__law_same v__law_same pass0 (pa_cons (pe_ix (ixS K rfl) (pv 0) (pv 2) (fun _ _ => rfl)) (pa_cons (pe_ix (ixS K rfl) (pv 1) (pv 2) (fun _ _ => rfl)) pa_nil))))) (pss_one (ps_ret pe_bl)) pss_nil)))
  (pss_one (ps_ret pe_bl))))) pss_nil)
  (pss_cons (ps_if (pt_cmpR op_ne (pe_callB (cIsi K rfl) (by rfl) T.n_isinstance (by decide +kernel) (pa_cons (pv 1) (pa_cons (pe_bltn (v := .ty "bool") rfl T.n_bool (by decide +kernel) rfl) pa_nil))) (pe_callB (cIsi K rfl) (by rfl) T.n_isinstance (by decide +kernel) (pa_cons (pv 0) (pa_cons (pe_bltn (v := .ty "bool") rfl T.n_bool (by decide +kernel) rfl) pa_nil))) (nomark _)) (pss_one (ps_ret pe_bl)) pss_nil)
  (pss_cons (ps_if (PW.pt (pw_or (pt_cmpR op_ne (pe_callB (cIsi K rfl) (by rfl) T.n_isinstance (by decide +kernel) (pa_cons (pv 1) (pa_cons (pe_bltn (v := .ty "int") rfl T.n_int (by decide +kernel) rfl) pa_nil))) (pe_callB (cIsi K rfl) (by rfl) T.n_isinstance (by decide +kernel) (pa_cons (pv 0) (pa_cons (pe_bltn (v := .ty "int") rfl T.n_int (by decide +kernel) rfl) pa_nil))) (nomark _)) (pw_or1 (pt_cmpR op_ne (pe_callB (cIsi K rfl) (by rfl) T.n_isinstance (by decide +kernel) (pa_cons (pv 1) (pa_cons (pe_bltn (v := .ty "str") rfl T.n_str (by decide +kernel) rfl) pa_nil))) (pe_callB (cIsi K rfl) (by rfl) T.n_isinstance (by decide +kernel) (pa_cons (pv 0) (pa_cons (pe_bltn (v := .ty "str") rfl T.n_str (by decide +kernel) rfl) pa_nil))) (nomark _))))) (pss_one (ps_ret pe_bl)) pss_nil)
  (pss_one (ps_ret (pe_cmpR op_eq (pv 0) (pv 1) (nomark _))))))), ?_⟩
      have tx := ty_dp hx
      have ty := ty_dp hy
      cases hx with
      | non =>
        cases hy
        replace tx : TyX K H .non (.type "NoneType") := tx
        replace ty : TyX K H .non (.type "NoneType") := ty
        refine st_seq (st_no (ans_or (ans_val (val_isi (val_var rfl) ty (by decide +kernel))) (ans_val (val_isi (val_var rfl) ty (by decide +kernel)))) ?_)
        refine st_seq (st_no (ans_v (val_is (w := .bl false) (val_ne (val_isi (b := false) (val_var rfl) ty (by decide +kernel)) (val_isi (b := false) (val_var rfl) tx (by decide +kernel)) rfl) rfl)) ?_)
        refine st_seq (st_no (ans_or (ans_v (val_is (w := .bl false) (val_ne (val_isi (b := false) (val_var rfl) ty (by decide +kernel)) (val_isi (b := false) (val_var rfl) tx (by decide +kernel)) rfl) rfl)) (ans_v (val_is (w := .bl false) (val_ne (val_isi (b := false) (val_var rfl) ty (by decide +kernel)) (val_isi (b := false) (val_var rfl) tx (by decide +kernel)) rfl) rfl))) ?_)
        exact st_ret (v := .bl true) (val_is (val_eq (val_var rfl) (val_var rfl) rfl) (by simp)) k
      | bl b =>
        cases hy
        replace tx : TyX K H (.bl b) (.type "bool") := tx
        replace ty : TyX K H (.bl b) (.type "bool") := ty
        refine st_seq (st_no (ans_or (ans_val (val_isi (val_var rfl) ty (by decide +kernel))) (ans_val (val_isi (val_var rfl) ty (by decide +kernel)))) ?_)
        refine st_seq (st_no (ans_v (val_is (w := .bl false) (val_ne (val_isi (b := true) (val_var rfl) ty (by decide +kernel)) (val_isi (b := true) (val_var rfl) tx (by decide +kernel)) rfl) rfl)) ?_)
        refine st_seq (st_no (ans_or (ans_v (val_is (w := .bl false) (val_ne (val_isi (b := true) (val_var rfl) ty (by decide +kernel)) (val_isi (b := true) (val_var rfl) tx (by decide +kernel)) rfl) rfl)) (ans_v (val_is (w := .bl false) (val_ne (val_isi (b := false) (val_var rfl) ty (by decide +kernel)) (val_isi (b := false) (val_var rfl) tx (by decide +kernel)) rfl) rfl))) ?_)
        exact st_ret (v := .bl true) (val_is (val_eq (val_var rfl) (val_var rfl) rfl) (by simp)) k
      | int i =>
        cases hy
        replace tx : TyX K H (.int i) (.type "int") := tx
        replace ty : TyX K H (.int i) (.type "int") := ty
        refine st_seq (st_no (ans_or (ans_val (val_isi (val_var rfl) ty (by decide +kernel))) (ans_val (val_isi (val_var rfl) ty (by decide +kernel)))) ?_)
        refine st_seq (st_no (ans_v (val_is (w := .bl false) (val_ne (val_isi (b := false) (val_var rfl) ty (by decide +kernel)) (val_isi (b := false) (val_var rfl) tx (by decide +kernel)) rfl) rfl)) ?_)
        refine st_seq (st_no (ans_or (ans_v (val_is (w := .bl false) (val_ne (val_isi (b := true) (val_var rfl) ty (by decide +kernel)) (val_isi (b := true) (val_var rfl) tx (by decide +kernel)) rfl) rfl)) (ans_v (val_is (w := .bl false) (val_ne (val_isi (b := false) (val_var rfl) ty (by decide +kernel)) (val_isi (b := false) (val_var rfl) tx (by decide +kernel)) rfl) rfl))) ?_)
        exact st_ret (v := .bl true) (val_is (val_eq (val_var rfl) (val_var rfl) rfl) (by simp)) k
      | str z =>
        cases hy
        replace tx : TyX K H (.str z) (.type "str") := tx
        replace ty : TyX K H (.str z) (.type "str") := ty
        refine st_seq (st_no (ans_or (ans_val (val_isi (val_var rfl) ty (by decide +kernel))) (ans_val (val_isi (val_var rfl) ty (by decide +kernel)))) ?_)
        refine st_seq (st_no (ans_v (val_is (w := .bl false) (val_ne (val_isi (b := false) (val_var rfl) ty (by decide +kernel)) (val_isi (b := false) (val_var rfl) tx (by decide +kernel)) rfl) rfl)) ?_)
        refine st_seq (st_no (ans_or (ans_v (val_is (w := .bl false) (val_ne (val_isi (b := false) (val_var rfl) ty (by decide +kernel)) (val_isi (b := false) (val_var rfl) tx (by decide +kernel)) rfl) rfl)) (ans_v (val_is (w := .bl false) (val_ne (val_isi (b := true) (val_var rfl) ty (by decide +kernel)) (val_isi (b := true) (val_var rfl) tx (by decide +kernel)) rfl) rfl))) ?_)
        exact st_ret (v := .bl true) (val_is (val_eq (val_var rfl) (val_var rfl) rfl) (by simp)) k
      | @lst a xs ds sx ax =>
        cases hy with
        | @lst b ys _ sy ay =>
          replace tx : TyX K H (.ref a) (.type "list") := tx
          replace ty : TyX K H (.ref b) (.type "list") := ty
          have hd' : PyData.depthAll ds < n := by
            rw [PyData.depth] at hd
            omega
          have ex := dpAll_len ax
          have ey := dpAll_len ay
          rw [lenD] at hz0
          have hz := Nat.lt_of_le_of_lt (len_le ds) hz0
          refine st_seq (st_yes (ans_or (ans_val (val_isi (val_var rfl) ty (by decide +kernel))) (ans_val (val_isi (val_var rfl) ty (by decide +kernel)))) ?_)
          refine st_seq (st_no (ans_or (ans_v (val_is (w := .bl false) (val_ne (val_isi (b := false) (val_var rfl) ty (by decide +kernel)) (val_isi (b := false) (val_var rfl) tx (by decide +kernel)) rfl) rfl)) (ans_v (val_is (w := .bl false) (val_ne (val_isi (b := true) (val_var rfl) ty (by decide +kernel)) (val_isi (b := true) (val_var rfl) tx (by decide +kernel)) rfl) rfl))) ?_)
          refine st_seq (st_no (ans_v (val_is (w := .bl false) (val_ne (val_lenL (val_var rfl) sx) (val_lenL (val_var rfl) sy) rfl) (by rw [ex, ey]; simp))) ?_)
          refine st_seq (st_forR (n := ds.length) (va_one (val_is (val_lenL (val_var rfl) sy) (by rw [ey]))) hz (fun i σ H' => ∃ v, σ = [some (.ref a), some (.ref b), v] ∧ H' = H) ⟨none, rfl, rfl⟩ ?_ ?_)
          · rintro i σ H' hi ⟨v, rfl, rfl⟩
            obtain ⟨u1, g1, g2⟩ := dpAll_at ax (List.getElem?_eq_getElem hi)
            obtain ⟨u2, g3, g4⟩ := dpAll_at ay (List.getElem?_eq_getElem hi)
            have h3 := depth_at (List.getElem?_eq_getElem hi)
            have h4 := len_at (List.getElem?_eq_getElem hi)
            exact st_no (ans_is (ans_not (ans_val (val_call (va_two (val_ixSL (val_var rfl) (val_var rfl) sx (atI_nat g1)) (val_ixSL (val_var rfl) (val_var rfl) sy (atI_nat g3))) fun Q q => ⟨_, _, _, rfl, g2, g4, by omega, by omega, q⟩))) rfl) ⟨_, rfl, rfl⟩
          · rintro σ H' ⟨v, rfl, rfl⟩
            exact k
      | @tup a xs ds sx ax =>
        cases hy with
        | @tup b ys _ sy ay =>
          replace tx : TyX K H (.ref a) (.type "tuple") := tx
          replace ty : TyX K H (.ref b) (.type "tuple") := ty
          have hd' : PyData.depthAll ds < n := by
            rw [PyData.depth] at hd
            omega
          have ex := dpAll_len ax
          have ey := dpAll_len ay
          rw [lenD] at hz0
          have hz := Nat.lt_of_le_of_lt (len_le ds) hz0
          refine st_seq (st_yes (ans_or1 (ans_val (val_isi (val_var rfl) ty (by decide +kernel)))) ?_)
          refine st_seq (st_no (ans_or (ans_v (val_is (w := .bl false) (val_ne (val_isi (b := true) (val_var rfl) ty (by decide +kernel)) (val_isi (b := true) (val_var rfl) tx (by decide +kernel)) rfl) rfl)) (ans_v (val_is (w := .bl false) (val_ne (val_isi (b := false) (val_var rfl) ty (by decide +kernel)) (val_isi (b := false) (val_var rfl) tx (by decide +kernel)) rfl) rfl))) ?_)
          refine st_seq (st_no (ans_v (val_is (w := .bl false) (val_ne (val_lenT (val_var rfl) sx) (val_lenT (val_var rfl) sy) rfl) (by rw [ex, ey]; simp))) ?_)
          refine st_seq (st_forR (n := ds.length) (va_one (val_is (val_lenT (val_var rfl) sy) (by rw [ey]))) hz (fun i σ H' => ∃ v, σ = [some (.ref a), some (.ref b), v] ∧ H' = H) ⟨none, rfl, rfl⟩ ?_ ?_)
          · rintro i σ H' hi ⟨v, rfl, rfl⟩
            obtain ⟨u1, g1, g2⟩ := dpAll_at ax (List.getElem?_eq_getElem hi)
            obtain ⟨u2, g3, g4⟩ := dpAll_at ay (List.getElem?_eq_getElem hi)
            have h3 := depth_at (List.getElem?_eq_getElem hi)
            have h4 := len_at (List.getElem?_eq_getElem hi)
            exact st_no (ans_is (ans_not (ans_val (val_call (va_two (val_ixST (val_var rfl) (val_var rfl) sx (atI_nat g1)) (val_ixST (val_var rfl) (val_var rfl) sy (atI_nat g3))) fun Q q => ⟨_, _, _, rfl, g2, g4, by omega, by omega, q⟩))) rfl) ⟨_, rfl, rfl⟩
          · rintro σ H' ⟨v, rfl, rfl⟩
            exact k
end
/-! ### readings that give data -/
/-- H3 still has what H2 has in H or beyond H1 -/
def Fp (H H1 H2 H3 : Hp) : Prop := ∀ a o, H2 a = some o → (H a ≠ none ∨ H1 a = none) → H3 a = some o
theorem Fp.base {H H1 H2 H3 : Hp} (f : Fp H H1 H2 H3) (e : Ex H H2) : Ex H H3 := fun a o h => f a o (e a o h) (.inl (by rw [h]; intro z; cases z))
theorem Fp.self {H H1 H2 : Hp} : Fp H H1 H2 H2 := fun _ _ h _ => h
theorem Fp.ex {H H1 H2 H3 : Hp} (e : Ex H2 H3) : Fp H H1 H2 H3 := fun a o h _ => e a o h
/-- from a later start: less is asked -/
theorem Fp.late {H H1 G1 H2 H3 : Hp} (f : Fp H H1 H2 H3) (e : Ex H1 G1) : Fp H G1 H2 H3 := fun a o h q => f a o h (q.imp id fun z => fresh_back e z)
/-- what was there earlier -/
theorem Fp.early {H H1 G2 H2 H3 : Hp} (f : Fp H H1 H2 H3) (e : Ex G2 H2) : Fp H H1 G2 H3 := fun a o h q => f a o (e a o h) q
def EvD (K : PySem.W.Frag) (te : TE) (σ : L2.St) (H : Hp) (d : PyData) : Prop := ∀ H1, Ex H H1 → ∀ Q : VK, (∀ v H2, Ex H1 H2 → (∀ H3, Fp H H1 H2 H3 → Dp K H3 v d) → Q v H2) → te σ H1 Q
def EvDs (K : PySem.W.Frag) (ta : TA) (σ : L2.St) (H : Hp) (ds : List PyData) : Prop := ∀ H1, Ex H H1 → ∀ Q : List V → Hp → Prop, (∀ vs H2, Ex H1 H2 → (∀ H3, Fp H H1 H2 H3 → DpAll K H3 vs ds) → Q vs H2) → ta σ H1 Q
def SpD (K : PySem.W.Frag) (sp : Sp) (vs : List V) (H : Hp) (d : PyData) : Prop := ∀ H1, Ex H H1 → ∀ Q : VK, (∀ v H2, Ex H1 H2 → (∀ H3, Fp H H1 H2 H3 → Dp K H3 v d) → Q v H2) → ∀ E : XK, sp vs H1 Q E
section
variable {K : PySem.W.Frag} {σ : L2.St} {H : Hp} {ta tb te tf : TE} {v : V} {d : PyData} {ds : List PyData}
theorem ed_val (h : Ev te σ H v) (hd : Dp K H v d) : EvD K te σ H d := fun H1 e _ q => h H1 e _ fun H2 e2 => q v H2 e2 fun _ f => dp_ex (f.base (e.trans e2)) hd
theorem ed_var {i : Nat} (h : σ[i]? = some (some v)) (hd : Dp K H v d) : EvD K (tVar i) σ H d := ed_val (ev_var h) hd
theorem ed_int {i : Int} (h : Ev te σ H (.int i)) : EvD K te σ H (.int i) := ed_val h (.int i)
theorem ed_cint {i : Int} : EvD K (tC (.int i)) σ H (.int i) := ed_val ev_c (.int i)
theorem ed_cstr {w : Str} : EvD K (tC (.str w)) σ H (.str w) := ed_val ev_c (.str w)
theorem ed_cbl {b : Bool} : EvD K (tC (.bl b)) σ H (.bool b) := ed_val ev_c (.bl b)
theorem ed_cnon : EvD K (tC .non) σ H .none := ed_val ev_c .non
theorem ed_ints {ns : List Int} (h : EvL te σ H (ns.map V.int)) : EvD K te σ H (.list (ns.map PyData.int)) := fun H1 e _ q => h H1 e _ fun p H2 hp e2 h2 => q _ H2 e2 fun H3 f => .lst (SqL.of (f _ _ h2 (.inr hp))) (dpAll_ints ns)
theorem eds_nil : EvDs K tNil σ H [] := fun H1 _ _ q => q [] H1 (Ex.refl _) fun _ _ => .nil
theorem eds_cons {tr : TA} (h : EvD K te σ H d) (hr : EvDs K tr σ H ds) : EvDs K (tCons te tr) σ H (d :: ds) := fun H1 e _ q =>
  h H1 e _ fun v H2 e2 dv => hr H2 (e.trans e2) _ fun vs H3 e3 dvs => q (v :: vs) H3 (e2.trans e3) fun H4 f => .cons (dv H4 (f.early e3)) (dvs H4 (f.late e2))
theorem ed_tup {ta : TA} (h : EvDs K ta σ H ds) (hl : ds.length ≤ 100000) : EvD K (tTup ta) σ H (.tuple ds) := fun H1 e _ q => h H1 e _ fun vs H2 e2 dvs =>
  ⟨sz_of (by rw [dpa_len (dvs H2 Fp.self)]; exact hl), fun p hp => q (.ref p) _ (e2.trans (Ex.new hp)) fun H3 f => .tup (SqT.of (f _ _ upd_same (.inr (fresh_back e2 hp)))) (dvs H3 (f.early (Ex.new hp)))⟩
theorem ed_lst {ta : TA} (h : EvDs K ta σ H ds) (hl : ds.length ≤ 100000) : EvD K (tLst ta) σ H (.list ds) := fun H1 e _ q => h H1 e _ fun vs H2 e2 dvs =>
  ⟨sz_of (by rw [dpa_len (dvs H2 Fp.self)]; exact hl), fun p hp => q (.ref p) _ (e2.trans (Ex.new hp)) fun H3 f => .lst (SqL.of (f _ _ upd_same (.inr (fresh_back e2 hp)))) (dvs H3 (f.early (Ex.new hp)))⟩
theorem ed_call {sp : Sp} {dvs vs : List V} {E : XK} {ta : TA} (h : EvA ta σ H vs) (hs : SpD K sp (vs ++ dvs) H d) : EvD K (tCall sp dvs E ta) σ H d := fun H1 e Q q =>
  h H1 e _ fun H2 e2 => hs H2 (e.trans e2) Q (fun v H3 e3 dv => q v H3 (e2.trans e3) fun H4 f => dv H4 (f.late e2)) E
/-- what a promise of a new tuple of data gives -/
theorem spd_tup {xs : List V} {H1 : Hp} {Q : VK} (hd : ∀ H3, DpAll K H3 xs ds) (q : ∀ v H2, Ex H1 H2 → (∀ H3, Fp H H1 H2 H3 → Dp K H3 v (.tuple ds)) → Q v H2) : ∀ t H2, H1 t = none → Ex H1 H2 → H2 t = some (.tup xs) → Q (.ref t) H2 :=
  fun t H2 ht e2 h2 => q _ H2 e2 fun H3 f => .tup (SqT.of (f _ _ h2 (.inr ht))) (hd H3)
theorem spd_val {H1 : Hp} {Q : VK} (hd : ∀ H3, Dp K H3 v d) (q : ∀ v H2, Ex H1 H2 → (∀ H3, Fp H H1 H2 H3 → Dp K H3 v d) → Q v H2) : ∀ H2, Ex H1 H2 → Q v H2 := fun H2 e2 => q _ H2 e2 fun H3 _ => hd H3
theorem eqD {d e : PyData} (h1 : EvD K ta σ H d) (h2 : EvD K tb σ H e) (s1 : SeqAt.shaped d = true) (s2 : SeqAt.shaped e = true) : Ev (tOp (rEqD K) ta tb) σ H (.bl (PyData.eqv d e)) :=
  fun H1 e1 _ q => h1 H1 e1 _ fun v H2 e2 dv => h2 H2 (e1.trans e2) _ fun u H3 e3 du => ⟨d, e, dv H3 (Fp.ex e3), du H3 Fp.self, s1, s2, q _ (e2.trans e3)⟩
theorem neD {d e : PyData} (h1 : EvD K ta σ H d) (h2 : EvD K tb σ H e) (s1 : SeqAt.shaped d = true) (s2 : SeqAt.shaped e = true) : Ev (tOp (rNeD K) ta tb) σ H (.bl (!PyData.eqv d e)) :=
  fun H1 e1 _ q => h1 H1 e1 _ fun v H2 e2 dv => h2 H2 (e1.trans e2) _ fun u H3 e3 du => ⟨d, e, dv H3 (Fp.ex e3), du H3 Fp.self, s1, s2, q _ (e2.trans e3)⟩
/-- [.. for j in range(n)] -/
theorem ed_lcR {ta : TA} {j : Nat} {vs : List Nat} {n : Int} (f : Nat → PyData) (h : EvA ta σ H [.int n]) (hn : 0 ≤ n ∧ n ≤ 40000) (hw : ∀ x, wipe ((wipe σ vs).set j (some x)) vs = wipe σ vs)
    (he : ∀ (i : Nat) H1, Ex H H1 → (i : Int) < n → EvD K te ((wipe σ vs).set j (some (.int (i : Int)))) H (f i)) : EvD K (tLc (iRng1 ta) (gName j) tYes te vs) σ H (.list ((List.range n.toNat).map f)) := fun H0 e Q q =>
  h H0 e _ fun H1 e1 => ⟨n, rfl, by omega, by omega, fun L hL => lc_range (lo := 0) (n := n.toNat)
    (fun i G => Ex H1 G ∧ ∃ acc, G L = some (.lst acc) ∧ acc.length = i ∧ ∀ H5, (∀ a o, G a = some o → (H a ≠ none ∨ (H1 a = none ∧ a ≠ L)) → H5 a = some o) → DpAll K H5 acc ((List.range i).map f))
    ⟨Ex.new hL, [], upd_same, rfl, fun _ _ => .nil⟩ (by
      rintro i G hi ⟨eG, acc, ha, hl, hdp⟩
      have nLH : ∀ a, H a ≠ none → a ≠ L := fun a h z => h (by rw [z]; exact fresh_back (e.trans e1) hL)
      have e0 : (0 : Int) + (i : Int) = (i : Int) := Int.zero_add _
      show wipe ((wipe σ vs).set j (some (.int ((0 : Int) + (i : Int))))) vs = wipe σ vs ∧ te ((wipe σ vs).set j (some (.int ((0 : Int) + (i : Int))))) G _
      rw [e0]
      refine ⟨hw _, he i H1 (e.trans e1) (by omega) G ((e.trans e1).trans eG) _ fun v G2 eG2 dv => ⟨acc, eG2 _ _ ha, sz_lt (by omega), ?_, acc ++ [v], upd_same, by rw [List.length_append, hl]; rfl, fun H5 hH5 => ?_⟩⟩
      · exact (eG.trans eG2).mut hL
      · have hup : ∀ a o, G2 a = some o → a ≠ L → upd G2 L (.lst (acc ++ [v])) a = some o := fun a o h hne => by rw [upd_ne hne]; exact h
        rw [List.range_succ, List.map_append]
        refine dpAll_snoc (hdp H5 fun a o ho hq => hH5 a o (hup a o (eG2 a o ho) (hq.elim (nLH a) fun z => z.2)) hq) (dv H5 fun a o ho hq => ?_)
        have hne : a ≠ L := hq.elim (nLH a) fun z y => by rw [y, ha] at z; cases z
        exact hH5 a o (hup a o ho hne) (hq.imp id fun z => ⟨fresh_back eG z, hne⟩)) (by
      rintro G ⟨eG, acc, ha, hl, hdp⟩
      refine q (.ref L) G (e1.trans eG) fun H3 f3 => .lst (SqL.of (f3 _ _ ha (.inr (fresh_back e1 hL)))) (hdp H3 fun a o ho hq => f3 a o ho (hq.imp id fun z => fresh_back e1 z.1)))⟩
variable {D : Ends} {tz : TS}
theorem q_asgD {i : Nat} (h : EvD K te σ H d) (k : ∀ v H1, Ex H H1 → Dp K H1 v d → tz D (σ.set i (some v)) H1) : tSeq (tAsg te (gName i)) tz D σ H := h H (Ex.refl H) _ fun v H1 e dv => k v H1 e (dv H1 Fp.self)
end
/-! ### the draws of trees -/
def spString : Sp := fun vs H Q _ => ∃ (d : Addr) (m : Nat), vs = [.ref d, .int (m : Int)] ∧ 1 ≤ m ∧ m ≤ 1000 ∧ Dr H d ∧ ∀ (z : Str) (H' : Hp), okText m z → Dr H' d → Kp [d] H H' → Q (.str z) H'
def spNames : Sp := fun vs H Q _ => ∃ d : Addr, vs = [.ref d] ∧ Dr H d ∧ ∀ (p : Addr) (ns : List Str) (H' : Hp), H p = none → ns ≠ [] → ns.length ≤ 4 → (∀ n ∈ ns, n ∈ fourNames) → Dr H' d → Kp [d] H H' → H' p = some (.lst (ns.map V.str)) → Q (.ref p) H'
section
variable {P : Program} {w : World} {K : PySem.W.Frag} {mg : Str → Option Value} {base : Heap}
theorem ok__law_string (T : TX K mg) : Can P w K mg base CX0 2 (He.fAd K at__law_string) ps__law_string [] spString := by
  obtain ⟨fd__law_take, G__law_take, ds__law_take, v__law_take, b__law_take⟩ := ok__law_take (P := P) (w := w) (base := base) T
  exact mk__law_string T fun fd F => def0 F sc__law_string (fun vs H Q E h => by
    obtain ⟨d, m, rfl, _⟩ := h
    rfl) fun cdv A outer s H vs Q E hr h => by
    obtain ⟨d, m, rfl, m0, m1, D, k⟩ := h
    refine ⟨_, (pss_cons (ps_set (i := 2) sc__law_string.nd rfl (Or.inl rfl) pe_str)
  (pss_cons (ps_set (i := 3) sc__law_string.nd rfl (Or.inl rfl) pe_str)
  (pss_cons (ps_for PassesOwn.never rfl (pi_range1 rfl T.n_range (pa_cons (pe_op op_add pe_int (pe_call G__law_take (hr.mono (by first | decide | omega)) rfl T.g__law_take T.k__law_take b__law_take v__law_take pass0 (pa_cons (pv 0) (pa_cons (pv 1) pa_nil)))) pa_nil)) (pg_name (i := 4) sc__law_string.nd rfl (Or.inl rfl))
  (pss_one (ps_set (i := 3) sc__law_string.nd rfl (Or.inl rfl) (pe_op op_add_str (pv 3) (pe_ix ix_str (pv 2) (pe_call G__law_take (hr.mono (by first | decide | omega)) rfl T.g__law_take T.k__law_take b__law_take v__law_take pass0 (pa_cons (pv 0) (pa_cons (pe_callB call_len_str (by rfl) T.n_len PySem.boot_len (pa_cons (pv 2) pa_nil)) pa_nil))) (fun _ _ => rfl))))))
  (pss_one (ps_ret (pv 3)))))), ?_⟩
    refine st_seq (go_asg ?_)
    dsimp only [gName]
    refine st_seq (go_asg ?_)
    dsimp only [gName]
    refine st_seq ?_
    refine rd_take rfl (val_var rfl) (by omega) D fun n H1 n0 n1 D1 e1 => ?_
    refine ⟨1, n, rfl, rfl, 1 + n, rfl, by omega, by omega, for_range (lo := 0) (n := (1 + n).toNat) (fun i σ G => ∃ (v4 : Option V) (z : Str), σ = [some (.ref d), some (.int (m : Int)), some (.str twelve), some (.str z), v4] ∧ Kp [d] H G ∧ Dr G d ∧ z.cps.size = i ∧ ∀ c ∈ z.cps.toList, c ∈ signCs) ⟨none, Str.ofString "", rfl, e1, D1, rfl, fun c hc => by cases hc⟩ ?_ ?_⟩
    · rintro i σ G hi ⟨v4, z, rfl, e, DG, hz, hc⟩
      refine go_asg ?_
      refine ⟨_, rfl, _, rfl, ?_⟩
      refine rd_take rfl (val_cb (va_one (val_var rfl)) fun Q q => ⟨twelve, rfl, by decide +kernel, q⟩) (by decide +kernel) DG fun v G2 v0 v1 D2 e2 => ?_
      have hv : v.toNat < signCs.length := by
        have : (twelve.length : Int) = 12 := by decide +kernel
        show v.toNat < 12
        omega
      have hcs : twelve.cps.toList = signCs := by decide +kernel
      have hat : atI twelve.cps.toList v = some signCs[v.toNat] := by
        have hn : (v.toNat : Int) = v := Int.toNat_of_nonneg v0
        have q := atI_nat (xs := twelve.cps.toList) (j := v.toNat) (v := signCs[v.toNat]) (by rw [hcs]; exact List.getElem?_eq_getElem hv)
        rwa [hn] at q
      refine ⟨twelve, v, signCs[v.toNat], rfl, rfl, by decide +kernel, hat, z, ⟨#[signCs[v.toNat]]⟩, rfl, rfl, sz_of (by show z.cps.size + 1 ≤ _; omega), ?_⟩
      have ec : (z ++ (⟨#[signCs[v.toNat]]⟩ : Str)).cps = z.cps ++ #[signCs[v.toNat]] := rfl
      refine ⟨_, _, rfl, e.trans e2, D2, by rw [ec, Array.size_append, hz] <;> rfl, fun c hc' => ?_⟩
      rw [ec, Array.toList_append, List.mem_append] at hc'
      rcases hc' with q | q
      · exact hc c q
      · have : c ∈ [signCs[v.toNat]] := q
        rw [List.mem_singleton.mp this]
        exact List.getElem_mem hv
    · rintro σ G ⟨v4, z, rfl, e, DG, hz, hc⟩
      exact st_ret (val_var rfl) (k z G ⟨by omega, by omega, hc⟩ DG e)
theorem ok__law_names (T : TX K mg) : Can P w K mg base CX0 2 (He.fAd K at__law_names) ps__law_names [] spNames := by
  obtain ⟨fd__law_take, G__law_take, ds__law_take, v__law_take, b__law_take⟩ := ok__law_take (P := P) (w := w) (base := base) T
  exact mk__law_names T fun fd F => def0 F sc__law_names (fun vs H Q E h => by
    obtain ⟨d, rfl, _⟩ := h
    rfl) fun cdv A outer s H vs Q E hr h => by
    obtain ⟨d, rfl, D, k⟩ := h
    refine ⟨_, (pss_one (ps_ret (pe_slice (slL K rfl) (pe_lst (pa_cons pe_str (pa_cons pe_str (pa_cons pe_str (pa_cons pe_str pa_nil))))) po_none (po_some (pe_op op_add pe_int (pe_call G__law_take (hr.mono (by first | decide | omega)) rfl T.g__law_take T.k__law_take b__law_take v__law_take pass0 (pa_cons (pv 0) (pa_cons pe_int pa_nil)))))))), ?_⟩
    refine ⟨by show 4 ≤ sizeLine; decide, fun l hl => ?_⟩
    have nld : l ∉ [d] := by simpa using D.ne hl
    refine rd_take rfl val_c (by decide) (D.put hl) fun v H1 v0 v1 D1 e1 => ?_
    refine ⟨1, v, rfl, rfl, 1 + v, rfl, l, _, rfl, SqL.of (e1.at upd_same nld), fun p hp => ?_⟩
    obtain ⟨j, hj⟩ : ∃ j : Nat, 1 + v = (j : Int) := ⟨(1 + v).toNat, by omega⟩
    rw [hj, cut_to (by show j ≤ 4; omega)]
    have hf : [V.str "a", V.str "b", V.str "abcdefghijkl", V.str "c"].take j = (fourNames.take j).map V.str := by rw [List.map_take] <;> rfl
    have k1 : Kp [d] H H1 := (Kp.of (Ex.new hl)).trans e1
    show Q (.ref p) (upd H1 p (.lst ([V.str "a", V.str "b", V.str "abcdefghijkl", V.str "c"].take j)))
    rw [hf]
    refine k p (fourNames.take j) _ (k1.back (fun a ha => by rw [List.mem_singleton.mp ha]; exact D1.on) hp) (fun z => ?_) (by rw [List.length_take]; omega) (fun n hn => List.mem_of_mem_take hn) (D1.put hp) (k1.trans (Kp.new hp)) upd_same
    have := congrArg List.length z
    rw [List.length_take] at this
    have h4 : fourNames.length = 4 := rfl
    rw [h4] at this
    have : 1 ≤ j := by omega
    simp at *
    omega
/-- new data: v is d by what is new in H' -/
def NewD (K : PySem.W.Frag) (H H' : Hp) (v : V) (d : PyData) : Prop := ∀ H'' : Hp, (∀ a o, H a = none → H' a = some o → H'' a = some o) → Dp K H'' v d
def NewC (K : PySem.W.Frag) (H G : Hp) (p : Addr) (acc : List V) (ds : List PyData) : Prop := ∀ H'' : Hp, (∀ a o, H a = none → a ≠ p → G a = some o → H'' a = some o) → DpAll K H'' acc ds
theorem NewC.snoc {H G G' : Hp} {d p : Addr} {acc : List V} {ds : List PyData} {v : V} {x : PyData} (N : NewC K H G p acc ds) (D : Dr H d) (DG : Dr G d) (hp : G p ≠ none) (e : Kp [d] H G) (e' : Kp [d] G G') (M : NewD K G G' v x) : NewC K H (upd G' p (.lst (acc ++ [v]))) p (acc ++ [v]) (ds ++ [x]) := fun H'' h =>
  dpAll_snoc (N H'' fun a o ha hne hG => h a o ha hne (by
    rw [upd_ne hne]
    exact e'.at hG (by simpa using D.ne ha))) (M H'' fun a o hGa hG' => by
    have hne : a ≠ p := fun z => hp (z ▸ hGa)
    refine h a o (e.back (fun b hb => by rw [List.mem_singleton.mp hb]; exact DG.on) hGa) hne ?_
    rw [upd_ne hne]
    exact hG')
theorem ds_snoc (cs : List Tr) (t : Tr) : Tr.ds (cs ++ [t]) = Tr.ds cs ++ [t.d] := by rw [ds_map, ds_map, List.map_append] <;> rfl
def lastT (cs : List Tr) : Bool := match cs.getLast? with
  | some t => t.isT
  | none => false
theorem apart_snoc : ∀ {cs : List Tr} {t : Tr}, apartT cs → ¬ (lastT cs = true ∧ t.isT = true) → apartT (cs ++ [t])
  | [], _, _, _ => trivial
  | [_], _, _, h => ⟨h, trivial⟩
  | _ :: b :: r, _, ⟨h1, h2⟩, h => ⟨h1, apart_snoc (cs := b :: r) h2 fun z => h ⟨by rw [lastT, List.getLast?_cons_cons]; exact z.1, z.2⟩⟩
theorem isT_type {H : Hp} {x : V} {t : Tr} (h : Dp K H x t.d) : ∃ c, TyX K H x (.type c) ∧ kitB c "str" = some t.isT := by
  cases t with
  | txt z => exact ⟨"str", ty_dp h, (by decide +kernel : kitB "str" "str" = some true)⟩
  | el n cs => exact ⟨"tuple", ty_dp h, (by decide +kernel : kitB "tuple" "str" = some false)⟩
theorem or_any {t u : TT} {σ : L2.St} {H : Hp} {Q : Bool → Hp → Prop} {a : Bool} {R : Bool → Hp → Prop} (h : Ans t σ H a) (hu : a = false → ∀ Q : Bool → Hp → Prop, (∀ b G, R b G → Q b G) → u σ H Q) (ha : a = true → R true H) (k : ∀ b G, R b G → Q b G) : tOr t u σ H Q := by
  refine h _ ?_
  cases a with
  | true => exact iteT (k _ _ (ha rfl))
  | false => exact iteF (hu rfl Q k)
def spTree (K : PySem.W.Frag) (n : Nat) : Sp := fun vs H Q _ => ∃ (d p : Addr) (k : Nat) (ns : List Str), vs = [.ref d, .int (k : Int), .ref p] ∧ k < n ∧ Dr H d ∧ p ≠ d ∧ H p = some (.lst (ns.map V.str)) ∧ ns ≠ [] ∧ ns.length ≤ 4 ∧ (∀ n ∈ ns, n ∈ fourNames) ∧ ∀ (v : V) (nm : Str) (cs : List Tr) (H' : Hp), okTr (k + 1) (.el nm cs) → Dr H' d → Kp [d] H H' → NewD K H H' v (Tr.el nm cs).d → Q v H'
theorem ok__law_tree (T : TX K mg) : ∀ n, Can P w K mg base CX0 (n + 3) (He.fAd K at__law_tree) ps__law_tree [] (spTree K n)
  | 0 => by
    obtain ⟨fd, _, b⟩ := mk__law_tree (P := P) (w := w) (base := base) (CX := CX0) (k := 0) (sp := fun _ _ _ _ => False) T fun fd F => ⟨fun _ _ _ _ h => h.elim, fun _ _ _ _ _ _ _ _ _ _ _ _ _ h => h.elim⟩
    exact ⟨fd, ⟨fun _ _ _ _ ⟨_, _, _, _, _, h, _⟩ => absurd h (Nat.not_lt_zero _), fun _ _ _ _ _ _ _ _ _ _ _ _ _ ⟨_, _, _, _, _, h, _⟩ => absurd h (Nat.not_lt_zero _)⟩, b⟩
  | n + 1 => by
    obtain ⟨fd_s, G__law_tree, ds_s, v__law_tree, b__law_tree⟩ := ok__law_tree T n
    obtain ⟨fd__law_take, G__law_take, ds__law_take, v__law_take, b__law_take⟩ := ok__law_take (P := P) (w := w) (base := base) T
    obtain ⟨fd__law_string, G__law_string, ds__law_string, v__law_string, b__law_string⟩ := ok__law_string (P := P) (w := w) (base := base) T
    exact mk__law_tree T fun fd F => def0 F sc__law_tree (fun vs H Q E h => by
      obtain ⟨d, p, k, ns, rfl, _⟩ := h
      rfl) fun cdv A outer s H vs Q E hr h => by
      obtain ⟨d, p, k, ns, rfl, hk, D, hpd, hp, hn0, hn4, hns, kk⟩ := h
      refine ⟨_, (pss_cons (ps_set (i := 3) sc__law_tree.nd rfl (Or.inl rfl) (pe_lst pa_nil))
  (pss_cons (ps_set (i := 4) sc__law_tree.nd rfl (Or.inl rfl) (pe_call G__law_take (hr.mono (by first | decide | omega)) rfl T.g__law_take T.k__law_take b__law_take v__law_take pass0 (pa_cons (pv 0) (pa_cons pe_int pa_nil))))
  (Evl.pss_cut (ps_if (pt_cmpR op_eq (pv 1) pe_int (nomark _)) (pss_one (ps_set (i := 4) sc__law_tree.nd rfl (Or.inl rfl) (pe_call G__law_take (hr.mono (by first | decide | omega)) rfl T.g__law_take T.k__law_take b__law_take v__law_take pass0 (pa_cons (pv 0) (pa_cons pe_int pa_nil))))) pss_nil)
  (pss_cons (ps_for PassesOwn.never rfl (pi_range1 rfl T.n_range (pa_cons (pv 4) pa_nil)) (pg_name (i := 5) sc__law_tree.nd rfl (Or.inl rfl))
  (pss_cons (ps_set (i := 6) sc__law_tree.nd rfl (Or.inl rfl) (pe_and (pe_cmpR op_gt (pe_callB (cLen K rfl) (by rfl) T.n_len PySem.boot_len (pa_cons (pv 3) pa_nil)) pe_int (nomark _)) (pe_one (pe_callB (cIsi K rfl) (by rfl) T.n_isinstance (by decide +kernel) (pa_cons (pe_ix (ixL K rfl) (pv 3) (pe_op op_sub (pe_callB (cLen K rfl) (by rfl) T.n_len PySem.boot_len (pa_cons (pv 3) pa_nil)) pe_int) (fun _ _ => rfl)) (pa_cons (pe_bltn (v := .ty "str") rfl T.n_str (by decide +kernel) rfl) pa_nil))))))
  (pss_one (ps_if (PW.pt (pw_or (pt_cmpR op_eq (pv 1) pe_int (nomark _)) (pw_or1 (pt_cmpR op_eq (pe_call G__law_take (hr.mono (by first | decide | omega)) rfl T.g__law_take T.k__law_take b__law_take v__law_take pass0 (pa_cons (pv 0) (pa_cons pe_int pa_nil))) pe_int (nomark _))))) (pss_one (ps_if (pt_not (pt_val (pv 6))) (pss_one (ps_expr (eBm K rfl PySem.F.plainAttrs_list PySem.F.slot_list_append PySem.F.type_list_append mt_append (pv 3) (pa_cons (pe_call G__law_string (hr.mono (by first | decide | omega)) rfl T.g__law_string T.k__law_string b__law_string v__law_string pass0 (pa_cons (pv 0) (pa_cons pe_int pa_nil))) pa_nil)))) pss_nil)) (pss_one (ps_expr (eBm K rfl PySem.F.plainAttrs_list PySem.F.slot_list_append PySem.F.type_list_append mt_append (pv 3) (pa_cons (pe_call G__law_tree (hr.mono (by first | decide | omega)) rfl T.g__law_tree T.k__law_tree b__law_tree v__law_tree pass0 (pa_cons (pv 0) (pa_cons (pe_op op_sub (pv 1) pe_int) (pa_cons (pv 2) pa_nil)))) pa_nil))))))))
  (pss_one (ps_ret (pe_tup (pa_cons (pe_ix (ixL K rfl) (pv 2) (pe_call G__law_take (hr.mono (by first | decide | omega)) rfl T.g__law_take T.k__law_take b__law_take v__law_take pass0 (pa_cons (pv 0) (pa_cons (pe_callB (cLen K rfl) (by rfl) T.n_len PySem.boot_len (pa_cons (pv 2) pa_nil)) pa_nil))) (fun _ _ => rfl)) (pa_cons (pv 3) pa_nil))))))))), ?_⟩
      refine st_seq ⟨by show 0 ≤ sizeLine; decide, fun c hc => ?_⟩
      dsimp only [gName]
      have ncd : c ≠ d := D.ne hc
      have ncp : c ≠ p := fun z => by rw [z, hp] at hc; cases hc
      refine st_seq (go_asg ?_)
      refine rd_take rfl val_c (by decide) (D.put hc) fun m1 H1 a0 a1 D1 e1 => ?_
      dsimp only [gName]
      have hc1 : H1 c = some (.lst []) := e1.at upd_same (by simpa using ncd)
      have k1 : Kp [d] H H1 := (Kp.new hc).trans e1
      refine ⟨fun σ G => ∃ m : Int, σ = [some (.ref d), some (.int (k : Int)), some (.ref p), some (.ref c), some (.int m), none, none] ∧ Kp [d] H G ∧ Dr G d ∧ G c = some (.lst []) ∧ 0 ≤ m ∧ m < 4, ?_, ?_⟩
      · refine st_if (ans_v (val_eq (val_var rfl) val_c rfl)) (fun _ => ?_) (fun _ => ⟨m1, rfl, k1, D1, hc1, a0, a1⟩)
        refine go_asg ?_
        refine rd_take rfl val_c (by decide) D1 fun m2 H2 b0 b1 D2 e2 => ?_
        exact ⟨m2, rfl, k1.trans e2, D2, e2.at hc1 (by simpa using ncd), b0, by omega⟩
      · rintro σ G ⟨m, rfl, eG, DG, hcG, m0, m4⟩
        refine st_seq ?_
        refine ⟨_, rfl, m, rfl, by omega, by omega, for_range (lo := 0) (n := m.toNat) (fun i σ G => ∃ (v5 v6 : Option V) (acc : List V) (cs : List Tr), σ = [some (.ref d), some (.int (k : Int)), some (.ref p), some (.ref c), some (.int m), v5, v6] ∧ Kp [d] H G ∧ Dr G d ∧ G c = some (.lst acc) ∧ NewC K H G c acc (Tr.ds cs) ∧ cs.length ≤ i ∧ apartT cs ∧ ∀ t ∈ cs, okTr k t) ⟨_, _, [], [], rfl, eG, DG, hcG, fun _ _ => .nil, Nat.le_refl _, trivial, fun t ht => by cases ht⟩ ?_ ?_⟩
        · rintro i σ G hi ⟨v5, v6, acc, cs, rfl, eG, DG, hcG, N, hl, hap, hok⟩
          have hdp := N G fun _ _ _ _ h => h
          have hlen : acc.length = cs.length := by rw [dpa_len hdp, ds_map, List.length_map]
          have hS : SqL K G c acc := SqL.of hcG
          have hbig : acc.length < sizeLine := by
            have : m.toNat < 4 := by omega
            exact sz_lt (by omega)
          have stp : ∀ (v : V) (t : Tr) (σ' : L2.St) (G2 : Hp) (v5' v6' : Option V), σ' = [some (.ref d), some (.int (k : Int)), some (.ref p), some (.ref c), some (.int m), v5', v6'] → Kp [d] G G2 → Dr G2 d → NewD K G G2 v t.d → okTr k t → ¬ (lastT cs = true ∧ t.isT = true) → ∃ (v5 v6 : Option V) (acc' : List V) (cs : List Tr), σ' = [some (.ref d), some (.int (k : Int)), some (.ref p), some (.ref c), some (.int m), v5, v6] ∧ Kp [d] H (upd G2 c (.lst (acc ++ [v]))) ∧ Dr (upd G2 c (.lst (acc ++ [v]))) d ∧ upd G2 c (.lst (acc ++ [v])) c = some (.lst acc') ∧ NewC K H (upd G2 c (.lst (acc ++ [v]))) c acc' (Tr.ds cs) ∧ cs.length ≤ i + 1 ∧ apartT cs ∧ ∀ t ∈ cs, okTr k t := fun v t σ' G2 v5' v6' hσ e2 D2 M ht hlast => ⟨v5', v6', acc ++ [v], cs ++ [t], hσ, (eG.trans e2).mut hc, D2.mut ncd, upd_same, by
              rw [ds_snoc]
              exact N.snoc D DG (by rw [hcG]; exact nofun) eG e2 M, by rw [List.length_append]; show _ + 1 ≤ _; omega, apart_snoc hap hlast, fun u hu => (List.mem_append.mp hu).elim (hok u) fun z => by rw [List.mem_singleton.mp z]; exact ht⟩
          have hb : Val (tAndV (tOp (rI0 fun i j => V.bl (decide (j < i))) (tCB (rLn K) (tCons (tVar 3) tNil)) (tC (V.int 0))) (tCB (rIsi K) (tCons (tOp (rIxL K) (tVar 3) (tOp (rI0 fun i j => V.int (i - j)) (tCB (rLn K) (tCons (tVar 3) tNil)) (tC (V.int 1)))) (tCons (tC (V.ty "str")) tNil)))) [some (.ref d), some (.int (k : Int)), some (.ref p), some (.ref c), some (.int m), some (.int (0 + (i : Int))), v6] G (.bl (lastT cs)) := by
            cases hq : cs.getLast? with
            | none =>
              have hnil : cs = [] := List.getLast?_eq_none_iff.mp hq
              rw [hnil] at hlen
              exact val_is (val_and (a := false) (b := false) (val_is (val_I (val_lenL (val_var rfl) hS) val_c) (by rw [hlen]; rfl)) nofun) (by rw [lastT, hq]; rfl)
            | some t =>
              have hpos : 0 < cs.length := by
                cases cs with
                | nil => cases hq
                | cons _ _ => exact Nat.succ_pos _
              obtain ⟨x, hx, hxd⟩ := dpAll_at hdp (i := cs.length - 1) (d := t.d) (by
                rw [ds_map, List.getElem?_map, ← List.getLast?_eq_getElem?, hq] <;> rfl)
              obtain ⟨ty, h1, h2⟩ := isT_type hxd
              have hat : atI acc ((acc.length : Int) - 1) = some x := by
                have e1 : (acc.length : Int) - 1 = ((cs.length - 1 : Nat) : Int) := by omega
                rw [e1]
                exact atI_nat hx
              exact val_is (val_and (a := true) (b := t.isT) (val_is (val_I (val_lenL (val_var rfl) hS) val_c) (by rw [decide_eq_true (by omega)])) fun _ => val_isi (val_ixL (val_var rfl) (val_I (val_lenL (val_var rfl) hS) val_c) hS hat) h1 h2) (by rw [lastT, hq]; rfl)
          refine st_seq (go_asg (hb _ ?_))
          dsimp only [gName]
          show tOr _ _ _ _ _
          refine or_any (R := fun b G2 => Kp [d] G G2 ∧ Dr G2 d ∧ (k = 0 → b = true)) (ans_v (val_eq (val_var rfl) val_c rfl)) (fun h0 Q' q' => ?_) (fun _ => ⟨Kp.refl, DG, fun _ => rfl⟩) ?_
          · refine rd_take rfl val_c (by decide) DG fun w G2 w0 w1 D2 e2 => ?_
            exact ⟨rfl, _, rfl, q' _ _ ⟨e2, D2, fun z => by subst z; simp at h0⟩⟩
          · rintro b G2 ⟨e2, D2, hb0⟩
            have hc2 : G2 c = some (.lst acc) := e2.at hcG (by simpa using ncd)
            cases b with
            | true =>
              refine iteT (st_if (ans_not (ans_val (val_var rfl))) (fun hn => ?_) (fun hn => ?_))
              · refine ⟨_, rfl, .inl ⟨rfl, acc, SqL.of hc2⟩, _, rfl, d, 5, rfl, by omega, by omega, D2, fun z G3 hz D3 e3 => ?_⟩
                refine ⟨c, acc, _, rfl, rfl, e3.at hc2 (by simpa using ncd), hbig, ?_⟩
                exact stp (.str z) (.txt z) _ G3 _ _ rfl (e2.trans e3) D3 (fun _ _ => .str z) (by cases k <;> exact hz) fun h => by
                  rw [h.1] at hn
                  cases hn
              · exact ⟨_, _, acc, cs, rfl, eG.trans e2, D2, hc2, fun H'' h => N H'' fun a o ha hne hG => h a o ha hne (e2.at hG (by simpa using D.ne ha)), by omega, hap, hok⟩
            | false =>
              refine iteF ?_
              obtain ⟨k', rfl⟩ : ∃ k', k = k' + 1 := ⟨k - 1, by
                have : k ≠ 0 := fun z => by cases hb0 z
                omega⟩
              refine ⟨_, rfl, .inl ⟨rfl, acc, SqL.of hc2⟩, _, rfl, _, rfl, _, 1, rfl, rfl, _, rfl, d, p, k', ns, ?_, by omega, D2, hpd, (eG.trans e2).at hp (by simpa using hpd), hn0, hn4, hns, fun v nm cs' G3 hok' D3 e3 M => ?_⟩
              · have e1 : ((k' + 1 : Nat) : Int) - 1 = (k' : Int) := by omega
                show [V.ref d, V.int (((k' + 1 : Nat) : Int) - 1), V.ref p] = _
                rw [e1]
              · refine ⟨c, acc, _, rfl, rfl, e3.at hc2 (by simpa using ncd), hbig, ?_⟩
                exact stp v (.el nm cs') _ G3 _ _ rfl (e2.trans e3) D3 (fun H'' h => M H'' fun a o hGa hG' => h a o (e2.back (fun b hb => by rw [List.mem_singleton.mp hb]; exact D2.on) hGa) hG') hok' fun h => by cases h.2
        · rintro σ G ⟨v5, v6, acc, cs, rfl, eG, DG, hcG, N, hl, hap, hok⟩
          have hSp : SqL K G p (ns.map V.str) := SqL.of (eG.at hp (by simpa using hpd))
          have hln : ((ns.map V.str).length : Int) = (ns.length : Int) := by rw [List.length_map]
          have hpos : 0 < ns.length := List.length_pos_iff.mpr hn0
          refine ⟨_, rfl, ?_⟩
          refine rd_take rfl (val_lenL (val_var rfl) hSp) (by omega) DG fun j G2 j0 j1 D2 e2 => ?_
          have hj : j.toNat < ns.length := by omega
          have hat : atI (ns.map V.str) j = some (.str ns[j.toNat]) := by
            have q := atI_nat (xs := ns.map V.str) (j := j.toNat) (v := .str ns[j.toNat]) (by rw [List.getElem?_map, List.getElem?_eq_getElem hj] <;> rfl)
            rwa [Int.toNat_of_nonneg j0] at q
          have hc2 : G2 c = some (.lst acc) := e2.at hcG (by simpa using ncd)
          refine ⟨p, _, j, _, rfl, rfl, SqL.of (e2.at (eG.at hp (by simpa using hpd)) (by simpa using hpd)), hat, _, rfl, by show 2 ≤ sizeLine; decide, fun q hq => ?_⟩
          have nqd : q ≠ d := D2.ne hq
          have hqH : H q = none := (eG.trans e2).back (fun b hb => by rw [List.mem_singleton.mp hb]; exact D2.on) hq
          refine kk (.ref q) ns[j.toNat] cs _ ⟨hns _ (List.getElem_mem hj), by omega, hap, hok⟩ (D2.put hq) ((eG.trans e2).trans (Kp.new hq)) fun H'' h => ?_
          refine .tup (SqT.of (h q _ hqH upd_same)) (.cons (.str _) (.cons (.lst (SqL.of (h c _ hc (by rw [upd_ne (fun z => by rw [z, hq] at hc2; cases hc2)]; exact hc2))) (N H'' fun a o ha hne hG => h a o ha ?_)) .nil))
          have h2 : G2 a = some o := e2.at hG (by simpa using D.ne ha)
          rw [upd_ne (fun z => by rw [z, hq] at h2; cases h2)]
          exact h2
end
/-! ### documents as texts, by the law -/
theorem at_cons {x : V} {xs : List V} : atI (x :: xs) 0 = some x := atI_nat (j := 0) rfl
theorem at_one {x y : V} {xs : List V} : atI (x :: y :: xs) 1 = some y := atI_nat (j := 1) rfl
theorem sum_len : ∀ ys : List Str, (ys.map (·.length)).sum = (ys.map (·.cps.toList)).flatten.length
  | [] => rfl
  | y :: ys => by
    rw [List.map_cons, List.map_cons, List.flatten_cons, List.length_append, List.sum_cons, sum_len ys, Array.length_toList]
    rfl
theorem nosign : ("" : Str) = ⟨#[]⟩ := by decide +kernel
theorem sL_inj {a b : List Nat} (h : sL a = sL b) : a = b := by
  have := congrArg (fun z : Str => z.cps.toList) h
  exact this
section
variable {K : PySem.W.Frag}
/-- the parts of an element, as values -/
theorem el_parts {H : Hp} {x : V} {n : Str} {cs : List Tr} (h : Dp K H x (Tr.el n cs).d) : ∃ (a l : Addr) (ys : List V), x = .ref a ∧ SqT K H a [.str n, .ref l] ∧ SqL K H l ys ∧ DpAll K H ys (Tr.ds cs) := by
  cases h with
  | @tup a xs _ sx ax =>
    cases ax with
    | cons h1 r =>
      cases h1
      cases r with
      | cons h2 r2 =>
        cases r2
        cases h2 with
        | @lst l ys _ sl al => exact ⟨a, l, ys, rfl, sx, sl, al⟩
end
/-! ### letters and signs -/
def spSign2 : Sp := fun vs H Q _ => ∃ c : Nat, vs = [.str (sL [c])] ∧ Q (.bl (sgB c)) H
def spLetter2 : Sp := fun vs H Q _ => ∃ c : Nat, vs = [.str (sL [c])] ∧ Q (.bl (letB c)) H
section
variable {P : Program} {w : World} {K : PySem.W.Frag} {mg : Str → Option Value} {base : Heap}
theorem chain_le {a b c : Nat} : (decide (a ≤ c) && decide (c ≤ b)) = (Nat.ble a c && Nat.ble c b) := by
  have e : ∀ x y : Nat, decide (x ≤ y) = Nat.ble x y := fun x y => by
    cases q : Nat.ble x y with
    | true => exact decide_eq_true (Nat.le_of_ble_eq_true q)
    | false => exact decide_eq_false fun z => by rw [Nat.ble_eq_true_of_le z] at q; cases q
  rw [e, e]
theorem ok_is_sign (T : TX K mg) : Can P w K mg base CX0 1 (He.fAd K at_is_sign) ps_is_sign [] spSign2 := mk_is_sign T fun fd F => def0 F sc_is_sign (fun vs H Q E h => by
  obtain ⟨c, rfl, _⟩ := h
  rfl) fun cdv A outer s H vs Q E hr h => by
  obtain ⟨c, rfl, k⟩ := h
  refine ⟨_, (pss_one (ps_ret (pe_or (pe_cmpR op_eq (pv 0) pe_str (nomark _)) (pe_one (pe_chain op_le_str op_le_str pe_str (pv 0) pe_str))))), ?_⟩
  refine go_ret ?_
  refine ⟨_, rfl, rfl, decide (c = 10), by
    by_cases e : c = 10
    · subst e
      rfl
    · rw [decide_eq_false e, decide_eq_false fun z => e (by
        have h1 : ("\n" : Str) = sL [10] := by decide +kernel
        have h2 := V.str.inj z
        rw [h1] at h2
        exact (List.cons.inj (sL_inj h2)).1)], ?_⟩
  unfold sgB at k
  by_cases e : c = 10
  · subst e
    rw [decide_eq_true rfl]
    exact iteT k
  · rw [decide_eq_false e]
    refine iteF (val_chS (a := 32) (b := 126) (val_var rfl) (by decide +kernel) (by decide +kernel) _ ?_)
    have : Nat.beq c 10 = false := by
      cases q : Nat.beq c 10 with
      | false => rfl
      | true => exact absurd (Nat.eq_of_beq_eq_true q) e
    rw [this, Bool.false_or] at k
    rw [chain_le]
    exact k
theorem ok_is_letter (T : TX K mg) : Can P w K mg base CX0 1 (He.fAd K at_is_letter) ps_is_letter [] spLetter2 := mk_is_letter T fun fd F => def0 F sc_is_letter (fun vs H Q E h => by
  obtain ⟨c, rfl, _⟩ := h
  rfl) fun cdv A outer s H vs Q E hr h => by
  obtain ⟨c, rfl, k⟩ := h
  refine ⟨_, (pss_one (ps_ret (pe_chain op_le_str op_le_str pe_str (pv 0) pe_str))), ?_⟩
  refine go_ret (val_chS (a := 97) (b := 122) (val_var rfl) (by decide +kernel) (by decide +kernel) _ ?_)
  rw [chain_le]
  exact k
end
/-! ### names, texts, documents -/
def TGx (K : PySem.W.Frag) (H : Hp) : Prop := ∀ a ∈ genT K, H a = some (TabO a)
theorem TGx.ex {K : PySem.W.Frag} {H H' : Hp} (h : TGx K H) (e : Ex H H') : TGx K H' := fun a ha => e _ _ (h a ha)
theorem TGx.at {K : PySem.W.Frag} {H : Hp} (h : TGx K H) {p : He.Defn} (hp : p ∈ tf) : H (He.cT K p).2 = some (TabO (He.cT K p).2) := h _ (List.mem_map.mpr ⟨p, hp, rfl⟩)
theorem TGx.kp {K : PySem.W.Frag} {S : List Addr} {H H' : Hp} (h : TGx K H) (e : Kp S H H') (hS : ∀ a ∈ S, ∃ xs, H a = some (.lst xs)) : TGx K H' := fun a ha => e.at (h a ha) fun z => by
  obtain ⟨xs, q⟩ := hS a z
  rw [h a ha] at q
  cases q
def spName (K : PySem.W.Frag) : Sp := fun vs H Q _ => ∃ z : Str, vs = [.str z] ∧ z.cps.size ≤ 100000 ∧ TGx K H ∧ ∀ H', Ex H H' → Q (.bl (nameB z)) H'
def spOnly (K : PySem.W.Frag) : Sp := fun vs H Q _ => ∃ z : Str, vs = [.str z] ∧ z.cps.size ≤ 100000 ∧ TGx K H ∧ ∀ H', Ex H H' → Q (.bl (z.cps.toList.all sgB)) H'
def spText2 (K : PySem.W.Frag) : Sp := fun vs H Q _ => ∃ z : Str, vs = [.str z] ∧ z.cps.size ≤ 100000 ∧ TGx K H ∧ ∀ H', Ex H H' → Q (.bl (txtB z)) H'
def spKids (K : PySem.W.Frag) : Sp := fun vs H Q _ => ∃ (H0 : Hp) (v : V) (t : Tr), vs = [v] ∧ Ex H0 H ∧ Dp K H0 v t.d ∧ ∀ (l : Addr) (ys : List V) (H' : Hp), Ex H H' → DpAll K H0 ys (Tr.ds (kidsT t)) → (∀ G, Ex H0 G → (H l = none → ∀ o, H' l = some o → G l = some o) → SqL K G l ys) → Q (.ref l) H'
def spBeside (K : PySem.W.Frag) : Sp := fun vs H Q _ => ∃ (l : Addr) (ys : List V) (cs : List Tr), vs = [.ref l] ∧ SqL K H l ys ∧ DpAll K H ys (Tr.ds cs) ∧ cs.length ≤ 100000 ∧ TGx K H ∧ ∀ H', Ex H H' → Q (.bl (besideB cs)) H'
def spWell (K : PySem.W.Frag) : Sp := fun vs H Q _ => ∃ (v : V) (t : Tr), vs = [v] ∧ Dp K H v t.d ∧ smallT t ∧ nod t ≤ 100001 ∧ TGx K H ∧ ∀ H', Ex H H' → Q (.bl (wellB t)) H'
def spIsDoc (K : PySem.W.Frag) : Sp := fun vs H Q _ => ∃ (v : V) (t : Tr), vs = [v] ∧ Dp K H v t.d ∧ smallT t ∧ nod t ≤ 100000 ∧ TGx K H ∧ ∀ H', Ex H H' → Q (.bl (docB t)) H'
section
variable {P : Program} {w : World} {K : PySem.W.Frag} {mg : Str → Option Value} {base : Heap}
theorem len_str {σ : L2.St} {H : Hp} {z : Str} {te : TE} (h : Val te σ H (.str z)) (hz : z.cps.size ≤ 100000) : Val (tCB (fun xs H Q => ∃ z, xs = [V.str z] ∧ z.length ≤ sizeLine ∧ Q (V.int (z.length : Int)) H) (tCons te tNil)) σ H (.int ((z.cps.size : Nat) : Int)) :=
  val_is (val_cb (v := .int (z.length : Int)) (va_one h) fun Q q => ⟨_, rfl, sz_of hz, q⟩) rfl
theorem int_le {a b : Nat} : decide ((a : Int) ≤ (b : Int)) = decide (a ≤ b) := by
  rw [decide_eq_decide]
  omega
theorem ok_is_name (T : TX K mg) (B : ∀ p ∈ tf, LamX.TabB base mg (He.cT K p).1 (He.cT K p).2) : Can P w K mg base CX0 3 (He.fAd K at_is_name) ps_is_name [] (spName K) := by
  obtain ⟨fd_is_letter, G_is_letter, ds_is_letter, v_is_letter, b_is_letter⟩ := ok_is_letter (P := P) (w := w) (base := base) T
  exact mk_is_name T fun fd F => def0G F sc_is_name (fun vs H Q E h => by
    obtain ⟨z, rfl, _⟩ := h
    rfl) fun A outer s H vs Q E hr h => by
    obtain ⟨z, rfl, hz, hT, k⟩ := h
    refine ⟨_, (pss_one (ps_ret (pe_and (pe_chain op_le op_le pe_int (pe_callB call_len_str (by rfl) T.n_len PySem.boot_len (pa_cons (pv 0) pa_nil)) (pe_glob (v := .int 12) rfl T.c_NAME_LETTERS.choose_spec ⟨_, rfl⟩)) (pe_one (by exact (pe_gAll (k := 1) (tgr := gName 0) (own := ["letter"]) (cs := []) (hr.mono (by first | decide | omega)) (by rfl) T.n_all (tabB_G (B at_is_name (by simp [tf]))) rfl (gnS_by (N := N_is_name) (sc := defScope s_is_name) (by decide +kernel)) (pi_str (pv 0)) (fun _ _ _ _ _ _ => by exact (pg_name (i := 0) (show List.Nodup (["letter"] : List Str) from by decide +kernel) rfl (Or.inl rfl))) (fun _ _ _ _ _ _ hr => by exact (pe_call G_is_letter (hr.mono (by first | decide | omega)) rfl T.g_is_letter T.k_is_letter b_is_letter v_is_letter pass0 (pa_cons (pv 0) pa_nil))))))))), ?_⟩
    refine s_ret (ev_is (ev_andV (ev_val fun _ _ => val_chain val_c (len_str (val_var rfl) hz) val_c) fun _ => ev_gxS (ev_var rfl) (hT.at (by simp [tf])) letB fun c G e hc => ev_call (ea_cons (ev_var rfl) ea_nil) fun H1 e1 Q q E => ⟨c, rfl, q H1 (Ex.refl _)⟩) ?_) fun H1 e1 => k H1 e1
    unfold nameB
    rw [← int_le (a := 1), ← int_le (b := 12)]
    rfl
theorem ok_has_only_signs (T : TX K mg) (B : ∀ p ∈ tf, LamX.TabB base mg (He.cT K p).1 (He.cT K p).2) : Can P w K mg base CX0 3 (He.fAd K at_has_only_signs) ps_has_only_signs [] (spOnly K) := by
  obtain ⟨fd_is_sign, G_is_sign, ds_is_sign, v_is_sign, b_is_sign⟩ := ok_is_sign (P := P) (w := w) (base := base) T
  exact mk_has_only_signs T fun fd F => def0G F sc_has_only_signs (fun vs H Q E h => by
    obtain ⟨z, rfl, _⟩ := h
    rfl) fun A outer s H vs Q E hr h => by
    obtain ⟨z, rfl, hz, hT, k⟩ := h
    refine ⟨_, (pss_one (ps_ret (by exact (pe_gAll (k := 1) (tgr := gName 0) (own := ["character"]) (cs := []) (hr.mono (by first | decide | omega)) (by rfl) T.n_all (tabB_G (B at_has_only_signs (by simp [tf]))) rfl (gnS_by (N := N_has_only_signs) (sc := defScope s_has_only_signs) (by decide +kernel)) (pi_str (pv 0)) (fun _ _ _ _ _ _ => by exact (pg_name (i := 0) (show List.Nodup (["character"] : List Str) from by decide +kernel) rfl (Or.inl rfl))) (fun _ _ _ _ _ _ hr => by exact (pe_call G_is_sign (hr.mono (by first | decide | omega)) rfl T.g_is_sign T.k_is_sign b_is_sign v_is_sign pass0 (pa_cons (pv 0) pa_nil))))))), ?_⟩
    exact s_ret (ev_gxS (ev_var rfl) (hT.at (by simp [tf])) sgB fun c G e hc => ev_call (ea_cons (ev_var rfl) ea_nil) fun H1 e1 Q q E => ⟨c, rfl, q H1 (Ex.refl _)⟩) fun H1 e1 => k H1 e1
theorem ok_is_text (T : TX K mg) (B : ∀ p ∈ tf, LamX.TabB base mg (He.cT K p).1 (He.cT K p).2) : Can P w K mg base CX0 4 (He.fAd K at_is_text) ps_is_text [] (spText2 K) := by
  obtain ⟨fd_has_only_signs, G_has_only_signs, ds_has_only_signs, v_has_only_signs, b_has_only_signs⟩ := ok_has_only_signs (P := P) (w := w) (base := base) T B
  exact mk_is_text T fun fd F => def0 F sc_is_text (fun vs H Q E h => by
    obtain ⟨z, rfl, _⟩ := h
    rfl) fun cdv A outer s H vs Q E hr h => by
    obtain ⟨z, rfl, hz, hT, k⟩ := h
    refine ⟨_, (pss_one (ps_ret (pe_and (pe_chain op_le op_le pe_int (pe_callB call_len_str (by rfl) T.n_len PySem.boot_len (pa_cons (pv 0) pa_nil)) (pe_glob (v := .int 200) rfl T.c_TEXT_CHARACTERS.choose_spec ⟨_, rfl⟩)) (pe_one (pe_call G_has_only_signs (hr.mono (by first | decide | omega)) rfl T.g_has_only_signs T.k_has_only_signs b_has_only_signs v_has_only_signs pass0 (pa_cons (pv 0) pa_nil)))))), ?_⟩
    refine s_ret (ev_is (ev_andV (ev_val fun _ _ => val_chain val_c (len_str (val_var rfl) hz) val_c) fun _ => ev_call (ea_cons (ev_var rfl) ea_nil) fun H1 e1 Q q E => ⟨z, rfl, hz, hT.ex e1, q⟩) ?_) fun H1 e1 => k H1 e1
    unfold txtB
    rw [← int_le (a := 1), ← int_le (b := 200)]
    rfl
theorem ok__children (T : TX K mg) : Can P w K mg base CX0 1 (He.fAd K at__children) ps__children [] (spKids K) := mk__children T fun fd F => def0 F sc__children (fun vs H Q E h => by
  obtain ⟨H0, v, t, rfl, _⟩ := h
  rfl) fun cdv A outer s H vs Q E hr h => by
  obtain ⟨H0, v, t, rfl, e0, hd, k⟩ := h
  refine ⟨_, (pss_one (ps_ret (pe_ifExp (pt_val (pe_callB (cIsi K rfl) (by rfl) T.n_isinstance (by decide +kernel) (pa_cons (pv 0) (pa_cons (pe_bltn (v := .ty "str") rfl T.n_str (by decide +kernel) rfl) pa_nil)))) (pe_lst pa_nil) (pe_ix (ixT K rfl) (pv 0) pe_int (fun _ _ => rfl))))), ?_⟩
  have tx := ty_dp (dp_ex e0 hd)
  cases t with
  | txt z =>
    replace tx : TyX K H v (.type "str") := tx
    refine go_ret (ans_v (val_isi (b := true) (val_var rfl) tx (by decide +kernel)) _ (iteT ⟨by show 0 ≤ sizeLine; decide, fun p hp => ?_⟩))
    exact k p [] _ (Ex.new hp) .nil fun G _ hG => SqL.of (hG hp _ upd_same)
  | el nm cs =>
    replace tx : TyX K H v (.type "tuple") := tx
    obtain ⟨a', l, ys, rfl, sx, sl, al⟩ := el_parts hd
    refine go_ret (ans_v (val_isi (b := false) (val_var rfl) tx (by decide +kernel)) _ (iteF (val_ixT (val_var rfl) val_c (ex_t e0 sx) at_one _ ?_)))
    exact k l ys H (Ex.refl _) al fun G eG _ => ex_l eG sl
theorem isT_at {H : Hp} {ys : List V} {cs : List Tr} {i : Nat} {x : V} (h : DpAll K H ys (Tr.ds cs)) (e : ys[i]? = some x) : ∃ c, TyX K H x (.type c) ∧ kitB c "str" = some (isTi cs i) := by
  obtain ⟨d, hd, hx⟩ := dpa_at h e
  rw [ds_map, List.getElem?_map] at hd
  cases q : cs[i]? with
  | none => rw [q] at hd; cases hd
  | some t =>
    rw [q] at hd
    cases hd
    obtain ⟨c, h1, h2⟩ := isT_type hx
    refine ⟨c, h1, ?_⟩
    unfold isTi
    rw [q]
    exact h2
theorem ok__has_texts_beside (T : TX K mg) (B : ∀ p ∈ tf, LamX.TabB base mg (He.cT K p).1 (He.cT K p).2) : Can P w K mg base CX0 3 (He.fAd K at__has_texts_beside) ps__has_texts_beside [] (spBeside K) := by
  exact mk__has_texts_beside T fun fd F => def0G F sc__has_texts_beside (fun vs H Q E h => by
    obtain ⟨l, ys, cs, rfl, _⟩ := h
    rfl) fun A outer s H vs Q E hr h => by
    obtain ⟨l, ys, cs, rfl, hl, hd, hz, hT, k⟩ := h
    refine ⟨_, (pss_one (ps_ret (by exact (pe_gAny (k := 1) (tgr := gTup K 2 (gCons (gName 0) (gCons (gName 1) gNil))) (own := ["one", "other"]) (cs := []) (hr.mono (by first | decide | omega)) (by rfl) T.n_any (tabB_G (B at__has_texts_beside (by simp [tf]))) rfl (gnS_by (N := N__has_texts_beside) (sc := defScope s__has_texts_beside) (by decide +kernel)) (iZp K rfl (by rfl) T.n_zip (pa_cons (pv 0) (pa_cons (pe_slice (slL K rfl) (pv 0) (po_some pe_int) po_none) pa_nil))) (fun _ _ _ _ _ _ => by exact (pg_tup rfl (pgs_cons (pg_name (i := 0) (show List.Nodup (["one", "other"] : List Str) from by decide +kernel) rfl (Or.inl rfl)) (pgs_cons (pg_name (i := 1) (show List.Nodup (["one", "other"] : List Str) from by decide +kernel) rfl (Or.inl rfl)) pgs_nil)))) (fun _ _ _ _ _ _ hr => by exact (pe_and (pe_callB (cIsi K rfl) (by rfl) T.n_isinstance (by decide +kernel) (pa_cons (pv 0) (pa_cons (pe_bltn (v := .ty "str") rfl T.n_str (by decide +kernel) rfl) pa_nil))) (pe_one (pe_callB (cIsi K rfl) (by rfl) T.n_isinstance (by decide +kernel) (pa_cons (pv 1) (pa_cons (pe_bltn (v := .ty "str") rfl T.n_str (by decide +kernel) rfl) pa_nil)))))))))), ?_⟩
    have hyl : ys.length = cs.length := by rw [dpa_len hd, ds_map, List.length_map]
    refine s_ret (ev_is (ev_gxZ (K := K) (n := cs.length - 1) (ev_var rfl) hl (el_sl (ev_var rfl) (eo_some ev_c) eo_none hl) ?_ (hT.at (by simp [tf])) (fun i => isTi cs i && isTi cs (i + 1)) fun i x y G e hi hx hy => ?_) ?_) fun H1 e1 => k H1 e1
    · show _ = min ys.length (cutV ys (some ((1 : Nat) : Int)) none).length
      by_cases h : 1 ≤ ys.length
      · rw [cut_from h, List.length_drop]
        omega
      · have : ys = [] := List.eq_nil_of_length_eq_zero (by omega)
        rw [this] at hyl ⊢
        rw [← hyl]
        rfl
    · have h1 : 1 ≤ ys.length := by omega
      have hy : (cutV ys (some ((1 : Nat) : Int)) none)[i]? = some y := hy
      rw [cut_from h1, List.getElem?_drop, Nat.add_comm] at hy
      have hd' := dpAll_ex e hd
      obtain ⟨c1, t1, k1⟩ := isT_at hd' hx
      obtain ⟨c2, t2, k2⟩ := isT_at hd' hy
      exact ev_andV (ev_val fun G' e' => val_isi (val_var rfl) (isT_at (dpAll_ex e' hd') hx).choose_spec.1 (isT_at (dpAll_ex e' hd') hx).choose_spec.2) fun _ => ev_val fun G' e' => val_isi (val_var rfl) (isT_at (dpAll_ex e' hd') hy).choose_spec.1 (isT_at (dpAll_ex e' hd') hy).choose_spec.2
    · rw [beside_res]
theorem ok__is_well_made (T : TX K mg) (B : ∀ p ∈ tf, LamX.TabB base mg (He.cT K p).1 (He.cT K p).2) : Can P w K mg base CX0 5 (He.fAd K at__is_well_made) ps__is_well_made [] (spWell K) := by
  obtain ⟨fd_is_text, G_is_text, ds_is_text, v_is_text, b_is_text⟩ := ok_is_text (P := P) (w := w) (base := base) T B
  obtain ⟨fd_is_name, G_is_name, ds_is_name, v_is_name, b_is_name⟩ := ok_is_name (P := P) (w := w) (base := base) T B
  obtain ⟨fd__has_texts_beside, G__has_texts_beside, ds__has_texts_beside, v__has_texts_beside, b__has_texts_beside⟩ := ok__has_texts_beside (P := P) (w := w) (base := base) T B
  exact mk__is_well_made T fun fd F => def0 F sc__is_well_made (fun vs H Q E h => by
    obtain ⟨v, t, rfl, _⟩ := h
    rfl) fun cdv A outer s H vs Q E hr h => by
    obtain ⟨v, t, rfl, hd, hs, hn, hT, k⟩ := h
    refine ⟨_, (pss_cons (ps_if (pt_val (pe_callB (cIsi K rfl) (by rfl) T.n_isinstance (by decide +kernel) (pa_cons (pv 0) (pa_cons (pe_bltn (v := .ty "str") rfl T.n_str (by decide +kernel) rfl) pa_nil)))) (pss_one (ps_ret (pe_call G_is_text (hr.mono (by first | decide | omega)) rfl T.g_is_text T.k_is_text b_is_text v_is_text pass0 (pa_cons (pv 0) pa_nil)))) pss_nil)
  (pss_one (ps_ret (pe_and (pe_call G_is_name (hr.mono (by first | decide | omega)) rfl T.g_is_name T.k_is_name b_is_name v_is_name pass0 (pa_cons (pe_ix (ixT K rfl) (pv 0) pe_int (fun _ _ => rfl)) pa_nil)) (pe_one (pe_not (pe_call G__has_texts_beside (hr.mono (by first | decide | omega)) rfl T.g__has_texts_beside T.k__has_texts_beside b__has_texts_beside v__has_texts_beside pass0 (pa_cons (pe_ix (ixT K rfl) (pv 0) pe_int (fun _ _ => rfl)) pa_nil)))))))), ?_⟩
    have tx := ty_dp hd
    cases t with
    | txt z =>
      replace tx : TyX K H v (.type "str") := tx
      cases hd
      rw [smallT] at hs
      refine st_seq (st_yes (ans_val (val_isi (b := true) (val_var rfl) tx (by decide +kernel))) ?_)
      exact s_ret (ev_call (ea_cons (ev_var rfl) ea_nil) fun H1 e1 Q q E => ⟨z, rfl, hs, hT.ex e1, q⟩) fun H1 e1 => k H1 e1
    | el nm cs =>
      replace tx : TyX K H v (.type "tuple") := tx
      obtain ⟨a', l, ys, rfl, sx, sl, al⟩ := el_parts hd
      rw [smallT] at hs
      have hcl : cs.length ≤ 100000 := by
        have := len_nods cs
        rw [nod] at hn
        omega
      refine st_seq (st_no (ans_val (val_isi (b := false) (val_var rfl) tx (by decide +kernel))) ?_)
      exact s_ret (ev_andV (ev_call (ea_cons (ev_val fun _ e => val_ixT (val_var rfl) val_c (ex_t e sx) at_cons) ea_nil) fun H1 e1 Q q E => ⟨nm, rfl, hs.1, hT.ex e1, q⟩) fun _ => ev_notV (ev_call (ea_cons (ev_val fun _ e => val_ixT (val_var rfl) val_c (ex_t e sx) at_one) ea_nil) fun H1 e1 Q q E => ⟨l, ys, cs, rfl, ex_l e1 sl, dpAll_ex e1 al, hcl, hT.ex e1, q⟩)) fun H1 e1 => k H1 e1
/-- what stands in the stack of nodes -/
def GoodN (K : PySem.W.Frag) (H G : Hp) (x : V) (p : Tr × Nat) : Prop := ∃ (a : Addr) (v : V), x = .ref a ∧ G a = some (.tup [v, .int (p.2 : Int)]) ∧ Dp K H v p.1.d ∧ smallT p.1
def StkG (K : PySem.W.Frag) (H G : Hp) (xs : List V) (L : List (Tr × Nat)) : Prop := xs.length = L.length ∧ ∀ (i : Nat) (x : V) (p : Tr × Nat), xs[i]? = some x → L[i]? = some p → GoodN K H G x p
theorem StkG.up {H G G' : Hp} {xs : List V} {L : List (Tr × Nat)} (h : StkG K H G xs L) (e : ∀ a ys, G a = some (.tup ys) → G' a = some (.tup ys)) : StkG K H G' xs L := ⟨h.1, fun i x p h1 h2 => by
  obtain ⟨a, v, g1, g2, g3, g4⟩ := h.2 i x p h1 h2
  exact ⟨a, v, g1, e _ _ g2, g3, g4⟩⟩
theorem StkG.snoc {H G : Hp} {xs : List V} {L : List (Tr × Nat)} {x : V} {p : Tr × Nat} (h : StkG K H G xs L) (g : GoodN K H G x p) : StkG K H G (xs ++ [x]) (L ++ [p]) := ⟨by rw [List.length_append, List.length_append, h.1]; rfl, fun i y q h1 h2 => by
  by_cases hi : i < xs.length
  · rw [List.getElem?_append_left hi] at h1
    rw [List.getElem?_append_left (by rw [← h.1]; exact hi)] at h2
    exact h.2 i y q h1 h2
  · rw [List.getElem?_append_right (by omega)] at h1
    rw [List.getElem?_append_right (by rw [← h.1]; omega), ← h.1] at h2
    cases r : i - xs.length with
    | zero =>
      rw [r] at h1 h2
      cases h1
      cases h2
      exact g
    | succ n =>
      rw [r] at h1
      cases h1⟩
theorem StkG.last {H G : Hp} {xs : List V} {L : List (Tr × Nat)} {p : Tr × Nat} (h : StkG K H G xs (L ++ [p])) : ∃ ys x, xs = ys ++ [x] ∧ StkG K H G ys L ∧ GoodN K H G x p := by
  have hl := h.1
  rw [List.length_append] at hl
  have hne : xs ≠ [] := fun z => by
    rw [z] at hl
    exact absurd hl (by show (0 : Nat) ≠ L.length + 1; omega)
  have hx := List.dropLast_concat_getLast hne
  have hdl : xs.dropLast.length = L.length := by
    rw [List.length_dropLast, hl]
    rfl
  refine ⟨xs.dropLast, xs.getLast hne, hx.symm, ⟨hdl, fun i y q h1 h2 => ?_⟩, ?_⟩
  · have hi : i < xs.dropLast.length := by
      rw [hdl]
      exact (List.getElem?_eq_some_iff.mp h2).1
    refine h.2 i y q ?_ ?_
    · rw [← hx, List.getElem?_append_left hi]
      exact h1
    · rw [List.getElem?_append_left (by rw [← hdl]; exact hi)]
      exact h2
  · refine h.2 L.length _ p ?_ ?_
    · rw [← List.getLast?_eq_some_getLast hne, List.getLast?_eq_getElem?, hl]
      rfl
    · rw [List.getElem?_append_right (Nat.le_refl _), Nat.sub_self]
      rfl
theorem ok_is_document (T : TX K mg) (B : ∀ p ∈ tf, LamX.TabB base mg (He.cT K p).1 (He.cT K p).2) : Can P w K mg base CX0 6 (He.fAd K at_is_document) ps_is_document [] (spIsDoc K) := by
  obtain ⟨fd__children, G__children, ds__children, v__children, b__children⟩ := ok__children (P := P) (w := w) (base := base) T
  obtain ⟨fd__is_well_made, G__is_well_made, ds__is_well_made, v__is_well_made, b__is_well_made⟩ := ok__is_well_made (P := P) (w := w) (base := base) T B
  exact mk_is_document T fun fd F => def0 F sc_is_document (fun vs H Q E h => by
    obtain ⟨v, t, rfl, _⟩ := h
    rfl) fun cdv A outer s H vs Q E hr h => by
    obtain ⟨v, t, rfl, hd, hs, hn, hT, k⟩ := h
    refine ⟨_, (pss_cons (ps_if (pt_val (pe_callB (cIsi K rfl) (by rfl) T.n_isinstance (by decide +kernel) (pa_cons (pv 0) (pa_cons (pe_bltn (v := .ty "str") rfl T.n_str (by decide +kernel) rfl) pa_nil)))) (pss_one (ps_ret pe_bl)) pss_nil)
  (pss_cons (ps_set (i := 1) sc_is_document.nd rfl (Or.inl rfl) pe_int)
  (pss_cons (ps_set (i := 2) sc_is_document.nd rfl (Or.inl rfl) (pe_lst (pa_cons (pe_tup (pa_cons (pv 0) (pa_cons pe_int pa_nil))) pa_nil)))
  (pss_cons (ps_while PassesOwn.never (tTruth K rfl (pv 2))
  (pss_cons (ps_asg (eBm0 K rfl PySem.F.plainAttrs_list PySem.F.slot_list_pop PySem.F.type_list_pop mt_pop (pv 2)) (pg_tup rfl (pgs_cons (pg_name (i := 3) sc_is_document.nd rfl (Or.inl rfl)) (pgs_cons (pg_name (i := 4) sc_is_document.nd rfl (Or.inl rfl)) pgs_nil))))
  (pss_cons (ps_aug (i := 1) sc_is_document.nd rfl (Or.inl rfl) (pe_callB (cLen K rfl) (by rfl) T.n_len PySem.boot_len (pa_cons (pe_call G__children (hr.mono (by first | decide | omega)) rfl T.g__children T.k__children b__children v__children pass0 (pa_cons (pv 3) pa_nil)) pa_nil)) ip_add)
  (pss_cons (ps_if (PW.pt (pw_or (pt_cmpR op_gt (pv 1) (pe_glob (v := .int 5000) rfl T.c_MOST_NODES.choose_spec ⟨_, rfl⟩) (nomark _)) (pw_or (pt_cmpR op_gt (pv 4) (pe_glob (v := .int 60) rfl T.c_MOST_DEPTH.choose_spec ⟨_, rfl⟩) (nomark _)) (pw_or1 (pt_not (pt_val (pe_call G__is_well_made (hr.mono (by first | decide | omega)) rfl T.g__is_well_made T.k__is_well_made b__is_well_made v__is_well_made pass0 (pa_cons (pv 3) pa_nil)))))))) (pss_one (ps_ret pe_bl)) pss_nil)
  (pss_one (ps_for PassesOwn.never rfl (iLst K rfl (pe_call G__children (hr.mono (by first | decide | omega)) rfl T.g__children T.k__children b__children v__children pass0 (pa_cons (pv 3) pa_nil))) (pg_name (i := 5) sc_is_document.nd rfl (Or.inl rfl))
  (pss_one (ps_expr (eBm K rfl PySem.F.plainAttrs_list PySem.F.slot_list_append PySem.F.type_list_append mt_append (pv 2) (pa_cons (pe_tup (pa_cons (pv 5) (pa_cons (pe_op op_add (pv 4) pe_int) pa_nil))) pa_nil))))))))))
  (pss_one (ps_ret pe_bl)))))), ?_⟩
    have tx := ty_dp hd
    cases ht : t with
    | txt z =>
      subst ht
      replace tx : TyX K H v (.type "str") := tx
      exact st_seq (st_yes (ans_val (val_isi (b := true) (val_var rfl) tx (by decide +kernel))) (go_ret (k H (Ex.refl _))))
    | el nm cs =>
      have hB : docB t = (okAt 1 t && decide (nod t ≤ 5000)) := by
        rw [ht]
        rfl
      have tx : TyX K H v (.type "tuple") := by
        rw [ht] at tx
        exact tx
      clear ht
      refine st_seq (st_no (ans_val (val_isi (b := false) (val_var rfl) tx (by decide +kernel))) ?_)
      dsimp only [tNext]
      refine st_seq (go_asg ?_)
      dsimp only [tC, gName]
      refine st_seq (go_asg ⟨_, rfl, by show 2 ≤ sizeLine; decide, fun q hq => ⟨by show 1 ≤ sizeLine; decide, fun p hp => ?_⟩⟩)
      dsimp only [gName]
      have hpH : H p = none := fresh_back (Ex.new hq) hp
      have hqp : q ≠ p := fun z => by
        rw [← z, upd_same] at hp
        cases hp
      refine q_while (fun n σ G => ∃ (L : List (Tr × Nat)) (xs : List V) (m : Nat) (v3 v4 v5 : Option V), σ = [some v, some (.int (m : Int)), some (.ref p), v3, v4, v5] ∧ Ex H G ∧ G p = some (.lst xs) ∧ StkG K H G xs L ∧ m + stkN L = nod t + L.length ∧ m ≤ 5000 ∧ L.length ≤ m ∧ okAt 1 t = stkOk L ∧ n = stkN L) (nod t) ?_ ?_
      · refine ⟨[(t, 1)], _, 1, none, none, none, rfl, (Ex.new hq).mut hpH, upd_same, ⟨rfl, fun i x r h1 h2 => ?_⟩, ?_, by decide, Nat.le_refl _, ?_, ?_⟩
        · cases i with
          | zero =>
            cases h1
            cases h2
            exact ⟨q, v, rfl, by rw [upd_ne hqp, upd_same]; rfl, hd, hs⟩
          | succ i => cases h1
        · unfold stkN
          simp
          omega
        · unfold stkOk
          simp
        · unfold stkN
          simp
      rintro n σ G ⟨L, xs, m, v3, v4, v5, rfl, eG, hGp, hL, hm, hm5, hLm, hok, rfl⟩
      refine ⟨!xs.isEmpty, fun H1 e Q q => ⟨_, rfl, _, .inl ⟨xs, SqL.of (e _ _ hGp), rfl⟩, q H1 (Ex.refl _)⟩, fun hb G1 e1 => ?_, fun hb G1 e1 => ?_⟩
      · rcases List.eq_nil_or_concat L with rfl | ⟨L', pr, hcc⟩
        · have : xs = [] := List.eq_nil_of_length_eq_zero hL.1
          rw [this] at hb
          cases hb
        rw [List.concat_eq_append] at hcc
        subst hcc
        obtain ⟨t', d⟩ := pr
        obtain ⟨ys, x, rfl, hLs, a, v', rfl, hGa, hdv, hsm⟩ := hL.last
        replace hsm : smallT t' := hsm
        replace hdv : Dp K H v' t'.d := hdv
        replace hGa : G a = some (.tup [v', .int (d : Int)]) := hGa
        refine ⟨fun σ2 G2 => ∃ m', m' < stkN (L' ++ [(t', d)]) ∧ ∃ (L : List (Tr × Nat)) (xs : List V) (m : Nat) (v3 v4 v5 : Option V), σ2 = [some v, some (.int (m : Int)), some (.ref p), v3, v4, v5] ∧ Ex H G2 ∧ G2 p = some (.lst xs) ∧ StkG K H G2 xs L ∧ m + stkN L = nod t + L.length ∧ m ≤ 5000 ∧ L.length ≤ m ∧ okAt 1 t = stkOk L ∧ m' = stkN L, fun _ _ h => h, ?_⟩
        have hap : a ≠ p := fun z => by
          rw [z, hGp] at hGa
          cases hGa
        have hGp1 := e1 _ _ hGp
        refine st_seq ⟨_, rfl, .inl ⟨rfl, _, SqL.of hGp1⟩, p, _, V.ref a, rfl, rfl, hGp1, by simp, a, _, rfl, SqT.of (by rw [upd_ne hap]; exact e1 _ _ hGa), rfl, _, _, rfl, _, _, rfl, rfl, ?_⟩
        have e2 : Ex H (upd G1 p (.lst (ys ++ [V.ref a]).dropLast)) := (eG.trans e1).mut hpH
        have hG2p : upd G1 p (.lst (ys ++ [V.ref a]).dropLast) p = some (.lst ys) := by rw [upd_same, List.dropLast_concat]
        have hL2 : StkG K H (upd G1 p (.lst (ys ++ [V.ref a]).dropLast)) ys L' := hLs.up fun b zs hb => by
          rw [upd_ne (fun z => by rw [z, hGp] at hb; cases hb)]
          exact e1 _ _ hb
        generalize upd G1 p (.lst (ys ++ [V.ref a]).dropLast) = G2 at e2 hG2p hL2 ⊢
        rw [stkN_app] at hm ⊢
        rw [stk_app] at hok
        have hone : stkN [(t', d)] = nod t' := by
          unfold stkN
          simp
        have hone2 : stkOk [(t', d)] = okAt d t' := by
          unfold stkOk
          simp
        rw [hone, nod_eq] at hm ⊢
        rw [hone2, okAt_eq d t'] at hok
        rw [List.length_append] at hm hLm
        have hLm : L'.length + 1 ≤ m := hLm
        have hm : m + (stkN L' + (1 + nods (kidsT t'))) = nod t + (L'.length + 1) := hm
        have hkl := len_nods (kidsT t')
        have hL'l := stkN_len L'
        refine q_aug (f := fun i j => i + j) (a := (m : Int)) (b := ((kidsT t').length : Int)) rfl (fun H1 e Q q => ⟨_, rfl, H, v', t', rfl, e2.trans e, hdv, fun l zs H2 e3 hdz hc => ⟨l, zs, rfl, .inl (hc H2 ((e2.trans e).trans e3) fun _ _ h => h), by
          have := dpa_len hdz
          rw [ds_map, List.length_map] at this
          rw [this]
          exact q H2 e3⟩⟩) fun G3 e3 => ?_
        have hbad : (decide (((m : Int) + ((kidsT t').length : Int)) > 5000) || (decide ((d : Int) > 60) || !wellB t')) = true → docB t = false := fun hbd => by
          rw [hB]
          rw [Bool.or_eq_true, Bool.or_eq_true, decide_eq_true_eq, decide_eq_true_eq, Bool.not_eq_true'] at hbd
          rcases hbd with h1 | h1 | h1
          · rw [decide_eq_false (show ¬ nod t ≤ 5000 by omega), Bool.and_false]
          · rw [hok, decide_eq_false (show ¬ d ≤ 60 by omega)]
            simp
          · rw [hok, h1]
            simp
        refine q_when (b := (decide (((m : Int) + ((kidsT t').length : Int)) > 5000) || (decide ((d : Int) > 60) || !wellB t'))) (et_or (et_test (ev_val fun _ _ => val_I (g := fun i j => .bl (decide (i > j))) (val_var rfl) val_c)) fun _ => et_or (et_test (ev_val fun _ _ => val_I (g := fun i j => .bl (decide (i > j))) (val_var rfl) val_c)) fun _ => et_not (et_B (ev_call (ea_cons (ev_var rfl) ea_nil) fun H1 e Q q E => ⟨v', t', rfl, dp_ex ((e2.trans e3).trans e) hdv, hsm, by
          have := nod_eq t'
          omega, hT.ex ((e2.trans e3).trans e), q⟩))) (fun hbd G4 e4 => ?_) fun hbd G4 e4 => ?_
        · have := hbad hbd
          refine go_ret ?_
          rw [this] at k
          exact k G4 ((e2.trans e3).trans e4)
        rw [Bool.or_eq_false_iff, Bool.or_eq_false_iff, decide_eq_false_iff_not, decide_eq_false_iff_not, Bool.not_eq_false'] at hbd
        obtain ⟨b1, b2, b3⟩ := hbd
        have e24 := (e2.trans e3).trans e4
        have hG4p := e4 _ _ (e3 _ _ hG2p)
        refine ⟨_, rfl, H, v', t', rfl, e24, hdv, fun l zs G5 e5 hdz hc => ⟨l, rfl, ⟨zs, hc G5 (e24.trans e5) fun _ _ h => h⟩, ?_⟩⟩
        have hG5p := e5 _ _ hG4p
        have hzl : zs.length = (kidsT t').length := by
          have := dpa_len hdz
          rwa [ds_map, List.length_map] at this
        have hsmk : ∀ c ∈ kidsT t', smallT c := fun c hcc => by
          cases t' with
          | txt z => cases hcc
          | el n cs =>
            rw [smallT] at hsm
            exact smallTs_mem hsm.2 hcc
        refine for_list (xs := zs) (fun i σ' G' => ∃ v5 : Option V, σ' = [some v, some (.int ((m : Int) + ((kidsT t').length : Int))), some (.ref p), some v', some (.int (d : Int)), v5] ∧ Ex H G' ∧ Kp [p] G5 G' ∧ ∃ ws : List V, G' p = some (.lst ws) ∧ StkG K H G' ws (L' ++ ((kidsT t').take i).map fun c => (c, d + 1))) ⟨v5, rfl, e24.trans e5, Kp.refl, ys, hG5p, ?_⟩ (fun i σ' G' hi h => ?_) (fun i x σ' G' hx h => ?_) fun σ' G' h => ?_
        · rw [List.take_zero, List.map_nil, List.append_nil]
          exact hL2.up fun b zs hb => e5 _ _ (e4 _ _ (e3 _ _ hb))
        · obtain ⟨w5, rfl, eG', kG', ws, hw, hst⟩ := h
          refine hc G' eG' fun hl o ho => kG'.at ho ?_
          intro z
          rw [List.mem_singleton.mp z, hG4p] at hl
          cases hl
        · obtain ⟨w5, rfl, eG', kG', ws, hw, hst⟩ := h
          obtain ⟨dd, hdd, hdx⟩ := dpa_at hdz hx
          rw [ds_map, List.getElem?_map] at hdd
          cases hc5 : (kidsT t')[i]? with
          | none => rw [hc5] at hdd; cases hdd
          | some c =>
            rw [hc5] at hdd
            cases hdd
            have hwl : ws.length ≤ 100000 := by
              have h1 := hst.1
              rw [List.length_append, List.length_map, List.length_take] at h1
              omega
            refine ⟨_, rfl, .inl ⟨rfl, _, SqL.of hw⟩, _, rfl, _, rfl, _, _, rfl, rfl, by show 2 ≤ sizeLine; decide, fun q' hq' => ⟨p, ws, _, rfl, rfl, by rw [upd_ne (ne_of_none hw hq')]; exact hw, sz_lt (by
              have h1 := hst.1
              rw [List.length_append, List.length_map, List.length_take] at h1
              omega), ?_⟩⟩
            have hqp' : q' ≠ p := fun z => by
              rw [z, hw] at hq'
              cases hq'
            refine ⟨some x, rfl, (eG'.mut (fresh_back eG' hq')).mut hpH, (kG'.trans (Kp.new hq')).trans (Kp.put (by simp)), _, upd_same, ?_⟩
            rw [List.take_add_one, hc5, List.map_append, ← List.append_assoc]
            refine (hst.up fun b zs hb => ?_).snoc ⟨q', x, rfl, ?_, hdx, hsmk c (List.mem_of_getElem? hc5)⟩
            · rw [upd_ne (fun z => by rw [z, hw] at hb; cases hb), upd_ne (ne_of_none hb hq')]
              exact hb
            · rw [upd_ne hqp', upd_same]
              rfl
        · obtain ⟨w5, rfl, eG', kG', ws, hw, hst⟩ := h
          rw [hzl, List.take_length] at hst
          refine ⟨stkN L' + nods (kidsT t'), by omega, L' ++ (kidsT t').map (fun c => (c, d + 1)), ws, m + (kidsT t').length, some v', some (.int (d : Int)), w5, rfl, eG', hw, hst, ?_, by omega, by rw [List.length_append, List.length_map]; omega, ?_, ?_⟩
          · rw [stkN_app, stkN_kids, List.length_append, List.length_map]
            omega
          · rw [hok, stk_app, stk_kids, decide_eq_true (show d ≤ 60 by omega), b3]
            simp
          · rw [stkN_app, stkN_kids]
      · have : L = [] := by
          cases xs with
          | nil => exact List.eq_nil_of_length_eq_zero hL.1.symm
          | cons y ys => cases hb
        subst this
        refine go_ret ?_
        have hBt : docB t = true := by
          rw [hB, hok, decide_eq_true (show nod t ≤ 5000 by
            have h0 : stkN [] = 0 := rfl
            rw [h0] at hm
            have hm : m + 0 = nod t + 0 := hm
            omega)]
          rfl
        rw [hBt] at k
        exact k G1 (eG.trans e1)
end
/-! ### spoilt documents -/
def badNames : List Str := ["", "abcdefghijklm", "aB", "a1", "a ", "a\n"]
def badTexts : List Str := ["", repS 201 "x", "a\tb", "\t"]
theorem badN : ∀ z ∈ badNames, nameB z = false ∧ z.cps.size ≤ 100 := by decide +kernel
theorem badT : ∀ z ∈ badTexts, txtB z = false ∧ z.cps.size ≤ 300 := by decide +kernel
def spBadN : Sp := fun vs H Q _ => ∃ d : Addr, vs = [.ref d] ∧ Dr H d ∧ ∀ (z : Str) (H' : Hp), z ∈ badNames → Dr H' d → Kp [d] H H' → Q (.str z) H'
def spBadT : Sp := fun vs H Q _ => ∃ d : Addr, vs = [.ref d] ∧ Dr H d ∧ ∀ (z : Str) (H' : Hp), z ∈ badTexts → Dr H' d → Kp [d] H H' → Q (.str z) H'
theorem oks_bad {c : Tr} {cs : List Tr} (h : ∀ d, okAt d c = false) (hc : c ∈ cs) (d : Nat) : oksAt d cs = false := by
  rw [oksAt_all]
  exact Bool.eq_false_iff.mpr fun q => by
    have := List.all_eq_true.mp q c hc
    rw [h] at this
    cases this
theorem kids_bad {n : Str} {cs : List Tr} (h : ∀ d, oksAt d cs = false) (d : Nat) : okAt d (.el n cs) = false := by
  rw [okAt, h, Bool.and_false]
theorem well_bad {n : Str} {cs : List Tr} (h : wellB (.el n cs) = false) (d : Nat) : okAt d (.el n cs) = false := by
  rw [okAt, h]
  simp
theorem beside_mid {a b : Tr} (ha : a.isT = true) (hb : b.isT = true) (bs : List Tr) : ∀ as : List Tr, besideB (as ++ a :: b :: bs) = true
  | [] => by
    show besideB (a :: b :: bs) = true
    rw [besideB, ha, hb]
    rfl
  | [x] => by
    show besideB (x :: a :: b :: bs) = true
    rw [besideB, besideB, ha, hb]
    simp
  | x :: y :: r => by
    have := beside_mid ha hb bs (y :: r)
    show besideB (x :: y :: (r ++ a :: b :: bs)) = true
    rw [besideB]
    have this : besideB (y :: (r ++ a :: b :: bs)) = true := this
    rw [this, Bool.or_true]
theorem small_ok : ∀ {k : Nat} {t : Tr}, okTr k t → smallT t
  | k, .txt z, h => by
    have h' : okText 5 z := by cases k <;> exact h
    rw [smallT]
    have := h'.2.1
    omega
  | 0, .el _ _, h => h.elim
  | k + 1, .el n cs, h => by
    rw [smallT]
    have := name_len h.1
    rw [Array.length_toList] at this
    exact ⟨by omega, smallTs_of fun c hc => small_ok (h.2.2.2 c hc)⟩
theorem nods_app2 : ∀ as bs : List Tr, nods (as ++ bs) = nods as + nods bs
  | [], bs => by rw [nods, List.nil_append, Nat.zero_add]
  | a :: as, bs => by
    rw [List.cons_append, nods, nods, nods_app2 as bs]
    omega
theorem dpAll_app {K : PySem.W.Frag} {H : Hp} : ∀ {ds : List PyData} {xs : List V} {es : List PyData} {ys : List V}, DpAll K H xs ds → DpAll K H ys es → DpAll K H (xs ++ ys) (ds ++ es)
  | [], _, _, _, h, h2 => by
    cases h
    exact h2
  | c :: ds, _, _, _, h, h2 => by
    cases h with
    | cons a b => exact .cons a (dpAll_app b h2)
theorem dpAll_take {K : PySem.W.Frag} {H : Hp} : ∀ {ds : List PyData} {xs : List V} (n : Nat), DpAll K H xs ds → DpAll K H (xs.take n) (ds.take n)
  | _, _, 0, _ => by
    rw [List.take_zero, List.take_zero]
    exact .nil
  | [], _, n + 1, h => by
    cases h
    exact .nil
  | c :: ds, _, n + 1, h => by
    cases h with
    | cons a b =>
      rw [List.take_succ_cons, List.take_succ_cons]
      exact .cons a (dpAll_take n b)
theorem dpAll_drop {K : PySem.W.Frag} {H : Hp} : ∀ {ds : List PyData} {xs : List V} (n : Nat), DpAll K H xs ds → DpAll K H (xs.drop n) (ds.drop n)
  | _, _, 0, h => h
  | [], _, n + 1, h => by
    cases h
    exact .nil
  | c :: ds, _, n + 1, h => by
    cases h with
    | cons a b => exact dpAll_drop n b
theorem dpAll_set {K : PySem.W.Frag} {H : Hp} {v : V} {d : PyData} (hv : Dp K H v d) : ∀ {ds : List PyData} {xs : List V} (n : Nat), DpAll K H xs ds → DpAll K H (xs.set n v) (ds.set n d)
  | [], _, n, h => by
    cases h
    exact .nil
  | c :: ds, _, 0, h => by
    cases h with
    | cons a b => exact .cons hv b
  | c :: ds, _, n + 1, h => by
    cases h with
    | cons a b => exact .cons a (dpAll_set hv n b)
theorem nods_set {t' t : Tr} : ∀ {cs : List Tr} {i : Nat}, cs[i]? = some t → nods (cs.set i t') + nod t = nods cs + nod t'
  | [], _, h => by cases h
  | c :: cs, 0, h => by
    have : c = t := Option.some.inj h
    subst this
    rw [List.set_cons_zero, nods, nods]
    omega
  | c :: cs, i + 1, h => by
    have := nods_set (t' := t') (cs := cs) (i := i) h
    rw [List.set_cons_succ, nods, nods]
    omega
theorem ds_take (cs : List Tr) (n : Nat) : Tr.ds (cs.take n) = (Tr.ds cs).take n := by rw [ds_map, ds_map, List.map_take]
theorem ds_drop (cs : List Tr) (n : Nat) : Tr.ds (cs.drop n) = (Tr.ds cs).drop n := by rw [ds_map, ds_map, List.map_drop]
theorem ds_set (cs : List Tr) (n : Nat) (t : Tr) : Tr.ds (cs.set n t) = (Tr.ds cs).set n t.d := by rw [ds_map, ds_map, List.map_set]
theorem mem_setI {t : Tr} {cs : List Tr} {i : Nat} (h : i < cs.length) : t ∈ cs.set i t := List.mem_of_getElem? (i := i) (by rw [List.getElem?_set_self h])
def wo (S : List Addr) (H : Hp) : Hp := fun a => if a ∈ S then none else H a
theorem wo_none {S : List Addr} {H : Hp} : ∀ a ∈ S, wo S H a = none := fun a ha => if_pos ha
theorem wo_ex {S : List Addr} {H : Hp} : Ex (wo S H) H := fun a o h => by
  by_cases ha : a ∈ S
  · rw [wo, if_pos ha] at h
    cases h
  · rwa [wo, if_neg ha] at h
theorem wo_at {S : List Addr} {H : Hp} {a : Addr} {o : HO} (h : H a = some o) (ha : a ∉ S) : wo S H a = some o := by
  rw [wo, if_neg ha]
  exact h
theorem ex_wo {S : List Addr} {H0 H : Hp} (h0 : ∀ a ∈ S, H0 a = none) (e : Ex H0 H) : Ex H0 (wo S H) := fun a o h => wo_at (e a o h) fun z => by
  rw [h0 a z] at h
  cases h
def spSpoilt (K : PySem.W.Frag) (n : Nat) : Sp := fun vs H Q _ => ∃ (d : Addr) (v : V) (k : Nat) (nm : Str) (cs : List Tr) (S : List Addr) (H0 : Hp), vs = [.ref d, v] ∧ k < n ∧ Dr H d ∧ d ∈ S ∧ (∀ a ∈ S, H a ≠ none) ∧ (∀ a ∈ S, H0 a = none) ∧ Ex H0 H ∧ Dp K H0 v (Tr.el nm cs).d ∧ okTr (k + 1) (.el nm cs) ∧
  ∀ (v' : V) (nm' : Str) (cs' : List Tr) (H0' H' : Hp), (∀ a ∈ S, H0' a = none) → Ex H0 H0' → Ex H0' H' → Dp K H0' v' (Tr.el nm' cs').d → Dr H' d → Kp [d] H H' → (∀ dd, okAt dd (.el nm' cs') = false) → smallT (.el nm' cs') → nod (.el nm' cs') ≤ nod (.el nm cs) + 2 → Q v' H'
theorem kp_ex {d : Addr} {H0 H G : Hp} (h0 : H0 d = none) (e : Ex H0 H) (k : Kp [d] H G) : Ex H0 G := fun a o h => k.at (e a o h) fun z => by
  rw [List.mem_singleton.mp z, h0] at h
  cases h
section
variable {P : Program} {w : World} {K : PySem.W.Frag} {mg : Str → Option Value} {base : Heap}
theorem ok__law_bad_name (T : TX K mg) : Can P w K mg base CX0 2 (He.fAd K at__law_bad_name) ps__law_bad_name [] spBadN := by
  obtain ⟨fd__law_take, G__law_take, ds__law_take, v__law_take, b__law_take⟩ := ok__law_take (P := P) (w := w) (base := base) T
  exact mk__law_bad_name T fun fd F => def0 F sc__law_bad_name (fun vs H Q E h => by
    obtain ⟨d, rfl, _⟩ := h
    rfl) fun cdv A outer s H vs Q E hr h => by
    obtain ⟨d, rfl, D, k⟩ := h
    refine ⟨_, (pss_one (ps_ret (pe_ix (ixL K rfl) (pe_lst (pa_cons pe_str (pa_cons pe_str (pa_cons pe_str (pa_cons pe_str (pa_cons pe_str (pa_cons pe_str pa_nil))))))) (pe_call G__law_take (hr.mono (by first | decide | omega)) rfl T.g__law_take T.k__law_take b__law_take v__law_take pass0 (pa_cons (pv 0) (pa_cons pe_int pa_nil))) (fun _ _ => rfl)))), ?_⟩
    refine go_ret ⟨by show 6 ≤ sizeLine; decide, fun p hp => rd_take rfl val_c (by decide) (D.put hp) fun q H2 q0 q1 D2 e2 => ?_⟩
    obtain ⟨q, rfl⟩ : ∃ n : Nat, q = (n : Int) := ⟨q.toNat, by omega⟩
    have hq : q < badNames.length := by show q < 6; omega
    have hz : (badNames.map V.str)[q]? = some (.str badNames[q]) := by rw [List.getElem?_map, List.getElem?_eq_getElem hq]; rfl
    exact ⟨p, badNames.map V.str, _, _, rfl, rfl, SqL.of (e2.at upd_same (by simpa using D.ne hp)), atI_nat hz, k _ _ (List.getElem_mem hq) D2 ((Kp.new hp).trans e2)⟩
theorem ok__law_bad_text (T : TX K mg) : Can P w K mg base CX0 2 (He.fAd K at__law_bad_text) ps__law_bad_text [] spBadT := by
  obtain ⟨fd__law_take, G__law_take, ds__law_take, v__law_take, b__law_take⟩ := ok__law_take (P := P) (w := w) (base := base) T
  exact mk__law_bad_text T fun fd F => def0 F sc__law_bad_text (fun vs H Q E h => by
    obtain ⟨d, rfl, _⟩ := h
    rfl) fun cdv A outer s H vs Q E hr h => by
    obtain ⟨d, rfl, D, k⟩ := h
    refine ⟨_, (pss_one (ps_ret (pe_ix (ixL K rfl) (pe_lst (pa_cons pe_str (pa_cons (pe_op op_mulS pe_str pe_int) (pa_cons pe_str (pa_cons pe_str pa_nil))))) (pe_call G__law_take (hr.mono (by first | decide | omega)) rfl T.g__law_take T.k__law_take b__law_take v__law_take pass0 (pa_cons (pv 0) (pa_cons pe_int pa_nil))) (fun _ _ => rfl)))), ?_⟩
    refine go_ret ⟨"x", 201, rfl, rfl, by decide, by decide, by decide +kernel, by decide +kernel, by show 4 ≤ sizeLine; decide, fun p hp => rd_take rfl val_c (by decide) (D.put hp) fun q H2 q0 q1 D2 e2 => ?_⟩
    obtain ⟨q, rfl⟩ : ∃ n : Nat, q = (n : Int) := ⟨q.toNat, by omega⟩
    have hq : q < badTexts.length := by show q < 4; omega
    have hz : (badTexts.map V.str)[q]? = some (.str badTexts[q]) := by rw [List.getElem?_map, List.getElem?_eq_getElem hq]; rfl
    exact ⟨p, badTexts.map V.str, _, _, rfl, rfl, SqL.of (e2.at upd_same (by simpa using D.ne hp)), atI_nat hz, k _ _ (List.getElem_mem hq) D2 ((Kp.new hp).trans e2)⟩
theorem ok__law_spoilt (T : TX K mg) : ∀ n, Can P w K mg base CX0 (n + 3) (He.fAd K at__law_spoilt) ps__law_spoilt [] (spSpoilt K n)
  | 0 => by
    obtain ⟨fd, _, b⟩ := mk__law_spoilt (P := P) (w := w) (base := base) (CX := CX0) (k := 0) (sp := fun _ _ _ _ => False) T fun fd F => ⟨fun _ _ _ _ h => h.elim, fun _ _ _ _ _ _ _ _ _ _ _ _ _ h => h.elim⟩
    exact ⟨fd, ⟨fun _ _ _ _ ⟨_, _, _, _, _, _, _, _, h, _⟩ => absurd h (Nat.not_lt_zero _), fun _ _ _ _ _ _ _ _ _ _ _ _ _ ⟨_, _, _, _, _, _, _, _, h, _⟩ => absurd h (Nat.not_lt_zero _)⟩, b⟩
  | n + 1 => by
    obtain ⟨fd_s, G__law_spoilt, ds_s, v__law_spoilt, b__law_spoilt⟩ := ok__law_spoilt T n
    obtain ⟨fd__law_take, G__law_take, ds__law_take, v__law_take, b__law_take⟩ := ok__law_take (P := P) (w := w) (base := base) T
    obtain ⟨fd__law_bad_name, G__law_bad_name, ds__law_bad_name, v__law_bad_name, b__law_bad_name⟩ := ok__law_bad_name (P := P) (w := w) (base := base) T
    obtain ⟨fd__law_bad_text, G__law_bad_text, ds__law_bad_text, v__law_bad_text, b__law_bad_text⟩ := ok__law_bad_text (P := P) (w := w) (base := base) T
    exact mk__law_spoilt T fun fd F => def0 F sc__law_spoilt (fun vs H Q E h => by
      obtain ⟨d, v, k, nm, cs, S, H0, rfl, _⟩ := h
      rfl) fun cdv A outer s H vs Q E hr h => by
      obtain ⟨d, v, k, nm, cs, S, H0, rfl, hk, D, hdS, hSn, hS0, e0, hd, hok, kk⟩ := h
      refine ⟨_, (pss_cons (ps_set (i := 2) sc__law_spoilt.nd rfl (Or.inr rfl) (pe_callTy (cList K rfl) (by rfl) T.n_list (by decide +kernel) (pa_cons (pe_ix (ixT K rfl) (pv 1) pe_int (fun _ _ => rfl)) pa_nil)))
  (pss_cons (ps_setLc (i := 3) (own := [("k", 6)]) (g := gName 6) rfl sc__law_spoilt.nd rfl rfl (sw_true rfl rfl rfl (by decide +kernel)) (pi_range1 rfl T.n_range (pa_cons (pe_callB (cLen K rfl) (by rfl) T.n_len PySem.boot_len (pa_cons (pv 2) pa_nil)) pa_nil)) (blkOk_by (own := [("k", 6)]) (N := N__law_spoilt) (sc := defScope s__law_spoilt) (by decide +kernel)) (fun _ _ _ _ _ => by exact (pg_name (i := 6) sc__law_spoilt.nd rfl (Or.inl rfl))) (fun _ _ _ _ _ => by exact pts_one (pt_not (pt_val (pe_callB (cIsi K rfl) (by rfl) T.n_isinstance (by decide +kernel) (pa_cons (pe_ix (ixL K rfl) (pv 2) (pv 6) (fun _ _ => rfl)) (pa_cons (pe_bltn (v := .ty "str") rfl T.n_str (by decide +kernel) rfl) pa_nil)))))) (fun _ _ _ _ _ => by exact (pv 6)))
  (Evl.pss_cut (ps_if (PW.pt (pw_and (pt_cmpR op_gt (pe_callB (cLen K rfl) (by rfl) T.n_len PySem.boot_len (pa_cons (pv 3) pa_nil)) pe_int (nomark _)) (pw_and1 (pt_cmpR op_eq (pe_call G__law_take (hr.mono (by first | decide | omega)) rfl T.g__law_take T.k__law_take b__law_take v__law_take pass0 (pa_cons (pv 0) (pa_cons pe_int pa_nil))) pe_int (nomark _))))) (pss_cons (ps_set (i := 5) sc__law_spoilt.nd rfl (Or.inl rfl) (pe_ix (ixL K rfl) (pv 3) (pe_call G__law_take (hr.mono (by first | decide | omega)) rfl T.g__law_take T.k__law_take b__law_take v__law_take pass0 (pa_cons (pv 0) (pa_cons (pe_callB (cLen K rfl) (by rfl) T.n_len PySem.boot_len (pa_cons (pv 3) pa_nil)) pa_nil))) (fun _ _ => rfl)))
  (pss_cons (ps_asg (pe_call G__law_spoilt (hr.mono (by first | decide | omega)) rfl T.g__law_spoilt T.k__law_spoilt b__law_spoilt v__law_spoilt pass0 (pa_cons (pv 0) (pa_cons (pe_ix (ixL K rfl) (pv 2) (pv 5) (fun _ _ => rfl)) pa_nil))) (pg_sub (pv 2) (pv 5) set_list))
  (pss_one (ps_ret (pe_tup (pa_cons (pe_ix (ixT K rfl) (pv 1) pe_int (fun _ _ => rfl)) (pa_cons (pv 2) pa_nil))))))) pss_nil)
  (pss_cons (ps_set (i := 4) sc__law_spoilt.nd rfl (Or.inl rfl) (pe_call G__law_take (hr.mono (by first | decide | omega)) rfl T.g__law_take T.k__law_take b__law_take v__law_take pass0 (pa_cons (pv 0) (pa_cons pe_int pa_nil))))
  (pss_cons (ps_if (pt_cmpR op_eq (pv 4) pe_int (nomark _)) (pss_one (ps_ret (pe_tup (pa_cons (pe_call G__law_bad_name (hr.mono (by first | decide | omega)) rfl T.g__law_bad_name T.k__law_bad_name b__law_bad_name v__law_bad_name pass0 (pa_cons (pv 0) pa_nil)) (pa_cons (pv 2) pa_nil))))) pss_nil)
  (pss_cons (ps_set (i := 5) sc__law_spoilt.nd rfl (Or.inl rfl) (pe_call G__law_take (hr.mono (by first | decide | omega)) rfl T.g__law_take T.k__law_take b__law_take v__law_take pass0 (pa_cons (pv 0) (pa_cons (pe_op op_add (pe_callB (cLen K rfl) (by rfl) T.n_len PySem.boot_len (pa_cons (pv 2) pa_nil)) pe_int) pa_nil))))
  (pss_cons (ps_if (pt_cmpR op_eq (pv 4) pe_int (nomark _)) (pss_one (ps_ret (pe_tup (pa_cons (pe_ix (ixT K rfl) (pv 1) pe_int (fun _ _ => rfl)) (pa_cons (pe_op op_cat (pe_op op_cat (pe_slice (slL K rfl) (pv 2) po_none (po_some (pv 5))) (pe_lst (pa_cons (pe_tup (pa_cons pe_str (pa_cons (pe_lst (pa_cons (pe_call G__law_bad_text (hr.mono (by first | decide | omega)) rfl T.g__law_bad_text T.k__law_bad_text b__law_bad_text v__law_bad_text pass0 (pa_cons (pv 0) pa_nil)) pa_nil)) pa_nil))) pa_nil))) (pe_slice (slL K rfl) (pv 2) (po_some (pv 5)) po_none)) pa_nil))))) pss_nil)
  (pss_one (ps_ret (pe_tup (pa_cons (pe_ix (ixT K rfl) (pv 1) pe_int (fun _ _ => rfl)) (pa_cons (pe_op op_cat (pe_op op_cat (pe_slice (slL K rfl) (pv 2) po_none (po_some (pv 5))) (pe_lst (pa_cons pe_str (pa_cons pe_str pa_nil)))) (pe_slice (slL K rfl) (pv 2) (po_some (pv 5)) po_none)) pa_nil)))))))))))), ?_⟩
      obtain ⟨a', l, ys, rfl, sx, sl, al⟩ := el_parts hd
      have hyl : ys.length = cs.length := by rw [dpa_len al, ds_map, List.length_map]
      have hc3 : cs.length ≤ 3 := hok.2.1
      have hd0 := hS0 d hdS
      refine st_seq (go_asg (val_ixT (val_var rfl) val_c (ex_t e0 sx) at_one _ ⟨l, ys, rfl, .inl (ex_l e0 sl), fun c hc => ?_⟩))
      dsimp only [gName]
      have hcd : c ≠ d := D.ne hc
      have hcS : c ∉ S := fun z => hSn c z hc
      have D1 := D.put (o := .lst ys) hc
      have e1 : Ex H0 (upd H c (.lst ys)) := e0.mut (by
        cases q : H0 c with
        | none => rfl
        | some o =>
          have := e0 _ _ q
          rw [hc] at this
          cases this)
      have hc0 : H0 c = none := fresh_back e0 hc
      have k1 : Kp [d] H (upd H c (.lst ys)) := Kp.new hc
      have hGc : upd H c (.lst ys) c = some (.lst ys) := upd_same
      generalize upd H c (.lst ys) = G1 at D1 e1 k1 hGc ⊢
      refine q_asgL (xs := ((List.range cs.length).filter fun i => !isTi cs i).map fun i : Nat => V.int (i : Int)) (el_lcR1 (n := (cs.length : Int)) (fun i => !isTi cs i) (fun i : Nat => V.int (i : Int)) (ea_cons (ev_is (ev_lenV (ev_var rfl) (SqL.of hGc)) (by rw [hyl])) ea_nil) (by omega) (fun x => rfl) (fun i H1 ex hi => ?_) (fun i H1 ex hi _ => ev_var rfl)) fun p3 G2 hp3 e2 h3 => ?_
      · have hi' : i < ys.length := by omega
        refine et_not (et_ans fun H2 ex2 => ?_)
        have hx := List.getElem?_eq_getElem hi'
        obtain ⟨c', t1, t2⟩ := isT_at (dpAll_ex ((e1.trans ex).trans ex2) al) hx
        exact ans_val (val_isi (val_ixL (val_var rfl) (val_var rfl) (SqL.of (ex2 _ _ (ex _ _ hGc))) (atI_nat hx)) t1 t2)
      have D2 := D1.keep e2
      have k2 := k1.trans (Kp.of e2 (S := [d]))
      have e02 := e1.trans e2
      have hGc2 := e2 _ _ hGc
      have h3d : p3 ≠ d := D1.ne hp3
      have nk : nod (.el nm cs) = 1 + nods cs := by rw [nod]
      have hnl : nm.cps.size ≤ 100000 := by
        have := name_len hok.1
        rw [Array.length_toList] at this
        omega
      have hsm : ∀ t ∈ cs, smallT t := fun t ht => small_ok (hok.2.2.2 t ht)
      -- a new pair of a name and the children
      have newS : ∀ (G : Hp) (q : Addr), Kp [d] H G → Dr G d → G q = none → q ∉ S := fun G q kG DG hq w' => by
        have : G q ≠ none := by
          by_cases e : q = d
          · rw [e]
            exact DG.on
          · cases r : H q with
            | none => exact absurd r (hSn q w')
            | some o =>
              rw [kG.at r (by simpa using e)]
              nofun
        exact this hq
      have fin : ∀ (G : Hp) (z : Str) (zs : List V) (ts : List Tr) (cc q : Addr), Kp [d] H G → Dr G d → G cc = some (.lst zs) → cc ∉ S → DpAll K (wo S G) zs (Tr.ds ts) → (∀ dd, okAt dd (.el z ts) = false) → z.cps.size ≤ 100000 → smallTs ts → nods ts ≤ nods cs + 2 → G q = none → Q (.ref q) (upd G q (.tup [.str z, .ref cc])) := fun G z zs ts cc q kG DG hcc hcS' hdz hbad hz hsts hnod hq => by
        have hqS := newS G q kG DG hq
        have eG0 : Ex H0 G := kp_ex hd0 e0 kG
        refine kk (.ref q) z ts (wo S (upd G q (.tup [.str z, .ref cc]))) _ wo_none (ex_wo hS0 (eG0.trans (Ex.new hq))) wo_ex ?_ (DG.put hq) (kG.trans (Kp.new hq)) hbad ?_ ?_
        · refine .tup (SqT.of (wo_at upd_same hqS)) (.cons (.str _) (.cons (.lst (SqL.of (wo_at (by rw [upd_ne (ne_of_none hcc hq)]; exact hcc) hcS')) (dpAll_ex (fun a o h => ?_) hdz)) .nil))
          have ha : a ∉ S := fun w' => by
            rw [wo_none a w'] at h
            cases h
          exact wo_at (Ex.new hq a o (wo_ex a o h)) ha
        · rw [smallT]
          exact ⟨hz, hsts⟩
        · rw [nod, nk]
          omega
      have al0 : ∀ G : Hp, Kp [d] G2 G → DpAll K (wo S G) ys (Tr.ds cs) := fun G kG => dpAll_ex (ex_wo hS0 (kp_ex hd0 e02 kG)) al
      refine q_cut (M := fun σ' G => ∃ v5 : Option V, σ' = [some (.ref d), some (.ref a'), some (.ref c), some (.ref p3), none, v5, none] ∧ Kp [d] G2 G ∧ Dr G d) ?_ ?_
      · have hil : SqL K G2 p3 (((List.range cs.length).filter fun i => !isTi cs i).map fun i : Nat => V.int (i : Int)) := SqL.of h3
        show tAnd _ _ _ _ _
        refine ans_v (val_I (g := fun i j => .bl (decide (i > j))) (val_lenL (val_var rfl) hil) val_c) _ ?_
        by_cases hpos : 0 < ((List.range cs.length).filter fun i => !isTi cs i).length
        · rw [decide_eq_true (show (((((List.range cs.length).filter fun i => !isTi cs i).map fun i : Nat => V.int (i : Int)).length : Nat) : Int) > 0 by rw [List.length_map]; omega)]
          refine iteT (rd_take rfl val_c (by decide) D2 fun w' G3 w0 w1 D3 e3 => ⟨rfl, _, rfl, ?_⟩)
          by_cases hw : w' = 0
          · subst hw
            rw [decide_eq_true rfl]
            refine iteT ?_
            have h33 := e3.at h3 (by simpa using h3d)
            refine st_seq (go_asg ⟨_, rfl, rd_take rfl (val_lenL (val_var rfl) (SqL.of h33)) (by rw [List.length_map]; omega) D3 fun q G4 q0 q1 D4 e4 => ?_⟩)
            obtain ⟨q, rfl⟩ : ∃ n : Nat, q = (n : Int) := ⟨q.toNat, by omega⟩
            rw [List.length_map] at q1
            have hq : q < ((List.range cs.length).filter fun i => !isTi cs i).length := by omega
            obtain ⟨i, hi⟩ : ∃ i, ((List.range cs.length).filter fun i => !isTi cs i)[q]? = some i := ⟨_, List.getElem?_eq_getElem hq⟩
            have hmem := List.mem_filter.mp (List.mem_of_getElem? hi)
            have hic : i < cs.length := List.mem_range.mp hmem.1
            have hit := hmem.2
            refine ⟨p3, _, _, .int (i : Int), rfl, rfl, SqL.of (e4.at h33 (by simpa using h3d)), atI_nat (by rw [List.getElem?_map, hi]; rfl), ?_⟩
            dsimp only [gName]
            obtain ⟨t, ht⟩ : ∃ t, cs[i]? = some t := ⟨_, List.getElem?_eq_getElem hic⟩
            have htx : isTi cs i = t.isT := by
              unfold isTi
              rw [ht]
              rfl
            rw [htx] at hit
            have hokt := hok.2.2.2 t (List.mem_of_getElem? ht)
            cases t with
            | txt z => cases hit
            | el n1 cs1 =>
              cases k with
              | zero => exact hokt.elim
              | succ k1 =>
                have hys : i < ys.length := by omega
                obtain ⟨x, hx⟩ : ∃ x, ys[i]? = some x := ⟨_, List.getElem?_eq_getElem hys⟩
                obtain ⟨dd, hdd, hdx⟩ := dpa_at al hx
                rw [ds_map, List.getElem?_map, ht] at hdd
                cases hdd
                have k4 := (k2.trans e3).trans e4
                have hGc4 : G4 c = some (.lst ys) := e4.at (e3.at hGc2 (by simpa using hcd)) (by simpa using hcd)
                have hcnS : ∀ a ∈ c :: S, G4 a ≠ none := fun a ha => by
                  rcases List.mem_cons.mp ha with e | e
                  · rw [e, hGc4]
                    nofun
                  · by_cases e' : a = d
                    · rw [e']
                      exact D4.on
                    · cases r : H a with
                      | none => exact absurd r (hSn a e)
                      | some o =>
                        rw [k4.at r (by simpa using e')]
                        nofun
                refine st_seq ⟨_, rfl, _, rfl, _, rfl, c, ys, _, x, rfl, rfl, SqL.of hGc4, atI_nat hx, d, x, k1, n1, cs1, c :: S, H0, rfl, by omega, D4, List.mem_cons_of_mem _ hdS, hcnS, fun a ha => ?_, kp_ex hd0 e0 k4, hdx, hokt, fun v' nm' cs' H0' G5 h01 h02 h03 h04 D5 e5 hbad hsmall hnod => ⟨_, rfl, _, rfl, c, ys, _, i, rfl, rfl, e5.at hGc4 (by simpa using hcd), ixN_nat hys, ?_⟩⟩
                · rcases List.mem_cons.mp ha with e | e
                  · rw [e]
                    exact hc0
                  · exact hS0 a e
                · have k5 := k4.trans e5
                  have k6 : Kp [d] H (upd G5 c (.lst (ys.set i v'))) := k5.mut hc
                  have D6 : Dr (upd G5 c (.lst (ys.set i v'))) d := D5.mut hcd
                  dsimp only
                  refine go_ret (val_ixT (val_var rfl) val_c (ex_t (kp_ex hd0 e0 k6) sx) at_cons _ ⟨_, rfl, by show 2 ≤ sizeLine; decide, fun q hq => ?_⟩)
                  have h0G : Ex H0' (upd G5 c (.lst (ys.set i v'))) := h03.mut (h01 c (List.mem_cons_self ..))
                  have hset := nods_set (t' := .el nm' cs') ht
                  refine fin _ nm (ys.set i v') (cs.set i (.el nm' cs')) c q k6 D6 upd_same hcS ?_ (kids_bad (oks_bad hbad (mem_setI hic))) hnl (smallTs_of fun u hu => ?_) (by omega) hq
                  · rw [ds_set]
                    exact dpAll_set (dp_ex (ex_wo (fun a ha => h01 a (List.mem_cons_of_mem _ ha)) h0G) h04) i (dpAll_ex (ex_wo hS0 (kp_ex hd0 e0 k6)) al)
                  · rcases List.mem_or_eq_of_mem_set hu with e | e
                    · exact hsm u e
                    · rw [e]
                      exact hsmall
          · rw [decide_eq_false (fun z => hw (V.int.inj z))]
            exact iteF ⟨none, rfl, e3, D3⟩
        · rw [decide_eq_false (show ¬ (((((List.range cs.length).filter fun i => !isTi cs i).map fun i : Nat => V.int (i : Int)).length : Nat) : Int) > 0 by rw [List.length_map]; omega)]
          exact iteF (iteF ⟨none, rfl, Kp.refl, D2⟩)
      rintro σ' G ⟨v5, rfl, kG, DG⟩
      refine st_seq (go_asg (rd_take rfl val_c (by decide) DG fun kind G3 q0 q1 D3 e3 => ?_))
      dsimp only [gName]
      have kG3 := kG.trans e3
      have hGc3 : G3 c = some (.lst ys) := kG3.at hGc2 (by simpa using hcd)
      have sx3 : SqT K G3 a' [.str nm, .ref l] := ex_t (kp_ex hd0 e02 kG3) sx
      refine st_seq (st_if (b := decide (kind = 0)) (ans_v (val_is (val_eq (val_var rfl) val_c rfl) (by
        congr 1
        rw [decide_eq_decide]
        exact ⟨fun h => V.int.inj h, fun h => by rw [h]⟩))) (fun hb => ?_) (fun hb => ?_))
      · refine go_ret ⟨_, rfl, d, rfl, D3, fun z G4 hz D4 e4 => ⟨_, rfl, by show 2 ≤ sizeLine; decide, fun q hq => ?_⟩⟩
        have kG4 := kG3.trans e4
        have hN := badN z hz
        refine fin G4 z ys cs c q (k2.trans kG4) D4 (e4.at hGc3 (by simpa using hcd)) hcS (al0 G4 kG4) (well_bad (by rw [wellB, hN.1]; rfl)) (by omega) (smallTs_of hsm) (by omega) hq
      · refine st_seq (go_asg (rd_take rfl (val_I (g := fun i j => .int (i + j)) (val_lenL (val_var rfl) (SqL.of hGc3)) val_c) (by omega) D3 fun at_ G4 a0 a1 D4 e4 => ?_))
        dsimp only [gName]
        obtain ⟨j, rfl⟩ : ∃ n : Nat, at_ = (n : Int) := ⟨at_.toNat, by omega⟩
        have hj : j ≤ ys.length := by omega
        have kG4 := kG3.trans e4
        have hGc4 : G4 c = some (.lst ys) := e4.at hGc3 (by simpa using hcd)
        have sx4 : SqT K G4 a' [.str nm, .ref l] := ex_t (kp_ex hd0 e02 kG4) sx
        have tail : ∀ (G : Hp) (p1 p4 : Addr) (mid : List V) (ms : List Tr), Kp [d] H G → Dr G d → G c = some (.lst ys) → G p1 = some (.lst (cutV ys none (some (j : Int)))) → G p4 = some (.lst mid) → DpAll K (wo S G) mid (Tr.ds ms) → mid.length ≤ 10 → (∀ dd, okAt dd (.el nm ((cs.take j ++ ms) ++ cs.drop j)) = false) → smallTs ms → nods ms ≤ 2 →
            rCat (.ref p1) (.ref p4) G (fun x H1 => tSl (rSlL K) (tVar 2) (tPart (tVar 5)) tNoPart [some (.ref d), some (.ref a'), some (.ref c), some (.ref p3), some (.int kind), some (.int (j : Int)), none] H1 fun y H2 => rCat x y H2 fun z H3 => [V.str nm, z].length ≤ sizeLine ∧ ∀ q, H3 q = none → Q (.ref q) (upd H3 q (.tup [.str nm, z]))) := fun G p1 p4 mid ms kG DG hGc' h1 h4 hdm hml hbad hsms hnm => by
          have hpre : (cutV ys none (some (j : Int))) = ys.take j := cut_to hj
          have hpost : (cutV ys (some (j : Int)) none) = ys.drop j := cut_from hj
          rw [hpre] at h1
          have hl1 : (ys.take j).length ≤ 3 := by rw [List.length_take]; omega
          have hl2 : (ys.drop j).length ≤ 3 := by rw [List.length_drop]; omega
          refine ⟨p1, p4, _, _, rfl, rfl, h1, h4, sz_of (by omega), fun p5 n5 => ⟨_, rfl, _, rfl, _, rfl, c, ys, rfl, SqL.of (by rw [upd_ne (ne_of_none hGc' n5)]; exact hGc'), fun p6 n6 => ⟨p5, p6, _, _, rfl, rfl, by rw [upd_ne (fun z => by rw [← z, upd_same] at n6; cases n6), upd_same], upd_same, ?_, fun p7 n7 => ⟨by show 2 ≤ sizeLine; decide, fun q hq => ?_⟩⟩⟩⟩
          · rw [List.length_append, hpost]
            exact sz_of (by omega)
          · have k5 := ((kG.trans (Kp.new n5)).trans (Kp.new n6)).trans (Kp.new (S := [d]) (o := .lst ((ys.take j ++ mid) ++ cutV ys (some (j : Int)) none)) n7)
            have D5 := ((DG.put n5).put n6).put (o := .lst ((ys.take j ++ mid) ++ cutV ys (some (j : Int)) none)) n7
            have e5 := ((Ex.new (o := .lst (ys.take j ++ mid)) n5).trans (Ex.new (o := .lst (cutV ys (some (j : Int)) none)) n6)).trans (Ex.new (o := .lst ((ys.take j ++ mid) ++ cutV ys (some (j : Int)) none)) n7)
            have hp7S : p7 ∉ S := newS _ p7 ((kG.trans (Kp.new n5)).trans (Kp.new n6)) ((DG.put n5).put n6) n7
            refine fin _ nm _ ((cs.take j ++ ms) ++ cs.drop j) p7 q k5 D5 upd_same hp7S ?_ hbad hnl (smallTs_of fun u hu => ?_) ?_ hq
            · rw [ds_app, ds_app, ds_take, ds_drop]
              have alG := dpAll_ex (ex_wo hS0 (kp_ex hd0 e0 k5)) al
              exact dpAll_app (dpAll_app (dpAll_take j alG) (dpAll_ex (fun a o h => wo_at (e5 a o (wo_ex a o h)) fun z => by rw [wo_none a z] at h; cases h) hdm)) (by rw [hpost] at alG ⊢; exact dpAll_drop j alG)
            · rcases List.mem_append.mp hu with hu | hu
              · rcases List.mem_append.mp hu with hu | hu
                · exact hsm u (List.mem_of_mem_take hu)
                · exact smallTs_mem hsms hu
              · exact hsm u (List.mem_of_mem_drop hu)
            · have := nods_app2 (cs.take j) (cs.drop j)
              rw [List.take_append_drop] at this
              rw [nods_app2, nods_app2]
              omega
        refine st_seq (st_if (b := decide (kind = 1)) (ans_v (val_is (val_eq (val_var rfl) val_c rfl) (by
          congr 1
          rw [decide_eq_decide]
          exact ⟨fun h => V.int.inj h, fun h => by rw [h]⟩))) (fun hb => ?_) (fun hb => ?_))
        · refine go_ret (val_ixT (val_var rfl) val_c sx4 at_cons _ ⟨_, rfl, _, rfl, _, rfl, c, ys, rfl, SqL.of hGc4, fun p1 n1 => ⟨_, rfl, d, rfl, D4.put n1, fun z G5 hz D5 e5 => ⟨by show 1 ≤ sizeLine; decide, fun p2 n2 => ⟨by show 2 ≤ sizeLine; decide, fun p3' n3 => ⟨by show 1 ≤ sizeLine; decide, fun p4 n4 => ?_⟩⟩⟩⟩⟩)
          have hp1d : p1 ≠ d := D4.ne n1
          have hT := badT z hz
          have h1 : G5 p1 = some (.lst (cutV ys none (some (j : Int)))) := e5.at upd_same (by simpa using hp1d)
          have k5 : Kp [d] H G5 := ((k2.trans kG4).trans (Kp.new n1)).trans e5
          have e58 : Ex G5 _ := ((Ex.new (o := .lst [.str z]) n2).trans (Ex.new (o := .tup [.str "a", .ref p2]) n3)).trans (Ex.new (o := .lst [.ref p3']) n4)
          have hGc5 : G5 c = some (.lst ys) := e5.at (by rw [upd_ne (ne_of_none hGc4 n1)]; exact hGc4) (by simpa using hcd)
          have k8 := k5.trans (Kp.of (S := [d]) e58)
          have D8 := D5.keep e58
          have hp2S := newS _ p2 k5 D5 n2
          have hp3S := newS _ p3' (k5.trans (Kp.new n2)) (D5.put n2) n3
          refine tail _ p1 p4 [.ref p3'] [.el "a" [.txt z]] k8 D8 (e58 _ _ hGc5) (e58 _ _ h1) upd_same (.cons ?_ .nil) (by show 1 ≤ 10; decide) ?_ ?_ ?_
          · refine .tup (SqT.of (wo_at (by rw [upd_ne (fun w' => by rw [← w', upd_same] at n4; cases n4), upd_same]) hp3S)) (.cons (.str _) (.cons (.lst (SqL.of (wo_at (Ex.new n4 _ _ (Ex.new n3 _ _ upd_same)) hp2S)) (.cons (.str _) .nil)) .nil))
          · refine kids_bad (oks_bad (c := .el "a" [.txt z]) (kids_bad (oks_bad (c := .txt z) (fun dd => by rw [okAt, hT.1, Bool.and_false]) (List.mem_singleton.mpr rfl))) ?_)
            exact List.mem_append_left _ (List.mem_append_right _ (List.mem_singleton.mpr rfl))
          · rw [smallTs, smallT, smallTs, smallTs, smallT, smallTs]
            exact ⟨⟨by decide +kernel, by omega, trivial⟩, trivial⟩
          · simp [nods, nod]
        · dsimp only [tNext]
          refine go_ret (val_ixT (val_var rfl) val_c sx4 at_cons _ ⟨_, rfl, _, rfl, _, rfl, c, ys, rfl, SqL.of hGc4, fun p1 n1 => ⟨by show 2 ≤ sizeLine; decide, fun p4 n4 => ?_⟩⟩)
          have k8 : Kp [d] H (upd (upd G4 p1 (.lst (cutV ys none (some (j : Int))))) p4 (.lst [.str "x", .str "y"])) := ((k2.trans kG4).trans (Kp.new n1)).trans (Kp.new n4)
          refine tail _ p1 p4 [.str "x", .str "y"] [.txt "x", .txt "y"] k8 ((D4.put n1).put n4) (Ex.new n4 _ _ (Ex.new n1 _ _ hGc4)) (Ex.new n4 _ _ upd_same) upd_same (.cons (.str _) (.cons (.str _) .nil)) (by show 2 ≤ 10; decide) (well_bad ?_) ?_ ?_
          · rw [wellB, List.append_assoc, show ([Tr.txt "x", Tr.txt "y"] ++ cs.drop j) = Tr.txt "x" :: Tr.txt "y" :: cs.drop j from rfl, beside_mid rfl rfl]
            simp
          · rw [smallTs, smallT, smallTs, smallT, smallTs]
            exact ⟨by decide +kernel, by decide +kernel, trivial⟩
          · simp [nods, nod]
end
/-! ### the law -/
def spLaw (K : PySem.W.Frag) : Sp := fun vs H Q _ => ∃ (a : Addr) (ns : List Int), vs = [.ref a] ∧ SqL K H a (ns.map V.int) ∧ ns.length ≤ 63 ∧ TGx K H ∧ ∀ H', TGx K H' → Q (.bl true) H'
theorem law_start {K : PySem.W.Frag} {H : Hp} {a : Addr} {ns : List Int} (hl : ns.length ≤ 63) (_ : ∀ z ∈ ns, Builtin.Int.intBits z ≤ 1048576) (hO : ∀ p ∈ tf, H (He.cT K p).2 = some (.tbl #[])) (hS : SqL K H a (ns.map V.int)) : spTab (genT K) (spLaw K) [.ref a] H (fun v _ => v = .bl true) fun _ _ _ => False := by
  have hG : ∀ b ∈ genT K, H b = some (.tbl #[]) := fun b hb => by
    obtain ⟨p, hp, rfl⟩ := List.mem_map.mp hb
    exact hO p hp
  refine ⟨hG, a, ns, rfl, ?_, hl, fun b hb => if_pos hb, fun H' h => ⟨h, fun _ => rfl⟩⟩
  have out : ∀ {b : Addr} {o : HO}, H b = some o → o ≠ .tbl #[] → extT (genT K) H b = some o := fun {b o} e n => by
    have : b ∉ genT K := fun z => n (by
      have := hG b z
      rw [e] at this
      exact Option.some.inj this)
    rw [← e]
    exact if_neg this
  rcases hS with (h | ⟨o, h⟩) | h
  · exact .inl (.inl (out h nofun))
  · exact .inl (.inr ⟨o, out h nofun⟩)
  · exact .inr h
def EvE (K : PySem.W.Frag) (te : TE) (σ : L2.St) (H : Hp) (d : PyData) : Prop := ∀ H1, Ex H H1 → ∀ Q : VK, (∀ v H2, Ex H1 H2 → Dp K H2 v d → Q v H2) → te σ H1 Q
section
variable {K : PySem.W.Frag} {σ : L2.St} {H : Hp} {ta tb te tf : TE} {v : V} {d : PyData}
theorem ee_val (h : Ev te σ H v) (hd : Dp K H v d) : EvE K te σ H d := fun H1 e _ q => h H1 e _ fun H2 e2 => q v H2 e2 (dp_ex (e.trans e2) hd)
theorem ee_of (h : EvD K te σ H d) : EvE K te σ H d := fun H1 e _ q => h H1 e _ fun v H2 e2 dv => q v H2 e2 (dv H2 Fp.self)
theorem ee_call {sp : Sp} {dvs vs : List V} {E : XK} {ta : TA} (h : EvA ta σ H vs) (hs : ∀ H1, Ex H H1 → ∀ Q : VK, (∀ v H2, Ex H1 H2 → Dp K H2 v d → Q v H2) → sp (vs ++ dvs) H1 Q E) : EvE K (tCall sp dvs E ta) σ H d := fun H1 e Q q =>
  h H1 e _ fun H2 e2 => hs H2 (e.trans e2) Q fun v H3 e3 dv => q v H3 (e2.trans e3) dv
theorem sameE {n : Nat} (h1 : EvE K te σ H d) (h2 : EvE K tf σ H d) (hd : d.depth < n) (hz : lenD d < 2 ^ 62) : Ev (tCall (spSame K n) [] E0 (tCons te (tCons tf tNil))) σ H (.bl true) :=
  fun H1 e _ q => h1 H1 e _ fun v H2 e2 dv => h2 H2 (e.trans e2) _ fun u H3 e3 du => ⟨v, u, d, rfl, dp_ex e3 dv, du, hd, hz, q _ (e2.trans e3)⟩
theorem isdoc_of {t : Tr} (h : EvE K te σ H t.d) (hT : TGx K H) (hs : smallT t) (hn : nod t ≤ 100000) : Ev (tCall (spIsDoc K) [] E0 (tCons te tNil)) σ H (.bl (docB t)) := fun H1 e Q q =>
  h H1 e _ fun v H2 e2 dv => ⟨v, t, rfl, dv, hs, hn, hT.ex (e.trans e2), fun H' e' => q H' (e2.trans e')⟩
theorem same_b {n : Nat} {b : Bool} (h1 : Ev te σ H (.bl b)) (h2 : Ev tf σ H (.bl b)) (hn : 0 < n) : Ev (tCall (spSame K n) [] E0 (tCons te (tCons tf tNil))) σ H (.bl true) :=
  sameE (d := .bool b) (ee_val h1 (.bl b)) (ee_val h2 (.bl b)) (by rw [PyData.depth]; exact hn) (by rw [lenD]; decide)
end
/-- three written bools -/
theorem dp3b {K : PySem.W.Frag} {H : Hp} {p : Addr} {a b c : Bool} (h : H p = some (.lst [.bl a, .bl b, .bl c])) : Dp K H (.ref p) (.list [.bool a, .bool b, .bool c]) := .lst (SqL.of h) (.cons (.bl _) (.cons (.bl _) (.cons (.bl _) .nil)))
theorem sh3b (a b c : Bool) : (PyData.list [.bool a, .bool b, .bool c]).depth < 3 ∧ lenD (PyData.list [.bool a, .bool b, .bool c]) < 2 ^ 62 := ⟨by
  rw [PyData.depth, PyData.depthAll, PyData.depthAll, PyData.depthAll, PyData.depthAll, PyData.depth, PyData.depth, PyData.depth]
  decide, by
  rw [lenD, lenAll, lenAll, lenAll, lenAll, lenD, lenD, lenD]
  decide⟩
theorem four_ok : ∀ n ∈ fourNames, nameB n = true := by decide +kernel
theorem sign_ok : ∀ c ∈ signCs, sgB c = true := by decide +kernel
theorem text_ok {m : Nat} {z : Str} (h : okText m z) (hm : m ≤ 200) : txtB z = true := by
  unfold txtB
  rw [decide_eq_true h.1, decide_eq_true (Nat.le_trans h.2.1 hm), List.all_eq_true.mpr fun c hc => sign_ok c (h.2.2 c hc)]
  rfl
theorem ok_at : ∀ {k : Nat} {t : Tr} (d : Nat), okTr k t → d + k ≤ 60 → okAt d t = true
  | k, .txt z, d, h, hd => by
    have h' : okText 5 z := by cases k <;> exact h
    rw [okAt, text_ok h' (by decide), decide_eq_true (by omega)]
    rfl
  | 0, .el _ _, _, h, _ => h.elim
  | k + 1, .el n cs, d, h, hd => by
    rw [okAt, wellB, four_ok n h.1, apart_beside h.2.2.1, decide_eq_true (by omega), oksAt_all, List.all_eq_true.mpr fun c hc => ok_at (d + 1) (h.2.2.2 c hc) (by omega)]
    rfl
theorem ok_doc {nm : Str} {cs : List Tr} (h : okTr 5 (.el nm cs)) : docB (.el nm cs) = true := by
  have := nod_le h
  have e : nb 5 ≤ 5000 := by decide
  rw [docB, ok_at 1 h (by decide), decide_eq_true (Nat.le_trans this e)]
  rfl
/-! ### a chain of elements, a wide element -/
def chT : Nat → Tr
  | 0 => .el "a" []
  | n + 1 => .el "b" [chT n]
theorem ch_nod : ∀ n, nod (chT n) = n + 1
  | 0 => by rw [chT, nod, nods]
  | n + 1 => by
    rw [chT, nod, nods, nods, ch_nod n]
    omega
theorem nameA : nameB "a" = true := by decide +kernel
theorem nameBb : nameB "b" = true := by decide +kernel
theorem ch_at : ∀ n d, okAt d (chT n) = decide (d + n ≤ 60)
  | 0, d => by
    rw [chT, okAt, wellB, nameA, oksAt]
    simp [besideB]
  | n + 1, d => by
    rw [chT, okAt, wellB, nameBb, oksAt, oksAt, ch_at n (d + 1)]
    simp only [besideB, Bool.not_false, Bool.and_true]
    by_cases h : d + 1 + n ≤ 60
    · rw [decide_eq_true h, decide_eq_true (show d ≤ 60 by omega), decide_eq_true (show d + (n + 1) ≤ 60 by omega)]
      rfl
    · rw [decide_eq_false h, decide_eq_false (show ¬ d + (n + 1) ≤ 60 by omega), Bool.and_false]
theorem ch_small : ∀ n, smallT (chT n)
  | 0 => by
    rw [chT, smallT, smallTs]
    exact ⟨by decide +kernel, trivial⟩
  | n + 1 => by
    rw [chT, smallT, smallTs, smallTs]
    exact ⟨by decide +kernel, ch_small n, trivial⟩
theorem ch_doc : ∀ n, n ≤ 4999 → docB (chT n) = decide (1 + n ≤ 60)
  | 0, _ => by rw [← ch_at 0 1, chT, docB, nod, nods]; simp
  | n + 1, h => by
    rw [← ch_at (n + 1) 1, chT, docB, nod, nods, nods, ch_nod n, decide_eq_true (show 1 + (n + 1 + 0) ≤ 5000 by omega), Bool.and_true]
def wideT (n : Nat) : Tr := .el "a" (List.replicate n (.el "b" []))
theorem nods_rep (t : Tr) : ∀ n, nods (List.replicate n t) = n * nod t
  | 0 => by rw [List.replicate_zero, nods, Nat.zero_mul]
  | n + 1 => by
    rw [List.replicate_succ, nods, nods_rep t n, Nat.succ_mul]
    omega
theorem wide_nod (n : Nat) : nod (wideT n) = 1 + n := by rw [wideT, nod, nods_rep, nod, nods, Nat.mul_one]
theorem wide_small (n : Nat) : smallT (wideT n) := by
  rw [wideT, smallT]
  refine ⟨by decide +kernel, smallTs_of fun c hc => ?_⟩
  rw [(List.mem_replicate.mp hc).2, smallT, smallTs]
  exact ⟨by decide +kernel, trivial⟩
theorem beside_el {n : Str} {cs : List Tr} : ∀ m, besideB (List.replicate m (.el n cs)) = false
  | 0 => rfl
  | 1 => rfl
  | m + 2 => by
    have := beside_el (n := n) (cs := cs) (m + 1)
    rw [List.replicate_succ] at this ⊢
    rw [List.replicate_succ, besideB, this]
    rfl
theorem wide_doc (n : Nat) : docB (wideT n) = decide (1 + n ≤ 5000) := by
  have h := wide_nod n
  rw [wideT] at h ⊢
  rw [docB, h, okAt, wellB, nameA, beside_el, oksAt_all, List.all_eq_true.mpr fun c hc => ?_]
  · rfl
  · rw [(List.mem_replicate.mp hc).2, okAt, wellB, nameBb, oksAt]
    rfl
theorem wide_d (n : Nat) : (wideT n).d = .tuple [.str "a", .list ((List.range n).map fun _ => .tuple [.str "b", .list []])] := by
  rw [wideT, Tr.d, ds_map, List.map_replicate, Tr.d, Tr.ds]
  congr 4
  rw [List.map_const', List.length_range]
def spChain (K : PySem.W.Frag) : Sp := fun vs H Q _ => ∃ n : Nat, vs = [.int ((n : Int) + 1)] ∧ n ≤ 1000 ∧ ∀ (v : V) (H' : Hp), Ex H H' → Dp K H' v (chT n).d → Q v H'
section
variable {P : Program} {w : World} {K : PySem.W.Frag} {mg : Str → Option Value} {base : Heap}
theorem ok__law_chain (T : TX K mg) : Can P w K mg base CX0 1 (He.fAd K at__law_chain) ps__law_chain [] (spChain K) := mk__law_chain T fun fd F => def0 F sc__law_chain (fun vs H Q E h => by
  obtain ⟨n, rfl, _⟩ := h
  rfl) fun cdv A outer s H vs Q E hr h => by
  obtain ⟨n, rfl, hn, k⟩ := h
  refine ⟨_, (pss_cons (ps_set (i := 1) sc__law_chain.nd rfl (Or.inl rfl) (pe_tup (pa_cons pe_str (pa_cons (pe_lst pa_nil) pa_nil))))
  (pss_cons (ps_for PassesOwn.never rfl (pi_range1 rfl T.n_range (pa_cons (pe_op op_sub (pv 0) pe_int) pa_nil)) (pg_name (i := 2) sc__law_chain.nd rfl (Or.inl rfl))
  (pss_one (ps_set (i := 1) sc__law_chain.nd rfl (Or.inl rfl) (pe_tup (pa_cons pe_str (pa_cons (pe_lst (pa_cons (pv 1) pa_nil)) pa_nil))))))
  (pss_one (ps_ret (pv 1))))), ?_⟩
  refine q_asgD (K := K) (d := (chT 0).d) (by
    rw [chT, Tr.d, Tr.ds]
    exact ed_tup (eds_cons ed_cstr (eds_cons (ed_lst eds_nil (by decide)) eds_nil)) (by decide)) fun v H1 e1 dv => ?_
  refine st_seq (st_forR (n := n) (va_one (val_is (val_I (g := fun i j => .int (i - j)) (val_var rfl) val_c) (by congr 1; omega))) (by omega) (fun i σ G => ∃ (v : V) (v2 : Option V), σ = [some (.int ((n : Int) + 1)), some v, v2] ∧ Ex H G ∧ Dp K G v (chT i).d) ⟨v, none, rfl, e1, dv⟩ ?_ ?_)
  · rintro i σ G hi ⟨v, v2, rfl, e, dv⟩
    refine (ed_tup (K := K) (ds := [.str "b", .list [(chT i).d]]) (eds_cons ed_cstr (eds_cons (ed_lst (eds_cons (ed_var rfl dv) eds_nil) (by show 1 ≤ 100000; decide)) eds_nil)) (by show 2 ≤ 100000; decide)) G (Ex.refl _) _ fun v' G2 e2 dv' => ?_
    refine ⟨v', _, rfl, e.trans e2, ?_⟩
    rw [chT, Tr.d, Tr.ds, Tr.ds]
    exact dv' G2 Fp.self
  · rintro σ G ⟨v, v2, rfl, e, dv⟩
    dsimp only
    exact go_ret ⟨_, rfl, k v G e dv⟩
theorem ok_law (T : TX K mg) (B : ∀ p ∈ tf, LamX.TabB base mg (He.cT K p).1 (He.cT K p).2) (fd : FuncData) (F : FunD K "law" "law" (defArgs s_law) (defBody s_law) (defScope s_law) [] [] (He.fAd K at_law) fd) : FnOk P w K mg base CX0 14 (He.fAd K at_law) fd ps_law (spLaw K) := by
  obtain ⟨fd__law_draws, G__law_draws, ds__law_draws, v__law_draws, b__law_draws⟩ := ok__law_draws (P := P) (w := w) (base := base) T
  obtain ⟨fd__law_names, G__law_names, ds__law_names, v__law_names, b__law_names⟩ := ok__law_names (P := P) (w := w) (base := base) T
  obtain ⟨fd__law_take, G__law_take, ds__law_take, v__law_take, b__law_take⟩ := ok__law_take (P := P) (w := w) (base := base) T
  obtain ⟨fd__law_string, G__law_string, ds__law_string, v__law_string, b__law_string⟩ := ok__law_string (P := P) (w := w) (base := base) T
  obtain ⟨fd__law_bad_name, G__law_bad_name, ds__law_bad_name, v__law_bad_name, b__law_bad_name⟩ := ok__law_bad_name (P := P) (w := w) (base := base) T
  obtain ⟨fd__law_bad_text, G__law_bad_text, ds__law_bad_text, v__law_bad_text, b__law_bad_text⟩ := ok__law_bad_text (P := P) (w := w) (base := base) T
  obtain ⟨fd__law_chain, G__law_chain, ds__law_chain, v__law_chain, b__law_chain⟩ := ok__law_chain (P := P) (w := w) (base := base) T
  obtain ⟨fd_is_document, G_is_document, ds_is_document, v_is_document, b_is_document⟩ := ok_is_document (P := P) (w := w) (base := base) T B
  obtain ⟨fd_is_name, G_is_name, ds_is_name, v_is_name, b_is_name⟩ := ok_is_name (P := P) (w := w) (base := base) T B
  obtain ⟨fd_is_text, G_is_text, ds_is_text, v_is_text, b_is_text⟩ := ok_is_text (P := P) (w := w) (base := base) T B
  obtain ⟨fd_t, G__law_tree, ds_t, v__law_tree, b__law_tree⟩ := ok__law_tree (P := P) (w := w) (base := base) T 5
  obtain ⟨fd_w, G__law_spoilt, ds_w, v__law_spoilt, b__law_spoilt⟩ := ok__law_spoilt (P := P) (w := w) (base := base) T 5
  obtain ⟨fd_s, G__law_same, ds_s, v__law_same, b__law_same⟩ := ok_same (P := P) (w := w) (base := base) T 3
  refine def0 F sc_law (fun vs H Q E h => by
    obtain ⟨a, ns, rfl, _⟩ := h
    rfl) fun cdv A outer s H vs Q E hr h => ?_
  obtain ⟨a, ns, rfl, hS, hl, hT, k⟩ := h
  refine ⟨_, (pss_cons (ps_set (i := 1) sc_law.nd rfl (Or.inl rfl) (pe_call G__law_draws (hr.mono (by first | decide | omega)) rfl T.g__law_draws T.k__law_draws b__law_draws v__law_draws pass0 (pa_cons (pv 0) pa_nil)))
  (pss_cons (ps_set (i := 2) sc_law.nd rfl (Or.inl rfl) (pe_call G__law_tree (hr.mono (by first | decide | omega)) rfl T.g__law_tree T.k__law_tree b__law_tree v__law_tree pass0 (pa_cons (pv 1) (pa_cons pe_int (pa_cons (pe_call G__law_names (hr.mono (by first | decide | omega)) rfl T.g__law_names T.k__law_names b__law_names v__law_names pass0 (pa_cons (pv 1) pa_nil)) pa_nil)))))
  (pss_cons (ps_if (PW.pt (pw_or (pt_not (pt_val (pe_call G__law_same (hr.mono (by first | decide | omega)) rfl T.g__law_same T.k__law_same b__law_same v__law_same pass0 (pa_cons (pe_call G_is_document (hr.mono (by first | decide | omega)) rfl T.g_is_document T.k_is_document b_is_document v_is_document pass0 (pa_cons (pv 2) pa_nil)) (pa_cons pe_bl pa_nil))))) (pw_or1 (pt_not (pt_val (pe_call G__law_same (hr.mono (by first | decide | omega)) rfl T.g__law_same T.k__law_same b__law_same v__law_same pass0 (pa_cons (pe_call G_is_document (hr.mono (by first | decide | omega)) rfl T.g_is_document T.k_is_document b_is_document v_is_document pass0 (pa_cons (pe_call G__law_spoilt (hr.mono (by first | decide | omega)) rfl T.g__law_spoilt T.k__law_spoilt b__law_spoilt v__law_spoilt pass0 (pa_cons (pv 1) (pa_cons (pv 2) pa_nil))) pa_nil)) (pa_cons pe_bl pa_nil)))))))) (pss_one (ps_ret pe_bl)) pss_nil)
  (pss_cons (ps_if (pt_not (pt_val (pe_call G__law_same (hr.mono (by first | decide | omega)) rfl T.g__law_same T.k__law_same b__law_same v__law_same pass0 (pa_cons (pe_lst (pa_cons (pe_call G_is_document (hr.mono (by first | decide | omega)) rfl T.g_is_document T.k_is_document b_is_document v_is_document pass0 (pa_cons pe_str pa_nil)) (pa_cons (pe_call G_is_name (hr.mono (by first | decide | omega)) rfl T.g_is_name T.k_is_name b_is_name v_is_name pass0 (pa_cons pe_str pa_nil)) (pa_cons (pe_call G_is_name (hr.mono (by first | decide | omega)) rfl T.g_is_name T.k_is_name b_is_name v_is_name pass0 (pa_cons (pe_call G__law_bad_name (hr.mono (by first | decide | omega)) rfl T.g__law_bad_name T.k__law_bad_name b__law_bad_name v__law_bad_name pass0 (pa_cons (pv 1) pa_nil)) pa_nil)) pa_nil)))) (pa_cons (pe_lst (pa_cons pe_bl (pa_cons pe_bl (pa_cons pe_bl pa_nil)))) pa_nil))))) (pss_one (ps_ret pe_bl)) pss_nil)
  (pss_cons (ps_if (pt_not (pt_val (pe_call G__law_same (hr.mono (by first | decide | omega)) rfl T.g__law_same T.k__law_same b__law_same v__law_same pass0 (pa_cons (pe_lst (pa_cons (pe_call G_is_text (hr.mono (by first | decide | omega)) rfl T.g_is_text T.k_is_text b_is_text v_is_text pass0 (pa_cons (pe_op op_mulS pe_str pe_int) pa_nil)) (pa_cons (pe_call G_is_text (hr.mono (by first | decide | omega)) rfl T.g_is_text T.k_is_text b_is_text v_is_text pass0 (pa_cons (pe_call G__law_string (hr.mono (by first | decide | omega)) rfl T.g__law_string T.k__law_string b__law_string v__law_string pass0 (pa_cons (pv 1) (pa_cons pe_int pa_nil))) pa_nil)) (pa_cons (pe_call G_is_text (hr.mono (by first | decide | omega)) rfl T.g_is_text T.k_is_text b_is_text v_is_text pass0 (pa_cons (pe_call G__law_bad_text (hr.mono (by first | decide | omega)) rfl T.g__law_bad_text T.k__law_bad_text b__law_bad_text v__law_bad_text pass0 (pa_cons (pv 1) pa_nil)) pa_nil)) pa_nil)))) (pa_cons (pe_lst (pa_cons pe_bl (pa_cons pe_bl (pa_cons pe_bl pa_nil)))) pa_nil))))) (pss_one (ps_ret pe_bl)) pss_nil)
  (pss_cons (ps_set (i := 3) sc_law.nd rfl (Or.inl rfl) (pe_op op_add pe_int (pe_call G__law_take (hr.mono (by first | decide | omega)) rfl T.g__law_take T.k__law_take b__law_take v__law_take pass0 (pa_cons (pv 1) (pa_cons pe_int pa_nil)))))
  (pss_cons (ps_if (pt_not (pt_val (pe_call G__law_same (hr.mono (by first | decide | omega)) rfl T.g__law_same T.k__law_same b__law_same v__law_same pass0 (pa_cons (pe_call G_is_document (hr.mono (by first | decide | omega)) rfl T.g_is_document T.k_is_document b_is_document v_is_document pass0 (pa_cons (pe_call G__law_chain (hr.mono (by first | decide | omega)) rfl T.g__law_chain T.k__law_chain b__law_chain v__law_chain pass0 (pa_cons (pv 3) pa_nil)) pa_nil)) (pa_cons (pe_cmpR op_eq (pv 3) pe_int (nomark _)) pa_nil))))) (pss_one (ps_ret pe_bl)) pss_nil)
  (pss_cons (ps_if (pt_cmpR op_gt (pe_call G__law_take (hr.mono (by first | decide | omega)) rfl T.g__law_take T.k__law_take b__law_take v__law_take pass0 (pa_cons (pv 1) (pa_cons pe_int pa_nil))) pe_int (nomark _)) (pss_one (ps_ret pe_bl)) pss_nil)
  (pss_cons (ps_set (i := 4) sc_law.nd rfl (Or.inl rfl) (pe_op op_add pe_int (pe_call G__law_take (hr.mono (by first | decide | omega)) rfl T.g__law_take T.k__law_take b__law_take v__law_take pass0 (pa_cons (pv 1) (pa_cons pe_int pa_nil)))))
  (pss_one (ps_ret (pe_call G__law_same (hr.mono (by first | decide | omega)) rfl T.g__law_same T.k__law_same b__law_same v__law_same pass0 (pa_cons (pe_call G_is_document (hr.mono (by first | decide | omega)) rfl T.g_is_document T.k_is_document b_is_document v_is_document pass0 (pa_cons (pe_tup (pa_cons pe_str (pa_cons (by exact (pe_lc (own := [("k", 5)]) (g := gName 5) (tt := tYes) rfl sc_law.nd (pi_range1 rfl T.n_range (pa_cons (pv 4) pa_nil)) (blkOk_by (own := [("k", 5)]) (N := N_law) (sc := defScope s_law) (by decide +kernel)) (fun _ _ _ _ _ => by exact (pg_name (i := 5) sc_law.nd rfl (Or.inl rfl))) (fun _ _ _ _ _ => by exact pts_nil) (fun _ _ _ _ _ => by exact (pe_tup (pa_cons pe_str (pa_cons (pe_lst pa_nil) pa_nil)))))) pa_nil))) pa_nil)) (pa_cons (pe_cmpR op_eq (pv 4) pe_int (nomark _)) pa_nil)))))))))))))), ?_⟩
  have tk : ∀ {G G' : Hp} {d : Addr}, TGx K G → Dr G d → Kp [d] G G' → TGx K G' := fun {G G' d} h D e => h.kp e fun a ha => by
    rw [List.mem_singleton.mp ha]
    obtain ⟨ns, q⟩ := D
    exact ⟨_, q⟩
  refine st_seq (go_asg ⟨_, rfl, a, ns, rfl, hS, hl, fun d H1 hd D1 e1 => ?_⟩)
  dsimp only [gName]
  have T1 := hT.ex e1
  refine st_seq (go_asg ⟨_, rfl, _, rfl, d, rfl, D1, fun p names H2 hp hn0 hn4 hns D2 e2 hpl => ⟨d, p, 4, names, rfl, by decide, D2, D1.ne hp, hpl, hn0, hn4, hns, fun v nm cs H3 hok D3 e3 N => ?_⟩⟩)
  dsimp only [gName]
  have T2 := tk T1 D1 e2
  have T3 := tk T2 D2 e3
  have hdp : Dp K H3 v (Tr.el nm cs).d := N H3 fun _ _ _ h => h
  have hdd : Dp K (wo [d] H3) v (Tr.el nm cs).d := N _ fun x o h1 h2 => wo_at h2 fun z => by
    rw [List.mem_singleton.mp z] at h1
    exact D2.on h1
  have hsm := small_ok hok
  have hnod : nod (.el nm cs) ≤ 364 := Nat.le_trans (nod_le hok) (by decide)
  refine st_seq ?_
  show tOr _ _ _ _ _
  refine (et_not (a := true) (et_B (same_b (n := 3) (b := true) (by
    have := isdoc_of (te := tVar 2) (ee_val (σ := [some (.ref a), some (.ref d), some v, none, none, none]) (ev_var rfl) hdp) T3 hsm (by omega)
    rw [ok_doc hok] at this
    exact this) ev_c (by decide)))) H3 (Ex.refl _) _ fun H4 e4 => iteF ?_
  have T4 := T3.ex e4
  have D4 := D3.keep e4
  refine ⟨_, rfl, _, rfl, d, v, 4, nm, cs, [d], wo [d] H3, rfl, by decide, D4, List.mem_singleton.mpr rfl, fun x hx => by rw [List.mem_singleton.mp hx]; exact D4.on, wo_none, wo_ex.trans e4, hdd, hok, fun v' nm' cs' H0' H5 h01 h02 h03 h04 D5 e5 hbad hsmall hnod' => ⟨v', .el nm' cs', rfl, dp_ex h03 h04, hsmall, by omega, tk T4 D4 e5, fun H6 e6 => ?_⟩⟩
  have T6 := (tk T4 D4 e5).ex e6
  have D6 := D5.keep e6
  rw [show docB (.el nm' cs') = false by rw [docB, hbad 1]; rfl]
  refine ⟨_, _, .bool false, rfl, .bl _, .bl _, by rw [PyData.depth]; decide, by rw [lenD]; decide, true, rfl, iteF ?_⟩
  clear hdp hdd N e1 e2 e3 e4 e5 e6 T1 T2 T3 T4 h01 h02 h03 h04 D1 D2 D3 D4 D5
  refine st_seq ⟨.str "a", .txt "a", rfl, .str _, by rw [smallT]; decide +kernel, by rw [nod]; decide, T6, fun Ha ea => ⟨"abcdefghijkl", rfl, by decide +kernel, T6.ex ea, fun Hb eb => ⟨_, rfl, d, rfl, (D6.keep ea).keep eb, fun z Hc hz Dc kc => ⟨z, rfl, by have := (badN z hz).2; omega, tk ((T6.ex ea).ex eb) ((D6.keep ea).keep eb) kc, fun Hd ed => ⟨by show 3 ≤ sizeLine; decide, fun p1 hp1 => ⟨by show 3 ≤ sizeLine; decide, fun p2 hp2 => ?_⟩⟩⟩⟩⟩⟩
  have T7 := ((tk ((T6.ex ea).ex eb) ((D6.keep ea).keep eb) kc).ex ed).ex ((Ex.new (o := .lst [.bl (docB (.txt "a")), .bl (nameB "abcdefghijkl"), .bl (nameB z)]) hp1).trans (Ex.new (o := .lst [.bl false, .bl true, .bl false]) hp2))
  have D7 := (Dc.keep ed).keep ((Ex.new (o := .lst [.bl (docB (.txt "a")), .bl (nameB "abcdefghijkl"), .bl (nameB z)]) hp1).trans (Ex.new (o := .lst [.bl false, .bl true, .bl false]) hp2))
  rw [show docB (.txt "a") = false from rfl, show nameB "abcdefghijkl" = true by decide +kernel, (badN z hz).1] at T7 D7 hp2 ⊢
  refine ⟨_, _, _, rfl, dp3b (by rw [upd_ne (fun w' => by rw [← w', upd_same] at hp2; cases hp2), upd_same]), dp3b upd_same, (sh3b _ _ _).1, (sh3b _ _ _).2, true, rfl, iteF ?_⟩
  generalize upd (upd Hd p1 (.lst [.bl false, .bl true, .bl false])) p2 (.lst [.bl false, .bl true, .bl false]) = H7 at T7 D7 ⊢
  clear T6 D6 ea eb kc ed hp1 hp2 Dc
  refine st_seq ⟨"x", 200, rfl, rfl, by decide, by decide, by decide +kernel, by decide +kernel, repS 200 "x", rfl, by decide +kernel, T7, fun Ha ea => ⟨_, rfl, d, 9, rfl, by decide, by decide, D7.keep ea, fun y Hb hy Db kb => ⟨y, rfl, by have := hy.2.1; omega, tk (T7.ex ea) (D7.keep ea) kb, fun Hc ec => ⟨_, rfl, d, rfl, Db.keep ec, fun z Hd hz Dd kd => ⟨z, rfl, by have := (badT z hz).2; omega, tk ((tk (T7.ex ea) (D7.keep ea) kb).ex ec) (Db.keep ec) kd, fun He ee => ⟨by show 3 ≤ sizeLine; decide, fun p1 hp1 => ⟨by show 3 ≤ sizeLine; decide, fun p2 hp2 => ?_⟩⟩⟩⟩⟩⟩⟩
  have T8 := ((tk ((tk (T7.ex ea) (D7.keep ea) kb).ex ec) (Db.keep ec) kd).ex ee).ex ((Ex.new (o := .lst [.bl (txtB (repS 200 "x")), .bl (txtB y), .bl (txtB z)]) hp1).trans (Ex.new (o := .lst [.bl true, .bl true, .bl false]) hp2))
  have D8 := (Dd.keep ee).keep ((Ex.new (o := .lst [.bl (txtB (repS 200 "x")), .bl (txtB y), .bl (txtB z)]) hp1).trans (Ex.new (o := .lst [.bl true, .bl true, .bl false]) hp2))
  rw [show txtB (repS 200 "x") = true by decide +kernel, text_ok hy (by decide), (badT z hz).1] at T8 D8 hp2 ⊢
  refine ⟨_, _, _, rfl, dp3b (by rw [upd_ne (fun w' => by rw [← w', upd_same] at hp2; cases hp2), upd_same]), dp3b upd_same, (sh3b _ _ _).1, (sh3b _ _ _).2, true, rfl, iteF ?_⟩
  generalize upd (upd He p1 (.lst [.bl true, .bl true, .bl false])) p2 (.lst [.bl true, .bl true, .bl false]) = H8 at T8 D8 ⊢
  clear T7 D7 ea kb ec kd ee hp1 hp2 Db Dd
  dsimp only [tNext]
  refine st_seq (go_asg (rd_take rfl val_c (by decide) D8 fun q H9 q0 q1 D9 e9 => ⟨60, q, rfl, rfl, ?_⟩))
  dsimp only [gName]
  have T9 := tk T8 D8 e9
  obtain ⟨n, rfl⟩ : ∃ n : Nat, q = (n : Int) := ⟨q.toNat, by omega⟩
  have hn : n < 2 := by omega
  refine q_when (b := false) (et_not (a := true) (et_B (same_b (n := 3) (b := docB (chT (59 + n))) (isdoc_of (ee_call (vs := [.int (((59 + n : Nat) : Int) + 1)]) (ea_cons (ev_is (ev_var rfl) (by congr 1; omega)) ea_nil) fun H1 e1 Q q => ⟨59 + n, rfl, by omega, fun v H' e' dv => q v H' e' dv⟩) T9 (ch_small _) (by rw [ch_nod]; omega)) (ev_val fun _ _ => val_is (val_eq (val_var rfl) val_c rfl) (by
    rw [ch_doc _ (by omega)]
    congr 1
    rw [decide_eq_decide]
    exact ⟨fun h => by have := V.int.inj h; omega, fun h => by congr 1; omega⟩)) (by decide)))) (fun z => by cases z) fun _ Ha ea => ?_
  have Ta := T9.ex ea
  have Da := D9.keep ea
  refine st_seq (rd_take rfl val_c (by decide) Da fun q Hb q0 q1 Db eb => ⟨q, 0, rfl, rfl, decide (q > 0), rfl, ?_⟩)
  have Tb := tk Ta Da eb
  by_cases hq : q > 0
  · rw [decide_eq_true hq]
    exact iteT (go_ret (k Hb Tb))
  · rw [decide_eq_false hq]
    refine iteF ?_
    dsimp only [tNext]
    refine st_seq (go_asg (rd_take rfl val_c (by decide) Db fun m Hc m0 m1 Dc ec => ⟨4999, m, rfl, rfl, ?_⟩))
    dsimp only [gName]
    have Tc := tk Tb Db ec
    obtain ⟨m, rfl⟩ : ∃ j : Nat, m = (j : Int) := ⟨m.toNat, by omega⟩
    have hm : m < 2 := by omega
    refine s_ret (v := .bl true) (same_b (n := 3) (b := docB (wideT (4999 + m))) (isdoc_of (ee_of ?_) Tc (wide_small _) (by rw [wide_nod]; omega)) (ev_val fun _ _ => val_is (val_eq (val_var rfl) val_c rfl) (by
      rw [wide_doc]
      congr 1
      rw [decide_eq_decide]
      exact ⟨fun h => by have := V.int.inj h; omega, fun h => by congr 1; omega⟩)) (by decide)) fun G e => k G (Tc.ex e)
    rw [wide_d]
    exact ed_tup (eds_cons ed_cstr (eds_cons (ed_lcR (n := ((4999 + m : Nat) : Int)) (fun _ => .tuple [.str "b", .list []]) (ea_cons (ev_is (ev_var rfl) (by first | (congr 1; done) | (congr 1; omega))) ea_nil) (by omega) (fun x => rfl) fun i H1 e hi => ed_tup (eds_cons ed_cstr (eds_cons (ed_lst eds_nil (by show 0 ≤ 100000; decide)) eds_nil)) (by show 2 ≤ 100000; decide)) eds_nil)) (by show 2 ≤ 100000; decide)
end

/-! ### the head and the end -/
abbrev R : PySem.W.OpenRow := PySem.W.OpenLaw.row PySem.Challenge.rw_topiary_k16_documents_recognized
abbrev hk : PySem.W.Hook := He.hookX 5 fa fn ts tf (moreB fx)
def obs (s : PySem.W.SharedT) : He.AlX := He.obsX 5 fa fn ts tf (moreB fx) (HandSHeadRun.getT s)
theorem obs_eq (s : PySem.W.SharedT) : obs s = hk.obs s.abs := He.obsX_eq (HandSHeadRun.getT_eq s)
def names : List Str := ["is_sign", "has_only_signs", "is_letter", "is_name", "is_text", "_children", "_has_texts_beside", "_is_well_made", "is_document", "_law_draws", "_law_take", "_law_same", "_law_string", "_law_tree", "_law_names", "_law_bad_name", "_law_bad_text", "_law_spoilt", "_law_chain", "NAME_LETTERS", "TEXT_CHARACTERS", "MOST_NODES", "MOST_DEPTH"]
theorem run (w : World) : HandSHeadRun.RunEq R (PySem.W.view R.prog [26]) hk obs 3000 names w := by
  intro os
  kernel_rfl
theorem facts {w : World} {K : PySem.W.Frag} {h g : Heap} {mg : Str → Option Value} {f : Addr} (X : K.In h) (G : h.Ns mainGlobals mg) (hfa : mg ("law" : Str) = some (.ref f)) (c : He.SaysX fa fn ts tf (moreB fx) w g K) :
    ∃ fd : FuncData, (∀ (s : Shared) (v : Value), BindsTo s fd ⟨[v], []⟩ [("script", v)]) ∧ ∀ base : Heap, K.In base → base.Ns mainGlobals mg → (∀ p ∈ tf, LamX.TabB base mg (He.cT K p).1 (He.cT K p).2) → FnOk (PySem.Challenge.rw_topiary_k16_documents_recognized).prog w K mg base (L2.CX0) 14 f fd ["script"] (spTab (genT K) (spLaw K)) := by
  have T : TX K mg := txt_ofY X G c
  obtain ⟨fd, F⟩ := T.d 19 _ rfl
  have e := hfa.symm.trans T.g_law
  cases e
  exact ⟨fd, fun s v => FunD.bindsA (ps := ["script"]) F (fun _ _ _ _ _ _ us hl => match us, hl with | [_], _ => rfl) s [v] rfl, fun base _ _ B => fn_tabs (genT K) (ok_law T B fd F)⟩
end Tp
open PySem PySem.W PySem.Calls PyProof.Rows
set_option maxRecDepth 100000 in
set_option maxHeartbeats 0 in
theorem PySem.Challenge.cw_topiary_k16_documents_recognized_holds : PySem.Challenge.rw_topiary_k16_documents_recognized.Holds := by
  w_on; o_law
  refine HandSHeadRun.head_any (r := OpenLaw.row PySem.Challenge.rw_topiary_k16_documents_recognized) (q := view (OpenLaw.row PySem.Challenge.rw_topiary_k16_documents_recognized).prog [26]) (H := Tp.hk) (ob := Tp.obs) (M := 3000) (loose := Tp.names) (d := HandSHeadRun.topDef (OpenLaw.row PySem.Challenge.rw_topiary_k16_documents_recognized).prog 26) (kwd := []) Tp.obs_eq
    (by kernel_rfl) (fun s => by kernel_rfl) Tp.run (by kernel_rfl) (by kernel_rfl) (by kernel_rfl) (by rfl) (by first | assumption | decide +kernel) (by decide +kernel) ⟨rfl, rfl, rfl, rfl, rfl, by decide +kernel⟩ ?hw ?hc
  case hw => w_witness2
  case hc =>
    refine Tp.endsY (tf := Tp.tf) (l := PySem.Challenge.rw_topiary_k16_documents_recognized) (n := 63) (k := 14) (x := "script") (CX := fun _ => L2.CX0) rfl (by decide) (by kernel_rfl) ⟨rfl, by decide, by decide⟩ ?F (fun _ _ _ _ _ z => z)
    intro w mg fa h Y G hmg0
    obtain ⟨K, KX, c⟩ := Y
    have hmg : mg ("law" : PySem.Str) = some (.ref fa) := by
      have e : (HandSHeadRun.topDef (OpenLaw.row PySem.Challenge.rw_topiary_k16_documents_recognized).prog 26).name = ("law" : PySem.Str) := by kernel_rfl
      rw [← e]
      exact hmg0
    obtain ⟨fd, hb, hF⟩ := Tp.facts (w := w) KX G hmg c
    exact ⟨K, fd, Tp.spTab (Tp.genT K) (Tp.spLaw K), KX, c.hd, c.out, c.empty, hb, fun H a ns hl hz hO hS => Tp.law_start hl hz hO hS, hF⟩
