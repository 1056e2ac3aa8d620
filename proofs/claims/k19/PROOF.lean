import PyProof.Rows.All
import Wide.All
import OpenK.AllK
import Wide.FinOn
import KE.KStateDown
import HandS.ForMost
import HandS.Exc
import HandS.WordsExc
import HandS.ExcInit
import HandS.ExcField
import KE.KExcIs
import HandS.ExcIs
import HandS.Star
import HandS.DictComp
import HandS.Wide
import HandS.IsInst
import HandS.EndBits
import HandS.Evl
import HandS.Defaults
import HandS.Zip
import HandS.Steps
import HandS.Walk
import HandS.SortInts
import HandS.More
import HandS.SetKeys
import HandS.Head0
import HandS.Head1
import HandS.Head2
import HandS.HeadEnd
import HandS.HeadHook1
import HandS.HeadHook2
import HandS.HeadHook3
import HandS.HeadHook4
import HandS.HeadWalk
import HandS.FStr
import HandS.Text
import HandS.StrMore
import PyProof.StrLawsLast
import PyProof.StrLawsIn
import HandS.Codes
import HandS.Rev
import HandS.RevTup
import PyProof.ListNew
import HandS.ReplaceList
import HandS.ReplaceLit
import HandS.ReplaceDef
import PySem.Challenge.RW_topiary_k19_first_error_of_a_text
set_option Elab.async false
set_option linter.all false
set_option maxRecDepth 100000
set_option maxHeartbeats 4000000
/-! Words of my own over the hand layer: what the head tells (facts, defs, own exceptions), ends, heaps that change at few places. -/
namespace Tp
open PySem PySem.Spec PyProof.Rows L2

/-! ### own exceptions as the head tells them -/
def excShape (C : Addr) : Obj → Bool
  | ⟨.type t, _, .cls cd, sl⟩ => decide (t = "type") && (cd.hasDict && (!cd.hasDel && (match cd.mro, sl.toList with
    | .ref C' :: bm, [_, _, _, _, some (.builtin n), _] => decide (C' = C) && (decide (n = "ValueError.__new__") && PySem.HandSPX.refsVE bm)
    | _, _ => false)))
  | _ => false
theorem two {a b : Bool} (h : (a && b) = true) : a = true ∧ b = true := Bool.and_eq_true_iff.mp h
theorem excShape_ok {C : Addr} {o : Obj} (h : excShape C o = true) : ∃ nm q N bs bm sn sub ab col dd k0 k1 k2 k3 k5, o = excClassObj nm q C N bs bm true sn sub ab col dd k0 k1 k2 k3 k5 "ValueError.__new__" ∧ PySem.HandSPX.refsVE bm = true := by
  obtain ⟨oc, od, dt, sl⟩ := o
  cases oc with
  | type t =>
    cases dt with
    | cls cd =>
      obtain ⟨h1, h⟩ := two h
      obtain ⟨h2, h⟩ := two h
      obtain ⟨h3, h⟩ := two h
      obtain ⟨nm, bs, mro, ns, qn, hd, sn, sb, ab, col, del⟩ := cd
      obtain ⟨sl⟩ := sl
      have e1 : t = "type" := of_decide_eq_true h1
      subst e1
      cases del with
      | true => cases h3
      | false =>
        have e2 : hd = true := h2
        subst e2
        match mro, sl, h with
        | .ref C' :: bm, [k0, k1, k2, k3, some (.builtin n), k5], h =>
          obtain ⟨h4, h⟩ := two h
          obtain ⟨h5, h6⟩ := two h
          have e3 : C' = C := of_decide_eq_true h4
          have e4 : n = "ValueError.__new__" := of_decide_eq_true h5
          subst e3 e4
          exact ⟨nm, qn, ns, bs, bm, sn, sb, ab, col, od, k0, k1, k2, k3, k5, rfl, h6⟩
    | _ => cases h
  | _ => cases dt <;> cases h
/-- the class x of the module: an own exception -/
def excB (K : PySem.W.Frag) (x : Str) : Bool := (match K.lookup (He.ga K x) with
  | some o => excShape (He.ga K x) o
  | none => false) && (decide (PySem.W.findIn K (.ref (He.ga K x)) "__setattr__" = some (some (.builtin "object.__setattr__"))) && (decide (PySem.W.subIn K (.ref (He.ga K x)) (.type "BaseException") = some true) &&
  (decide (PySem.W.typeIn K (.ref (He.ga K x)) = some (.type "type")) && PySem.W.keepIn K (.ref (He.ga K x)))))
theorem excB_ok {K : PySem.W.Frag} {x : Str} (h : excB K x = true) : OexC K (He.ga K x) := by
  obtain ⟨h1, h⟩ := two h
  obtain ⟨h2, h⟩ := two h
  obtain ⟨h3, h⟩ := two h
  obtain ⟨h4, h5⟩ := two h
  refine ⟨?_, of_decide_eq_true h2, of_decide_eq_true h3, of_decide_eq_true h4, h5⟩
  cases q : K.lookup (He.ga K x) with
  | none =>
    rw [q] at h1
    cases h1
  | some o =>
    rw [q] at h1
    obtain ⟨nm, qn, N, bs, bm, sn, sub, ab, col, dd, k0, k1, k2, k3, k5, e, r⟩ := excShape_ok h1
    exact ⟨nm, qn, N, bs, bm, sn, sub, ab, col, dd, k0, k1, k2, k3, k5, by rw [e], r⟩
/-- its own __init__ -/
def iniB (K : PySem.W.Frag) (x : Str) : Bool := decide (PySem.W.findIn K (.ref (He.ga K x)) "__init__" = some (some (.ref (He.ma K (He.ga K x) "__init__")))) && decide (PySem.W.typeIn K (.ref (He.ma K (He.ga K x) "__init__")) = some (.type "function"))
theorem iniB_ok {K : PySem.W.Frag} {x : Str} (h : iniB K x = true) : PySem.W.findIn K (.ref (He.ga K x)) "__init__" = some (some (.ref (He.ma K (He.ga K x) "__init__"))) ∧ PySem.W.typeIn K (.ref (He.ma K (He.ga K x) "__init__")) = some (.type "function") := by
  obtain ⟨h1, h2⟩ := two h
  exact ⟨of_decide_eq_true h1, of_decide_eq_true h2⟩
/-- what isinstance of a caught own error asks of its class -/
def excCB (K : PySem.W.Frag) (D : Addr) : Bool := decide (PySem.W.findIn K (.ref D) "__getattribute__" = some (some (.builtin "BaseException.__getattribute__"))) && (decide (PySem.W.findIn K (.ref D) "__getattr__" = some none) && (decide (PySem.W.subIn K (.ref D) (.type "BaseException") = some true) && (PySem.W.hasDictIn K D &&
  (decide (PySem.W.findIn K (.ref D) "__class__" = some (some (.builtin "object.__class__"))) && (decide (PySem.W.specialIn K (.builtin "object.__class__") "__get__" = some (some (.builtin "getset_descriptor.__get__"))) && (decide (PySem.W.takesIn K (.builtin "object.__class__") = some true) && decide (PySem.W.mroIn K D (.type "object") = some true)))))))
theorem excCB_ok {K : PySem.W.Frag} {D : Addr} (h : excCB K D = true) : ExcC K D := by
  obtain ⟨h1, h⟩ := two h
  obtain ⟨h2, h⟩ := two h
  obtain ⟨h3, h⟩ := two h
  obtain ⟨h4, h⟩ := two h
  obtain ⟨h5, h⟩ := two h
  obtain ⟨h6, h⟩ := two h
  obtain ⟨h7, h8⟩ := two h
  exact ⟨of_decide_eq_true h1, of_decide_eq_true h2, of_decide_eq_true h3, h4, of_decide_eq_true h5, of_decide_eq_true h6, of_decide_eq_true h7, of_decide_eq_true h8⟩
/-- isinstance(e, t), e the caught error of the own class C with its dict -/
def rIsX (a : Addr) (cls : Value) (d : Option Addr) (C : Addr) (t : String) (b : Bool) : List V → Hp → VK → Prop := fun xs H Q => xs = [.ref a, .ty t] ∧ cls = .ref C ∧ (∃ (dd : Addr) (fs : List (Str × V)), d = some dd ∧ H dd = some (.xd fs)) ∧ Q (.bl b) H
theorem call_isX {X : Cx} {a C : Addr} {oe : Obj} {cls : Value} {d : Option Addr} {pn : List (Addr × Obj)} {t : String} {b : Bool} (T : ExcC X.K C) (e : PySem.W.kitOne X.K (.ref C) (.type t) = some b) (hz : Zc cls d oe) (hf : ∃ vs, oe.data = .fields vs) : CallR (X.suite a ((a, oe) :: pn)) (.builtin "isinstance") (rIsX a cls d C t b) := by
  intro pins s σ H xs us Q I r h
  obtain ⟨rfl, ec, ⟨dd, fs, ed, ea⟩, q⟩ := h
  subst ec
  subst ed
  cases r with
  | cons rx rr =>
    cases rr with
    | cons rt rr =>
      cases rr
      cases rx
      cases rt
      obtain ⟨ha, _⟩ := I.pin (a, oe) (List.mem_append_left _ List.mem_cons_self)
      obtain ⟨vs, hd⟩ := hf
      have hx : ObjOk X.prog X.w H s.heap dd (.xd fs) := I.hok dd _ ea
      obtain ⟨mA, hns, hr⟩ := hx
      obtain ⟨od, ho, hl⟩ := lookIn_ns hns
      have J : PySem.W.InstAt s.heap a oe C (some od) := ⟨ha, hz.1, by unfold PySem.W.notCls; rw [hd] <;> rfl, by rw [hz.2]; exact ho⟩
      have hcl : (PySem.W.clsIn X.K C).isSome = true := by
        obtain ⟨cd, hc, _⟩ := PySem.W.any_some T.hd
        rw [hc] <;> rfl
      exact PySem.W.kia_one (PySem.W.kitx_exc hcl T.hg T.hk T.hs T.ha T.hn T.ht T.hm) I.kIn J e (fun z => nomatch z) fun tk => ⟨.bl b, H, I.kept (t' := tk) fun _ _ z => z, rfl, q⟩
/-- a tuple of texts in the written part -/
def strV : Value → Option Str
  | .str z _ => some z
  | _ => none
def strsB (K : PySem.W.Frag) (a : Addr) (zs : List Str) : Bool := match K.lookup a with
  | some ⟨.type "tuple", _, .seq its _, _⟩ => decide (its.size ≤ 1000) && decide (its.toList.map strV = zs.map some)
  | _ => false
def refV : Value → Option Addr
  | .ref a => some a
  | _ => none
def tupsB (K : PySem.W.Frag) (a : Addr) (zs : List (List Str)) : Bool := match K.lookup a with
  | some ⟨.type "tuple", _, .seq its _, _⟩ => decide (its.size ≤ 1000) && decide (its.size = zs.length) && (its.toList.zip zs).all fun p => match refV p.1 with
    | some b => strsB K b p.2
    | none => false
  | _ => false
theorem vals_strs : ∀ {us : List Value} {zs : List Str}, us.map strV = zs.map some → Vals (zs.map V.str) us
  | [], [], _ => .nil
  | [], _ :: _, h => by cases h
  | _ :: _, [], h => by cases h
  | u :: us, z :: zs, h => by
    rw [List.map_cons, List.map_cons] at h
    obtain ⟨h1, h2⟩ := List.cons.inj h
    refine .cons ?_ (vals_strs h2)
    cases u with
    | str y t =>
      cases h1
      exact ⟨t, rfl⟩
    | _ => cases h1
theorem strsB_ok {K : PySem.W.Frag} {a : Addr} {zs : List Str} (h : strsB K a zs = true) (H : Hp) : SqT K H a (zs.map V.str) := by
  unfold strsB at h
  split at h
  · rename_i its n sl e
    have h' := Bool.and_eq_true_iff.mp h
    exact .inr ⟨_, its, n, e, rfl, rfl, Nat.le_trans (of_decide_eq_true h'.1) (by decide), vals_strs (of_decide_eq_true h'.2)⟩
  · cases h
theorem tups_refs {K : PySem.W.Frag} : ∀ {us : List Value} {zs : List (List Str)}, us.length = zs.length → ((us.zip zs).all fun p => match refV p.1 with
    | some b => strsB K b p.2
    | none => false) = true → ∃ as : List Addr, Vals (as.map V.ref) us ∧ as.length = zs.length ∧ ∀ (i : Nat) (a : Addr) (z : List Str), as[i]? = some a → zs[i]? = some z → strsB K a z = true
  | [], [], _, _ => ⟨[], .nil, rfl, fun i a z h => by cases h⟩
  | [], _ :: _, h, _ => by cases h
  | _ :: _, [], h, _ => by cases h
  | u :: us, z :: zs, hl, h => by
    rw [List.zip_cons_cons, List.all_cons] at h
    obtain ⟨h1, h2⟩ := Bool.and_eq_true_iff.mp h
    obtain ⟨as, g1, g2, g3⟩ := tups_refs (Nat.succ.inj hl) h2
    cases u with
    | ref a =>
      refine ⟨a :: as, .cons rfl g1, by rw [List.length_cons, List.length_cons, g2], fun i b y e1 e2 => ?_⟩
      cases i with
      | zero =>
        cases e1
        cases e2
        exact h1
      | succ i => exact g3 i b y e1 e2
    | _ => cases h1
/-- a tuple of tuples of texts -/
def TupsC (K : PySem.W.Frag) (a : Addr) (zs : List (List Str)) : Prop := ∃ as : List Addr, as.length = zs.length ∧ (∀ H, SqT K H a (as.map V.ref)) ∧ ∀ (i : Nat) (b : Addr) (z : List Str), as[i]? = some b → zs[i]? = some z → ∀ H, SqT K H b (z.map V.str)
theorem tupsB_ok {K : PySem.W.Frag} {a : Addr} {zs : List (List Str)} (h : tupsB K a zs = true) : TupsC K a zs := by
  unfold tupsB at h
  split at h
  · rename_i its n sl e
    obtain ⟨h', h3⟩ := Bool.and_eq_true_iff.mp h
    obtain ⟨h1, h2⟩ := Bool.and_eq_true_iff.mp h'
    obtain ⟨as, g1, g2, g3⟩ := tups_refs (us := its.toList) (by rw [Array.length_toList]; exact of_decide_eq_true h2) h3
    exact ⟨as, g2, fun H => .inr ⟨_, its, n, e, rfl, rfl, Nat.le_trans (of_decide_eq_true h1) (by decide), g1⟩, fun i b z e1 e2 H => strsB_ok (g3 i b z e1 e2) H⟩
  · cases h
/-- one more fact of the head: an exception's class; one whose fields are read; a sub-question of two classes -/
inductive Fx where
  | tups (x : Str) (zs : List (List Str))
  | strs (x : Str) (zs : List Str)
  | dvals (x : Str) (kvs : List (Str × He.Dv))
  | exc (x : Str)
  | ini (x : Str)
  | xf (x : Str)
  | sub (x y : Str) (b : Bool)
  | isC (x : Str)
  | isx (x : Str) (t : String) (b : Bool)
def Fx.ok (K : PySem.W.Frag) : Fx → Bool
  | .tups x zs => tupsB K (He.ga K x) zs
  | .strs x zs => strsB K (He.ga K x) zs
  | .dvals x kvs => He.valsB K (He.ga K x) kvs
  | .exc x => excB K x
  | .ini x => iniB K x
  | .xf x => xfB K (He.ga K x)
  | .sub x y b => decide (PySem.W.exmOne K (.ref (He.ga K x)) (.ref (He.ga K y)) = some b)
  | .isC x => PySem.W.isClsIn K (He.ga K x)
  | .isx x t b => excCB K (He.ga K x) && decide (PySem.W.kitOne K (.ref (He.ga K x)) (.type t) = some b)

/-! ### the head's Hook -/
abbrev Seen : Type := He.AlD × Bool
def seen (fa : List He.Fa) (fn : List He.DefD) (fx : List Fx) (K : PySem.W.Frag) : Seen := (He.obsD fa fn K, fx.all fun f => f.ok K)
def told (fn : List He.DefD) : Seen := (He.valD fn, true)
def lookAt (n : Nat) (fa : List He.Fa) (fn : List He.DefD) (fx : List Fx) (g : Addr → Option Obj) : Seen := seen fa fn fx (He.frG g (He.asD g n))
def hook (n : Nat) (fa : List He.Fa) (fn : List He.DefD) (fx : List Fx) : PySem.W.Hook where
  α := Seen
  obs := fun s => lookAt n fa fn fx s.heap.get?
  val := fun _ => told fn
  says := fun _ h => ∃ K : PySem.W.Frag, K.In h ∧ seen fa fn fx K = told fn
  of := fun _ _ e => ⟨_, He.frG_in, e⟩
  keeps := fun _ _ _ ⟨K, hK, c⟩ k => ⟨K, PySem.W.Frag.In.keeps hK k, c⟩
theorem look_eq {n : Nat} {fa : List He.Fa} {fn : List He.DefD} {fx : List Fx} {g : Addr → Option Obj} {s : Shared} (h : ∀ a, g a = s.heap.get? a) : lookAt n fa fn fx g = (hook n fa fn fx).obs s := by
  have e : g = s.heap.get? := funext h
  subst e
  rfl
/-- what the walk leans on, by places in the lists -/
structure Txt (fa : List He.Fa) (fn : List He.DefD) (fx : List Fx) (K : PySem.W.Frag) (mg : Str → Option Value) : Prop where
  f : ∀ (i : Nat) (f : He.Fa), fa[i]? = some f → f.ok K = true
  d : ∀ (i : Nat) (d : He.DefD), fn[i]? = some d → ∃ fd, FunD K d.name d.qual d.params d.body d.scope (d.dvs K) (d.kws K) (He.fAd K d.at_) fd
  x : ∀ (i : Nat) (f : Fx), fx[i]? = some f → f.ok K = true
  gl : ∀ (i : Nat) (x : Str), fa[i]? = some (.glo x) → mg x = some (.ref (He.ga K x))
  no : ∀ (i : Nat) (x : Str), fa[i]? = some (.free x) → mg x = none
  int : ∀ (i : Nat) (x : Str) (n : Int), fa[i]? = some (.int x n) → ∃ t, mg x = some (.int n t)
  str : ∀ (i : Nat) (x z : Str), fa[i]? = some (.str x z) → ∃ t, mg x = some (.str z t)
theorem txt_of {fa : List He.Fa} {fn : List He.DefD} {fx : List Fx} {K : PySem.W.Frag} {mg : Str → Option Value} {h : Heap} (X : K.In h) (G : h.Ns mainGlobals mg) (c : seen fa fn fx K = told fn) : Txt fa fn fx K mg := by
  have c1 : He.SaysD fa fn K := congrArg (fun z : Seen => z.1) c
  have c2 : (fx.all fun f => f.ok K) = true := congrArg (fun z : Seen => z.2) c
  exact ⟨fun i f e => c1.fact i e, fun i d e => c1.def_ i e, fun i f e => List.all_eq_true.mp c2 f (List.mem_of_getElem? e), fun i x e => He.glo_ok X G (c1.fact i e), fun i x e => He.free_ok X G (c1.fact i e),
    fun i x n e => He.int_ok X G (c1.fact i e), fun i x z e => He.str_ok X G (c1.fact i e)⟩

/-! ### defs -/
/-- a def that lets nothing out -/
theorem def0 {P : Program} {w : World} {K : PySem.W.Frag} {mg : Str → Option Value} {base : Heap} {x qual : Str} {params : Arguments} {body : List Stmt} {scope : Scope} {dvs : List V} {kws : List (Str × V)} {f : Addr} {fd : FuncData} {N ps : List Str} {k : Nat} {sp : Sp}
    (F : FunD K x qual params body scope dvs kws f fd) (S : FnScope N ps scope) (len : ∀ vs H Q E, sp vs H Q E → vs.length = ps.length)
    (hb : ∀ (cdv : Value) (A : Around) (outer : List Env) (s : Shared) (H : Hp) (vs : List V) (Q : VK) (E : XK), Room k (A.deeper (envOfC qual scope s.heap.objs.size f cdv)) → sp vs H Q E →
      ∃ t, PSs (cxOf CX0 P w K mg base N qual scope f cdv A outer s H E).nox body t ∧ t { nx := fun _ H' => Q .non H', rt := Q } (start N vs) H) : FnOk P w K mg base CX0 (k + 1) f fd ps sp :=
  F.ok S len fun cdv A outer s H vs Q E hr h => by
    obtain ⟨t, ht, q⟩ := hb cdv A outer s H vs Q E hr h
    exact ⟨t, PSs.nox ht, q⟩
/-- a def that may let out errors -/
theorem defX {P : Program} {w : World} {K : PySem.W.Frag} {mg : Str → Option Value} {base : Heap} {x qual : Str} {params : Arguments} {body : List Stmt} {scope : Scope} {dvs : List V} {kws : List (Str × V)} {f : Addr} {fd : FuncData} {N ps : List Str} {k : Nat} {sp : Sp}
    (F : FunD K x qual params body scope dvs kws f fd) (S : FnScope N ps scope) (len : ∀ vs H Q E, sp vs H Q E → vs.length = ps.length)
    (hb : ∀ (cdv : Value) (A : Around) (outer : List Env) (s : Shared) (H : Hp) (vs : List V) (Q : VK) (E : XK), Room k (A.deeper (envOfC qual scope s.heap.objs.size f cdv)) → sp vs H Q E →
      ∃ t, PSs (cxOf (L2.CX P w) P w K mg base N qual scope f cdv A outer s H E) body t ∧ t { nx := fun _ H' => Q .non H', rt := Q } (start N vs) H) : FnOk P w K mg base (L2.CX P w) (k + 1) f fd ps sp :=
  F.ok S len hb
/-- a def as callers want it: dvs the defaults that fill up -/
def Can (P : Program) (w : World) (K : PySem.W.Frag) (mg : Str → Option Value) (base : Heap) (CX : CXT) (k : Nat) (f : Addr) (ps : List Str) (dvs : List V) (sp : Sp) : Prop := ∃ fd, FnOk P w K mg base CX k f fd ps sp ∧ ∃ ds, Vals dvs ds ∧ Binds K fd ps ds

/-! ### the law's end -/
theorem ends {l : PySem.W.OpenLaw} {n k : Nat} {q : Program} {loose : List Str} {XP : (Str → Option Value) → Heap → Prop} {YP : World → Heap → Prop} {d : DefRec} {CX : World → CXT} {x : Str}
    (hn : l.most = some n) (hn2 : n ≤ sizeLine) (hdf : d.params.defaults = []) (hr : Room k callerA)
    (F : ∀ (w : World) (mg : Str → Option Value) (fa : Addr) (h : Heap), YP w h → h.Ns mainGlobals mg → mg d.name = some (.ref fa) →
      ∃ (K : PySem.W.Frag) (fd : FuncData) (sp : Sp), K.In h ∧ (∀ (s : Shared) (u : Value), BindsTo s fd ⟨[u], []⟩ [(x, u)]) ∧
        (∀ (H : Hp) (a : Addr) (ns : List Int), ns.length ≤ n → (∀ z ∈ ns, Builtin.Int.intBits z ≤ 1048576) → Only H → SqL K H a (ns.map V.int) → sp [.ref a] H (fun v _ => v = .bl true) fun _ _ _ => False) ∧
        ∀ base : Heap, K.In base → base.Ns mainGlobals mg → FnOk l.prog w K mg base (CX w) k fa fd [x] sp)
    (hCX : ∀ (w : World) (H : Hp) (s : Shared) (e : Value) (s' : Shared), CX w [] H s (fun _ _ _ => False) e s' → False) :
    PySem.W.WalkO q loose XP YP l.row.toRowW d [] (fun f vs => PySem.call f vs) := by
  refine Att.attach_callB hn hdf fun w s₀ s₁ mg mb fa o pm cd doc a vs ns G Y ho hd hcd hmg hobj hints hlen hbits hg => ?_
  obtain ⟨K, fd, sp, KX, hb, hsp, hF⟩ := F w mg fa _ Y G.T.g hmg
  exact law_call KX G.T.g G.T.b G.T.builtins G.T.nolimit hg hobj hints (Nat.le_trans hlen hn2) hr hF hb (fun H hO hS => hsp H a ns hlen hbits hO hS) fun H e s' => hCX w H s₁ e s'
theorem no_leak {P : Program} {w : World} {H : Hp} {s : Shared} {e : Value} {s' : Shared} (h : L2.CX P w [] H s (fun _ _ _ => False) e s') : False := by
  obtain ⟨_, _, _, _, _, _, _, _, _, _, _, _, z⟩ := h
  exact z.elim

/-! ### heaps: all but some places stay -/
/-- what H tracks but at the places of S stays -/
def Kp (S : List Addr) (H H' : Hp) : Prop := ∀ a o, a ∉ S → H a = some o → H' a = some o
theorem Kp.refl {S : List Addr} {H : Hp} : Kp S H H := fun _ _ _ e => e
theorem Kp.trans {S : List Addr} {H H1 H2 : Hp} (a : Kp S H H1) (b : Kp S H1 H2) : Kp S H H2 := fun x o n e => b x o n (a x o n e)
theorem Kp.new {S : List Addr} {H : Hp} {p : Addr} {o : HO} (h : H p = none) : Kp S H (upd H p o) := fun a u _ e => by
  rw [upd_ne (ne_of_none e h)]
  exact e
theorem Kp.put {S : List Addr} {H : Hp} {p : Addr} {o : HO} (h : p ∈ S) : Kp S H (upd H p o) := fun a u n e => by
  rw [upd_ne (fun z => n (by rw [z]; exact h))]
  exact e
/-- an object that H does not know may change -/
theorem Kp.mut {S : List Addr} {H H' : Hp} {p : Addr} {o : HO} (e : Kp S H H') (h : H p = none) : Kp S H (upd H' p o) := fun a u n ha => by
  rw [upd_ne (ne_of_none ha h)]
  exact e a u n ha
theorem Kp.mono {S S' : List Addr} {H H' : Hp} (e : Kp S H H') (h : ∀ a ∈ S, a ∈ S') : Kp S' H H' := fun a o n ha => e a o (fun z => n (h a z)) ha
theorem Kp.ex {H H' : Hp} (e : Kp [] H H') : Evl.Ex H H' := fun a o h => e a o (by simp) h
theorem Kp.of {S : List Addr} {H H' : Hp} (e : Evl.Ex H H') : Kp S H H' := fun a o _ h => e a o h
theorem Kp.of' {S : List Addr} {H H' : Hp} (e : Same H H') : Kp S H H' := fun a o _ h => e a o h
theorem Kp.fresh {H H' : Hp} {p : Addr} (e : Kp [] H H') (h : H' p = none) : H p = none := Evl.fresh_back e.ex h
/-- fresh behind, fresh ahead, where the places of S are known -/
theorem Kp.back {S : List Addr} {H H' : Hp} {p : Addr} (e : Kp S H H') (hs : ∀ a ∈ S, H' a ≠ none) (h : H' p = none) : H p = none := by
  cases q : H p with
  | none => rfl
  | some o =>
    by_cases hp : p ∈ S
    · exact absurd h (hs p hp)
    · rw [e p o hp q] at h
      cases h
theorem Kp.up {H : Hp} {p : Addr} {o : HO} : Kp [p] H (upd H p o) := fun a u n e => by
  rw [upd_ne (fun z => n (by rw [z]; exact List.mem_singleton.mpr rfl))]
  exact e
theorem Kp.at {S : List Addr} {H H' : Hp} {a : Addr} {o : HO} (e : Kp S H H') (ha : H a = some o) (n : a ∉ S := by simp) : H' a = some o := e a o n ha

theorem Kp.sqL {K : PySem.W.Frag} {H H' : Hp} {p l C dx : Addr} {fs : List (Str × V)} {xs : List V} (e : Kp [p] H H') (hp : H p = some (.ins C dx fs)) (h : SqL K H l xs) : SqL K H' l xs := by
  rcases h with (h | ⟨o, h⟩) | h
  · exact .inl (.inl (e.at h fun z => by rw [List.mem_singleton.mp z, hp] at h; cases h))
  · exact .inl (.inr ⟨o, e.at h fun z => by rw [List.mem_singleton.mp z, hp] at h; cases h⟩)
  · exact .inr h

/-! ### own exceptions made -/
theorem exo_end {H : Hp} {a d : Addr} {o1 o2 o3 u : HO} (hn : H a = none) (hd : d ≠ a) : upd (L2.del (upd (upd (upd H a o1) d o2) a o3) a) d u = upd H d u := by
  funext b
  by_cases h1 : b = d
  · subst h1
    rw [upd_same, upd_same]
  · rw [upd_ne h1, upd_ne h1]
    by_cases h2 : b = a
    · subst h2
      rw [del_same, hn]
    · rw [del_ne h2, upd_ne h2, upd_ne h1, upd_ne h2]
theorem exo_end2 {H : Hp} {a d : Addr} {o1 o2 o3 o4 u : HO} (hn : H a = none) (hd : d ≠ a) : upd (L2.del (upd (upd (upd (upd H a o1) d o2) a o3) d o4) a) d u = upd H d u := by
  funext b
  by_cases h1 : b = d
  · subst h1
    rw [upd_same, upd_same]
  · rw [upd_ne h1, upd_ne h1]
    by_cases h2 : b = a
    · subst h2
      rw [del_same, hn]
    · rw [del_ne h2, upd_ne h1, upd_ne h2, upd_ne h1, upd_ne h2]
/-- the __init__ of an own exception with one field -/
def spX1 (K : PySem.W.Frag) (C : Addr) (f : Str) : Sp := fun vs H Q _ => ∃ (a : Addr) (y : V), vs = [.ref a, y] ∧ OexC K C ∧ PySem.W.findIn K (.ref C) f = some none ∧ H a = some (exo a C none) ∧
  ∀ dx, H dx = none → dx ≠ a → Q .non (upd (upd H dx (exd dx [(f, y)])) a (exo a C (some dx)))
/-- .. with two fields -/
def spX2 (K : PySem.W.Frag) (C : Addr) (f g : Str) : Sp := fun vs H Q _ => ∃ (a : Addr) (y z : V), vs = [.ref a, y, z] ∧ OexC K C ∧ PySem.W.findIn K (.ref C) f = some none ∧ PySem.W.findIn K (.ref C) g = some none ∧ H a = some (exo a C none) ∧
  ∀ dx, H dx = none → dx ≠ a → Q .non (upd (upd (upd H dx (exd dx [(f, y)])) a (exo a C (some dx))) dx (exd dx [(g, z), (f, y)]))
/-- C(e) is made, to be raised -/
theorem made1 {K : PySem.W.Frag} {C : Addr} {f : Str} {y : V} {H : Hp} {Q : XK} (T : OexC K C) (hno : PySem.W.findIn K (.ref C) f = some none) (h : ∀ d, H d = none → Q (.ref C) (some d) (upd H d (.xd [(f, y)]))) :
    [y].length ≤ 1000 ∧ ∀ a, H a = none → spX1 K C f (.ref a :: ([y] ++ [])) (upd H a (exo a C none)) (fun v H2 => v = .non ∧ ∃ (d : Addr) (fs : List (Str × V)), H2 a = some (exo a C (some d)) ∧ H2 d = some (exd d fs) ∧ H d = none ∧ Q (.ref C) (some d) (upd (L2.del H2 a) d (.xd fs))) (fun _ _ _ => False) := by
  refine ⟨by show 1 ≤ 1000; decide, fun a hn => ⟨a, y, rfl, T, hno, upd_same, fun dx hd ne => ⟨rfl, dx, _, upd_same, by rw [upd_ne ne, upd_same], ?_, ?_⟩⟩⟩
  · rw [upd_ne ne] at hd
    exact hd
  · rw [exo_end hn ne]
    rw [upd_ne ne] at hd
    exact h dx hd
theorem made2 {K : PySem.W.Frag} {C : Addr} {f g : Str} {y z : V} {H : Hp} {Q : XK} (T : OexC K C) (hf : PySem.W.findIn K (.ref C) f = some none) (hg : PySem.W.findIn K (.ref C) g = some none) (h : ∀ d, H d = none → Q (.ref C) (some d) (upd H d (.xd [(g, z), (f, y)]))) :
    [y, z].length ≤ 1000 ∧ ∀ a, H a = none → spX2 K C f g (.ref a :: ([y, z] ++ [])) (upd H a (exo a C none)) (fun v H2 => v = .non ∧ ∃ (d : Addr) (fs : List (Str × V)), H2 a = some (exo a C (some d)) ∧ H2 d = some (exd d fs) ∧ H d = none ∧ Q (.ref C) (some d) (upd (L2.del H2 a) d (.xd fs))) (fun _ _ _ => False) := by
  refine ⟨by show 2 ≤ 1000; decide, fun a hn => ⟨a, y, z, rfl, T, hf, hg, upd_same, fun dx hd ne => ⟨rfl, dx, _, by rw [upd_ne (Ne.symm ne), upd_same], upd_same, ?_, ?_⟩⟩⟩
  · rw [upd_ne ne] at hd
    exact hd
  · rw [exo_end2 hn ne]
    rw [upd_ne ne] at hd
    exact h dx hd

/-! ### fields -/
theorem putF_app : ∀ {fs : List (Str × V)} {f : Str} {v : V} {ks : List Str}, fs.map (·.1) = ks → ks.all (fun k => !decide (k = f)) = true → putF f v fs = fs ++ [(f, v)]
  | [], f, v, ks, _, _ => rfl
  | (g, x) :: r, f, v, ks, e, h => by
    subst e
    rw [List.map_cons, List.all_cons] at h
    obtain ⟨h1, h2⟩ := Bool.and_eq_true_iff.mp h
    have ne : ¬ g = f := fun z => by
      have h3 : (!decide (g = f)) = true := h1
      rw [decide_eq_true z] at h3
      cases h3
    show (if g = f then (g, v) :: r else (g, x) :: putF f v r) = (g, x) :: (r ++ [(f, v)])
    rw [if_neg ne, putF_app rfl h2]
theorem fld_at : ∀ {fs : List (Str × V)} {f : Str} {v : V} {ks : List Str} (i : Nat), fs.map (·.1) = ks → fs[i]? = some (f, v) → (ks.take i).all (fun k => !decide (k = f)) = true → fs.lookup f = some v
  | [], f, v, ks, i, _, e, _ => by cases i <;> cases e
  | (g, x) :: r, f, v, ks, 0, _, e, _ => by
    have e1 : (g, x) = (f, v) := Option.some.inj e
    cases e1
    show (match g == g with | true => some x | false => r.lookup g) = some x
    rw [beq_self_eq_true]
  | (g, x) :: r, f, v, ks, i + 1, hk, e, h => by
    subst hk
    rw [List.map_cons, List.take_succ_cons, List.all_cons] at h
    obtain ⟨h1, h2⟩ := Bool.and_eq_true_iff.mp h
    have ne : ¬ f = g := fun z => by
      have h3 : (!decide (g = f)) = true := h1
      rw [decide_eq_true z.symm] at h3
      cases h3
    show (match f == g with | true => some x | false => r.lookup f) = some v
    rw [beq_eq_false_iff_ne.mpr ne]
    exact fld_at i rfl e h2
theorem fld_no : ∀ {fs : List (Str × V)} {f : Str} {ks : List Str}, fs.map (·.1) = ks → ks.all (fun k => !decide (k = f)) = true → fs.lookup f = none
  | [], f, ks, _, _ => rfl
  | (g, x) :: r, f, ks, e, h => by
    subst e
    rw [List.map_cons, List.all_cons] at h
    obtain ⟨h1, h2⟩ := Bool.and_eq_true_iff.mp h
    have ne : ¬ f = g := fun z => by
      have h3 : (!decide (g = f)) = true := h1
      rw [decide_eq_true z.symm] at h3
      cases h3
    show (match f == g with | true => some x | false => r.lookup f) = none
    rw [beq_eq_false_iff_ne.mpr ne]
    exact fld_no rfl h2

/-! ### the rules by the written part's own name -/
def rLn (K : PySem.W.Frag) : List V → Hp → VK → Prop := fun xs H Q => ∃ p ys, xs = [.ref p] ∧ (SqL K H p ys ∨ SqT K H p ys) ∧ Q (.int ys.length) H
def rLs (K : PySem.W.Frag) : List V → Hp → VK → Prop := fun xs H Q => ∃ p ys, xs = [.ref p] ∧ (SqL K H p ys ∨ SqT K H p ys) ∧ ∀ l, H l = none → Q (.ref l) (upd H l (.lst ys))
def tTr (K : PySem.W.Frag) (ta : TE) : TT := fun σ H Q => ta σ H fun x H' => ∃ k, TruV K x H' k ∧ Q k H'
section
variable {X : Cx} (K : PySem.W.Frag)
theorem ixL (h : X.K = K) : IxR X (rIxL K) := h ▸ ix_list
theorem ixT (h : X.K = K) : IxR X (rIxT K) := h ▸ ix_tup
theorem ixS (h : X.K = K) : IxR X (rIx K) := h ▸ ix_seq
theorem slL (h : X.K = K) : SlR X (rSlL K) := h ▸ sl_list
theorem slT (h : X.K = K) : SlR X (rSlT K) := h ▸ sl_tup
theorem cLen (h : X.K = K) : CallR X (.builtin "len") (rLn K) := h ▸ call_len_seq
theorem cList (h : X.K = K) : CallR X (.type "list") (rLs K) := h ▸ call_list_of
theorem cSum (h : X.K = K) (hc : X.calm = true) : CallR X (.builtin "sum") (rSum K) := h ▸ cr_sum hc
theorem cMax (h : X.K = K) (hc : X.calm = true) : CallR X (.builtin "max") (rMax K) := h ▸ cr_max hc
theorem cMin (h : X.K = K) (hc : X.calm = true) : CallR X (.builtin "min") (rMin K) := h ▸ cr_min hc
theorem cAny (h : X.K = K) (hc : X.calm = true) : CallR X (.builtin "any") (rAny K) := h ▸ cr_any hc
theorem cAll (h : X.K = K) (hc : X.calm = true) : CallR X (.builtin "all") (rAll K) := h ▸ cr_all hc
theorem cIsi (h : X.K = K) : CallR X (.builtin "isinstance") (rIsi K) := h ▸ call_isi
theorem cSorted (h : X.K = K) : CallR X (.builtin "sorted") (rSortedI K) := h ▸ cr_sortedI
theorem oIn (h : X.K = K) : OpR X (compareOp .In) (rIn K false) := h ▸ op_in_seq
theorem oNotIn (h : X.K = K) : OpR X (compareOp .NotIn) (rIn K true) := h ▸ op_notIn_seq
theorem oEqD (h : X.K = K) (hu : X.A.units + 64 < cLine) : OpR X (compareOp .Eq) (rEqD K) := h ▸ op_eqD hu
theorem oNeD (h : X.K = K) (hu : X.A.units + 64 < cLine) : OpR X (compareOp .NotEq) (rNeD K) := h ▸ op_neD hu
theorem eFld (h : X.K = K) {e : Expr} {f : Str} {pos : Pos} {ta : TE} (he : PE X e ta) (hb : attributeBase e f X.env (eval e X.env) = eval e X.env := by rfl) : PE X (.Attribute e f pos) (tFld K ta f) := h ▸ pe_fld he hb
theorem tTruth (h : X.K = K) {a : Expr} {ta : TE} (ha : PE X a ta) (he : ∀ whole, isTrue a X.env whole = (do let v ← whole; standAt a.pos; holding [v] (truthy v)) := by intro _; rfl) : PT X a (tTr K ta) := h ▸ pt_truth ha he
theorem iLst (h : X.K = K) {tg l : Expr} {tl : TE} (hl : PE X l tl) : PI X tg l (iList K tl) := h ▸ pi_list hl
theorem iTpl (h : X.K = K) {tg l : Expr} {tl : TE} (hl : PE X l tl) : PI X tg l (iTup K tl) := h ▸ pi_tup hl
theorem iEnu (h : X.K = K) {e : Expr} {ta : TA} {p pos tpos : Pos} {elts : List Expr} {kk : Nat} (hg : Gl X "enumerate") (hm : X.mg "enumerate" = none) (ha : PA X [e] ta) (hs : starEach [e] X.env = [(false, eval e X.env)] := by rfl) :
    PI X (.Tuple elts kk tpos) (.Call (.Name "enumerate" p) [e] [] pos) (iEnum K ta) := h ▸ pi_enum hg hm ha hs
theorem iRvs (h : X.K = K) {tg e : Expr} {ta : TA} {p pos : Pos} (hg : Gl X "reversed") (hm : X.mg "reversed" = none) (ha : PA X [e] ta) (hs : starEach [e] X.env = [(false, eval e X.env)] := by rfl) :
    PI X tg (.Call (.Name "reversed" p) [e] [] pos) (iRev K ta) := h ▸ pi_reversed hg hm ha hs
theorem iZp (h : X.K = K) {e e2 : Expr} {ta : TA} {p pos tpos : Pos} {elts : List Expr} {kk : Nat} (hg : Gl X "zip") (hm : X.mg "zip" = none) (ha : PA X [e, e2] ta)
    (hs : starEach [e, e2] X.env = (false, eval e X.env) :: starEach [e2] X.env := by rfl) (hpl : (backTo pos (starEach [e2] X.env)).any (·.1) = false := by rfl) : PI X (.Tuple elts kk tpos) (.Call (.Name "zip" p) [e, e2] [] pos) (iZip K ta) := h ▸ pi_zip hg hm ha hs hpl
theorem sFd (h : X.K = K) {o value : Expr} {f : Str} {pos pos' : Pos} {ta tv : TE} (ha : PE X o ta) (hv : PE X value tv) (hs : swapsWith value (some (.Attribute o f pos')) pos.line X.env = pure false) : PS X (.Assign [.Attribute o f pos'] value pos) (sFld K ta tv f) := h ▸ ps_fld ha hv hs
theorem sFdAug (h : X.K = K) {o value : Expr} {f : Str} {pos tpos : Pos} {ta tv : TE} {op : Operator} {rd : V → V → Hp → VK → Prop} (hop : InOp X op rd) (ha : PE X o ta) (hv : PE X value tv) : PS X (.AugAssign (.Attribute o f tpos) op value pos) (sFldAug K ta tv rd f) := h ▸ ps_fldaug ha hv hop
theorem eBm (h : X.K = K) {T id : String} {name : Str} {o e : Expr} {es : List Expr} {to : TE} {t : TA} {r : V → List V → Hp → VK → Prop} {apos cpos : Pos} (pa : PlainAttrs T) (slot : Slot T name id) (hty : typeOf (.builtin id) = pure (.type "method_descriptor")) (hm : MtR X id r) (ho : PE X o to) (ha : PA X (e :: es) t)
    (hbase : attributeBase o name X.env (eval o X.env) = eval o X.env := by rfl)
    (hfew : ((backTo cpos (starEach (e :: es) X.env)).all (fun x => !x.1) && (backToKw cpos (keywordEach [] X.env)).all (fun x => x.1.isSome) && decide ((e :: es).length + ([] : List Keyword).length + (if ([] : List Keyword).isEmpty then 0 else 1) < 30)) = true := by rfl)
    (hline : (apos.endLine == cpos.line) = true := by rfl) (hs : starEach (e :: es) X.env = (false, eval e X.env) :: starEach es X.env := by rfl) (hplain : (backTo cpos (starEach es X.env)).any (·.1) = false := by rfl) :
    PE X (.Call (.Attribute o name apos) (e :: es) [] cpos) (tBM K T r to t) := h ▸ pe_bm pa slot hty hm ho ha hbase hfew hline hs hplain
theorem eBm0 (h : X.K = K) {T id : String} {name : Str} {o : Expr} {to : TE} {r : V → List V → Hp → VK → Prop} {apos cpos : Pos} (pa : PlainAttrs T) (slot : Slot T name id) (hty : typeOf (.builtin id) = pure (.type "method_descriptor")) (hm : MtR X id r) (ho : PE X o to)
    (hbase : attributeBase o name X.env (eval o X.env) = eval o X.env := by rfl) (hline : (apos.endLine == cpos.line) = true := by rfl) : PE X (.Call (.Attribute o name apos) [] [] cpos) (tBM0 K T r to) := h ▸ pe_bm0 pa slot hty hm ho hbase hline
end

/-! ### readings that leave the heap as it is -/
def ValA (ta : TA) (σ : L2.St) (H : Hp) (vs : List V) : Prop := ∀ Q : List V → Hp → Prop, Q vs H → ta σ H Q
section
variable {K : PySem.W.Frag} {σ : L2.St} {H : Hp} {ta tb te : TE} {x y v : V} {p : Addr} {xs : List V}
theorem va_nil : ValA tNil σ H [] := fun _ q => q
theorem va_cons {tr : TA} {vs : List V} (h : Val ta σ H x) (hr : ValA tr σ H vs) : ValA (tCons ta tr) σ H (x :: vs) := fun _ q => h _ (hr _ q)
theorem va_one (h : Val ta σ H x) : ValA (tCons ta tNil) σ H [x] := va_cons h va_nil
theorem va_two (h : Val ta σ H x) (h' : Val tb σ H y) : ValA (tCons ta (tCons tb tNil)) σ H [x, y] := va_cons h (va_one h')
theorem val_cb {r : List V → Hp → VK → Prop} {tl : TA} {vs : List V} (h : ValA tl σ H vs) (hr : ∀ Q : VK, Q v H → r vs H Q) : Val (tCB r tl) σ H v := fun Q q => h _ (hr Q q)
theorem val_isi {t n : String} {b : Bool} (h : Val ta σ H x) (ty : TyX K H x (.type t)) (e : kitB t n = some b) : Val (tCB (rIsi K) (tCons ta (tCons (tC (.ty n)) tNil))) σ H (.bl b) :=
  val_cb (va_two h val_c) fun _ q => ⟨x, .ty n, .type t, .type n, b, rfl, .ty n, ty, kit_ty e, q⟩
theorem val_lenL (h : Val ta σ H (.ref p)) (hs : SqL K H p xs) : Val (tCB (rLn K) (tCons ta tNil)) σ H (.int (xs.length : Int)) :=
  val_cb (va_one h) fun _ q => ⟨p, xs, rfl, .inl hs, q⟩
theorem val_lenT (h : Val ta σ H (.ref p)) (hs : SqT K H p xs) : Val (tCB (rLn K) (tCons ta tNil)) σ H (.int (xs.length : Int)) :=
  val_cb (va_one h) fun _ q => ⟨p, xs, rfl, .inr hs, q⟩
theorem val_ixL {i : Int} (h : Val ta σ H (.ref p)) (hi : Val tb σ H (.int i)) (hs : SqL K H p xs) (e : atI xs i = some v) : Val (tOp (rIxL K) ta tb) σ H v := val_op h hi fun _ q => ⟨p, xs, i, v, rfl, rfl, hs, e, q⟩
theorem val_ixT {i : Int} (h : Val ta σ H (.ref p)) (hi : Val tb σ H (.int i)) (hs : SqT K H p xs) (e : atI xs i = some v) : Val (tOp (rIxT K) ta tb) σ H v := val_op h hi fun _ q => ⟨p, xs, i, v, rfl, rfl, hs, e, q⟩
theorem val_ixSL {i : Int} (h : Val ta σ H (.ref p)) (hi : Val tb σ H (.int i)) (hs : SqL K H p xs) (e : atI xs i = some v) : Val (tOp (rIx K) ta tb) σ H v := val_op h hi fun _ q => .inl ⟨p, xs, i, v, rfl, rfl, hs, e, q⟩
theorem val_ixST {i : Int} (h : Val ta σ H (.ref p)) (hi : Val tb σ H (.int i)) (hs : SqT K H p xs) (e : atI xs i = some v) : Val (tOp (rIx K) ta tb) σ H v := val_op h hi fun _ q => .inr (.inl ⟨p, xs, i, v, rfl, rfl, hs, e, q⟩)
theorem val_I {g : Int → Int → V} {i j : Int} (h : Val ta σ H (.int i)) (h' : Val tb σ H (.int j)) : Val (tOp (rI0 g) ta tb) σ H (g i j) := val_op h h' fun _ q => ⟨i, j, rfl, rfl, q⟩
theorem val_IC {C : Int → Int → Prop} {g : Int → Int → V} {i j : Int} (h : Val ta σ H (.int i)) (h' : Val tb σ H (.int j)) (c : C i j) : Val (tOp (rI C g) ta tb) σ H (g i j) := val_op h h' fun _ q => ⟨i, j, rfl, rfl, c, q⟩
theorem val_eq (h : Val ta σ H x) (h' : Val tb σ H y) (s : scal x y = true) : Val (tOp rEq ta tb) σ H (.bl (decide (x = y))) := val_op h h' fun _ q => ⟨s, q⟩
theorem val_ne (h : Val ta σ H x) (h' : Val tb σ H y) (s : scal x y = true) : Val (tOp rNe ta tb) σ H (.bl (!decide (x = y))) := val_op h h' fun _ q => ⟨s, q⟩
theorem val_is {w : V} (h : Val ta σ H v) (e : v = w) : Val ta σ H w := e ▸ h
theorem val_and {a b : Bool} (h : Val ta σ H (.bl a)) (h' : a = true → Val tb σ H (.bl b)) : Val (tAndV ta tb) σ H (.bl (a && b)) := fun Q q => h _ ⟨a, rfl, by
  cases a with
  | true => exact iteT (h' rfl Q q)
  | false => exact iteF q⟩
theorem val_or {a b : Bool} (h : Val ta σ H (.bl a)) (h' : a = false → Val tb σ H (.bl b)) : Val (tOrV ta tb) σ H (.bl (a || b)) := fun Q q => h _ ⟨a, rfl, by
  cases a with
  | true => exact iteT q
  | false => exact iteF (h' rfl Q q)⟩
theorem val_not {a : Bool} (h : Val ta σ H (.bl a)) : Val (tNotV ta) σ H (.bl (!a)) := fun Q q => h _ ⟨a, rfl, q⟩
theorem val_if {t : TT} {b : Bool} (h : Ans t σ H b) (h1 : b = true → Val ta σ H v) (h2 : b = false → Val tb σ H v) : Val (tIf t ta tb) σ H v := fun Q q => h _ (by
  cases b with
  | true => exact iteT (h1 rfl Q q)
  | false => exact iteF (h2 rfl Q q))
theorem val_isN (h : Val ta σ H x) : Val (tOp rIsN ta (tC .non)) σ H (.bl (decide (x = .non))) := val_op h val_c fun _ q => ⟨rfl, q⟩
theorem ans_is {t : TT} {a b : Bool} (h : Ans t σ H a) (e : a = b) : Ans t σ H b := e ▸ h
theorem ans_v {b : Bool} (h : Val te σ H (.bl b)) : Ans (tTest te) σ H b := fun _ q => h _ ⟨b, rfl, q⟩
theorem ans_or2 {t u : TT} {a b : Bool} (h : Ans t σ H a) (h' : a = false → Ans u σ H b) : Ans (tOr t u) σ H (a || b) := by
  cases a with
  | true => exact ans_or1 h
  | false => exact ans_or h (h' rfl)
theorem ans_and3 {t u : TT} {a b : Bool} (h : Ans t σ H a) (h' : a = true → Ans u σ H b) : Ans (tAnd t u) σ H (a && b) := by
  cases a with
  | true => exact ans_and h (h' rfl)
  | false => exact ans_and0 h
/-- a call whose promise leaves the heap -/
theorem val_call {sp : Sp} {dvs vs : List V} {E : XK} {tl : TA} (h : ValA tl σ H vs) (hs : ∀ Q : VK, Q v H → sp (vs ++ dvs) H Q E) : Val (tCall sp dvs E tl) σ H v := fun Q q => h _ (hs Q q)
theorem val_ev (h : Val te σ H v) : ∀ Q : VK, Q v H → te σ H Q := h
/-- x in a written pair of ints -/
theorem val_chain {tc : TE} {g g' : Int → Int → Bool} {a b c : Int} (h1 : Val ta σ H (.int a)) (h2 : Val tb σ H (.int b)) (h3 : Val tc σ H (.int c)) : Val (tChain (rI0 fun i j => .bl (g i j)) (rI0 fun i j => .bl (g' i j)) ta tb tc) σ H (.bl (g a b && g' b c)) := fun Q q => by
  refine h1 _ (h2 _ ⟨a, b, rfl, rfl, g a b, rfl, ?_⟩)
  cases e : g a b with
  | true => exact iteT (h3 _ ⟨b, c, rfl, rfl, by rw [e] at q; exact q⟩)
  | false => exact iteF (by rw [e] at q; exact q)
theorem go_asg {D : Ends} {g : TG} (h : te σ H fun x H1 => g x σ H1 D.nx) : tAsg te g D σ H := h
theorem go_ret {D : Ends} (h : te σ H D.rt) : tRet te D σ H := h
theorem go_drop {D : Ends} (h : te σ H fun _ H1 => D.nx σ H1) : tDrop te D σ H := h
/-- raise C(e), C of one field -/
theorem st_raise1 {W : WX} {C : Addr} {f : Str} {y : V} (T : OexC K C) (hno : PySem.W.findIn K (.ref C) f = some none) (h : Val te σ H y) (q : ∀ d, H d = none → W (.ref C) (some d) σ (upd H d (.xd [(f, y)]))) :
    tMkO C (spX1 K C f) [] (tCons te tNil) σ H (fun cls d H' => W cls d σ H') := h _ (made1 (Q := fun cls d H' => W cls d σ H') T hno q)
theorem st_raise2 {W : WX} {C : Addr} {f g : Str} {y z : V} (T : OexC K C) (hf : PySem.W.findIn K (.ref C) f = some none) (hg : PySem.W.findIn K (.ref C) g = some none) (h : Val ta σ H y) (h' : Val tb σ H z) (q : ∀ d, H d = none → W (.ref C) (some d) σ (upd H d (.xd [(g, z), (f, y)]))) :
    tMkO C (spX2 K C f g) [] (tCons ta (tCons tb tNil)) σ H (fun cls d H' => W cls d σ H') := h _ (h' _ (made2 (Q := fun cls d H' => W cls d σ H') T hf hg q))
theorem val_un {r : V → Hp → VK → Prop} {z : V} (h : Val ta σ H x) (hr : ∀ Q : VK, Q z H → r x H Q) : Val (tUn r ta) σ H z := fun Q q => h _ (hr Q q)
theorem val_neg {i : Int} (h : Val ta σ H (.int i)) : Val (tUn (rU fun i => .int (-i)) ta) σ H (.int (-i)) := val_un h fun _ q => ⟨i, rfl, q⟩
theorem st_app {D : Ends} {l : Addr} (hl : H l = some (.lst xs)) (ha : Val ta σ H (.ref l)) (h : Val te σ H v) (hz : xs.length < sizeLine) (k : D.nx σ (upd H l (.lst (xs ++ [v])))) : tDrop (tBM K "list" rAppend ta (tCons te tNil)) D σ H :=
  ha _ ⟨Or.inl ⟨rfl, xs, Evl.sq_of hl⟩, h _ ⟨l, xs, v, rfl, rfl, hl, hz, k⟩⟩
theorem st_if {c : TT} {t u : TS} {D : Ends} {b : Bool} (h : Ans c σ H b) (h1 : b = true → t D σ H) (h2 : b = false → u D σ H) : tIfS c t u D σ H := by
  cases b with
  | true => exact st_yes h (h1 rfl)
  | false => exact st_no h (h2 rfl)
theorem st_forR {D : Ends} {tl : TA} {t : TS} {j n : Nat} (h : ValA tl σ H [.int (n : Int)]) (hn : n < 2 ^ 62) (Pv : Nat → L2.St → Hp → Prop) (h0 : Pv 0 σ H)
    (hs : ∀ i σ' H', i < n → Pv i σ' H' → t { D with nx := Pv (i + 1), ct := Pv (i + 1), bk := D.nx } (σ'.set j (some (.int (i : Int)))) H') (hd : ∀ σ' H', Pv n σ' H' → D.nx σ' H') : tFor (iRng1 tl) (gName j) t D σ H :=
  h _ ⟨(n : Int), rfl, by omega, by omega, for_range (lo := 0) (n := n) Pv h0 (fun i σ' H' hi p => by
    show t _ (σ'.set j (some (.int (0 + (i : Int))))) H'
    rw [Int.zero_add]
    exact hs i σ' H' hi p) hd⟩
theorem st_forL {D : Ends} {tl : TE} {t : TS} {j : Nat} (h : Val tl σ H (.ref p)) (hx : SqL K H p xs) (Pv : Nat → L2.St → Hp → Prop) (h0 : Pv 0 σ H) (hl : ∀ i σ' H', i ≤ xs.length → Pv i σ' H' → SqL K H' p xs)
    (hs : ∀ i x σ' H', xs[i]? = some x → Pv i σ' H' → t { D with nx := Pv (i + 1), ct := Pv (i + 1), bk := D.nx } (σ'.set j (some x)) H') (hd : ∀ σ' H', Pv xs.length σ' H' → D.nx σ' H') : tFor (iList K tl) (gName j) t D σ H :=
  h _ ⟨p, rfl, ⟨xs, hx⟩, for_list Pv h0 hl hs hd⟩
end

/-! ### readings that may make new things -/
section
open Evl
variable {K : PySem.W.Frag} {σ : L2.St} {H : Hp} {ta tb te : TE} {x y v : V} {p : Addr} {xs ys : List V}
theorem ev_val (h : ∀ H1, Ex H H1 → Val te σ H1 v) : Ev te σ H v := fun H1 e Q q => h H1 e Q (q H1 (Ex.refl _))
theorem et_ans {t : TT} {b : Bool} (h : ∀ H1, Ex H H1 → Ans t σ H1 b) : EvT t σ H b := fun H1 e Q q => h H1 e Q (q H1 (Ex.refl _))
theorem ev_meth {C a : Addr} {m : Str} {sp : Sp} {dvs vs : List V} {E : XK} {tl : TA} {dx : Addr} {fs : List (Str × V)} (h : Ev ta σ H (.ref a)) (ho : H a = some (.ins C dx fs)) (hn : fs.lookup m = none) (hv : EvA tl σ H vs)
    (hs : SpV sp (.ref a :: (vs ++ dvs)) H v) : Ev (tMeth C m sp dvs E ta tl) σ H v := fun H1 e Q q => h H1 e _ fun H2 e2 => ⟨a, dx, fs, rfl, e2 _ _ (e _ _ ho), hn, hv H2 (e.trans e2) _ fun H3 e3 => hs H3 ((e.trans e2).trans e3) Q (fun H4 e4 => q H4 ((e2.trans e3).trans e4)) E⟩
theorem el_meth {C a : Addr} {m : Str} {sp : Sp} {dvs vs : List V} {E : XK} {tl : TA} {dx : Addr} {fs : List (Str × V)} (h : Ev ta σ H (.ref a)) (ho : H a = some (.ins C dx fs)) (hn : fs.lookup m = none) (hv : EvA tl σ H vs)
    (hs : SpL sp (.ref a :: (vs ++ dvs)) H xs) : EvL (tMeth C m sp dvs E ta tl) σ H xs := fun H1 e Q q => h H1 e _ fun H2 e2 => ⟨a, dx, fs, rfl, e2 _ _ (e _ _ ho), hn, hv H2 (e.trans e2) _ fun H3 e3 => hs H3 ((e.trans e2).trans e3) Q (fun p H4 hp e4 h4 => q p H4 (fresh_back (e2.trans e3) hp) ((e2.trans e3).trans e4) h4) E⟩
/-- a call one of whose arguments is a new list: the value by what the list holds -/
theorem ev_callL {sp : Sp} {dvs : List V} {E : XK} {tr : TA} {vs : List V} (h : EvL te σ H xs) (hr : EvA tr σ H vs) (hs : ∀ p H1, H1 p = some (.lst xs) → Ex H H1 → SpV sp (.ref p :: (vs ++ dvs)) H1 v) : Ev (tCall sp dvs E (tCons te tr)) σ H v := fun H1 e Q q =>
  h H1 e _ fun p H2 _ e2 h2 => hr H2 (e.trans e2) _ fun H3 e3 => hs p H3 (e3 _ _ h2) ((e.trans e2).trans e3) H3 (Ex.refl _) Q (fun H4 e4 => q H4 ((e2.trans e3).trans e4)) E
/-- a built-in of a new list -/
theorem ev_cbL {r : List V → Hp → VK → Prop} (h : EvL te σ H xs) (hs : ∀ p H1, H1 p = some (.lst xs) → Ex H H1 → RC r [.ref p] H1 v) : Ev (tCB r (tCons te tNil)) σ H v := fun H1 e Q q =>
  h H1 e _ fun p H2 _ e2 h2 => hs p H2 h2 (e.trans e2) H2 (Ex.refl _) Q (fun H3 e3 => q H3 (e2.trans e3))
theorem rc_of {r : List V → Hp → VK → Prop} {vs : List V} (h : ∀ H1, Ex H H1 → ∀ Q : VK, Q v H1 → r vs H1 Q) : RC r vs H v := fun H1 e Q q => h H1 e Q (q H1 (Ex.refl _))
theorem ev_sum {ns : List Int} (h : EvL te σ H (ns.map V.int)) : Ev (tCB (rSum K) (tCons te tNil)) σ H (.int ns.sum) := ev_cbL h fun p H1 h1 _ => rc_of fun H2 e _ q => ⟨p, ns, rfl, ex_l e (sq_of h1), q⟩
theorem ev_sumV {ns : List Int} (h : Ev te σ H (.ref p)) (hs : SqL K H p (ns.map V.int)) : Ev (tCB (rSum K) (tCons te tNil)) σ H (.int ns.sum) := fun H1 e Q q =>
  h H1 e _ fun H2 e2 => ⟨p, ns, rfl, ex_l (e.trans e2) hs, q H2 e2⟩
theorem ev_lenV (h : Ev te σ H (.ref p)) (hs : SqL K H p xs) : Ev (tCB (rLn K) (tCons te tNil)) σ H (.int (xs.length : Int)) := fun H1 e Q q =>
  h H1 e _ fun H2 e2 => ⟨p, xs, rfl, .inl (ex_l (e.trans e2) hs), q H2 e2⟩
theorem ev_fld {C dx a : Addr} {fs : List (Str × V)} {f : Str} (h : Ev ta σ H (.ref a)) (ho : H a = some (.ins C dx fs)) (hc : Cls K C) (hn : NoAttr K C f) (hl : fs.lookup f = some v) : Ev (tFld K ta f) σ H v := fun H1 e Q q =>
  h H1 e _ fun H2 e2 => ⟨a, C, dx, fs, v, rfl, e2 _ _ (e _ _ ho), hc, hn, hl, q H2 e2⟩
/-- xs + ys, both new -/
theorem el_cat (h : EvL ta σ H xs) (h' : EvL tb σ H ys) (hz : xs.length + ys.length ≤ 100000) : EvL (tOp rCat ta tb) σ H (xs ++ ys) := fun H1 e Q q =>
  h H1 e _ fun p H2 _ e2 h2 => h' H2 (e.trans e2) _ fun r H3 _ e3 h3 => ⟨p, r, xs, ys, rfl, rfl, e3 _ _ h2, h3, sz_of hz, fun u hu => q u _ (fresh_back (e2.trans e3) hu) ((e2.trans e3).trans (Ex.new hu)) upd_same⟩
theorem el_lst0 : EvL (tLst tNil) σ H [] := el_lst ea_nil (by decide)
/-- an item of a new list -/
theorem ev_ixN {i : Int} (h : EvL ta σ H xs) (hi : ∀ H1, Ex H H1 → Ev tb σ H1 (.int i)) (e : atI xs i = some v) : Ev (tOp (rIxL K) ta tb) σ H v := ev_opL1 h hi fun p H1 h1 _ => rv_ixL (sq_of h1) e
end

/-! ### slices -/
theorem cut_to {xs : List V} {j : Nat} (h : j ≤ xs.length) : cutV xs none (some (j : Int)) = xs.take j := by
  show (xs.drop (HT.sIx xs.length 0 none)).take (HT.sIx xs.length xs.length (some (j : Int)) - HT.sIx xs.length 0 none) = _
  rw [HT.sIx_none, HT.sIx_nat, Nat.min_eq_left h]
  rfl
theorem cut_from {xs : List V} {j : Nat} (h : j ≤ xs.length) : cutV xs (some (j : Int)) none = xs.drop j := by
  show (xs.drop (HT.sIx xs.length 0 (some (j : Int)))).take (HT.sIx xs.length xs.length none - HT.sIx xs.length 0 (some (j : Int))) = _
  rw [HT.sIx_none, HT.sIx_nat, Nat.min_eq_left h]
  exact List.take_of_length_le (by rw [List.length_drop]; omega)
theorem cut_in {xs : List V} {i j : Nat} (hi : i ≤ xs.length) (h : j ≤ xs.length) : cutV xs (some (i : Int)) (some (j : Int)) = (xs.drop i).take (j - i) := by
  show (xs.drop (HT.sIx xs.length 0 (some (i : Int)))).take (HT.sIx xs.length xs.length (some (j : Int)) - HT.sIx xs.length 0 (some (i : Int))) = _
  rw [HT.sIx_nat, HT.sIx_nat, Nat.min_eq_left h, Nat.min_eq_left hi]
/-! ### a op1 b op2 c op3 d -/
section
open PyProof PyProof.Rows
variable {X : Cx} {a b c d : Expr} {pos : Pos} {ta tb tc td : TE}
def tChain3 (r r' r2 : R2) (ta tb tc td : TE) : TE := fun σ H Q => ta σ H fun x H1 => tb σ H1 fun y H2 => r x y H2 fun z H3 => ∃ k, z = .bl k ∧
  (if k = true then tc σ H3 fun w' H4 => r' y w' H4 fun z2 H5 => ∃ k2, z2 = .bl k2 ∧ (if k2 = true then td σ H5 fun u H6 => r2 w' u H6 Q else Q (.bl false) H5) else Q (.bl false) H3)
theorem pt_chain3 {op op' op2 : CmpOp} {r r' r2 : R2} (ho : OpR X (compareOp op) r) (ho' : OpR X (compareOp op') r') (ho2 : OpR X (compareOp op2) r2) (ha : PE X a ta) (hb : PE X b tb) (hc : PE X c tc) (hd : PE X d td)
    (hm : lastMarks [op, op', op2] [b, c, d] = false := by with_unfolding_all rfl) : PT X (.Compare a [op, op', op2] [b, c, d] pos) (tTest (tChain3 r r' r2 ta tb tc td)) := by
  refine ⟨fun pins s σ H Q I h => ?_⟩
  refine isTrue_chain (thn (ha.run pins s σ H _ I h) fun v s1 ⟨x, H1, I1, r1, q1⟩ => test_link (thn (hb.run pins s1 σ H1 _ I1 q1) fun u s2 ⟨y, H2, I2, r2, q2⟩ =>
    thn (ho pins s2 σ H2 x y v u _ I2 r1 r2 q2) fun d s3 ⟨z, H3, I3, r3, k, e, q3⟩ => ?_)) hm
  subst e
  cases r3
  refine wpAny_truthy_bool ?_
  cases k with
  | false =>
    obtain ⟨k', e', q'⟩ := q3
    cases e'
    exact ite_ff ⟨H3, I3, q'⟩
  | true =>
    refine ite_tt (test_link (thn (hc.run pins s3 σ H3 _ I3 q3) fun w' s4 ⟨z', H4, I4, r4, q4⟩ => thn (ho' pins s4 σ H4 y z' u w' _ I4 r2 r4 q4) fun d' s5 ⟨z2, H5, I5, r5, k2, e2, q5⟩ => ?_))
    subst e2
    cases r5
    refine wpAny_truthy_bool ?_
    cases k2 with
    | false =>
      obtain ⟨k', e', q'⟩ := q5
      cases e'
      exact ite_ff ⟨H5, I5, q'⟩
    | true =>
      refine ite_tt (test_last (thn (hd.run pins s5 σ H5 _ I5 q5) fun w2 s6 ⟨z3, H6, I6, r6, q6⟩ => thn (ho2 pins s6 σ H6 z' z3 w' w2 _ I6 r4 r6 q6) fun d2 s7 ⟨z4, H7, I7, r7, k3, e3, q7⟩ => ?_))
      subst e3
      cases r7
      exact wpAny_truthy_bool ⟨H7, I7, q7⟩
theorem val_chain3 {σ : L2.St} {H : Hp} {g g' g2 : Int → Int → Bool} {a b c d : Int} (h1 : Val ta σ H (.int a)) (h2 : Val tb σ H (.int b)) (h3 : Val tc σ H (.int c)) (h4 : Val td σ H (.int d)) :
    Val (tChain3 (rI0 fun i j => .bl (g i j)) (rI0 fun i j => .bl (g' i j)) (rI0 fun i j => .bl (g2 i j)) ta tb tc td) σ H (.bl (g a b && (g' b c && g2 c d))) := fun Q q => by
  refine h1 _ (h2 _ ⟨a, b, rfl, rfl, g a b, rfl, ?_⟩)
  cases e : g a b with
  | true =>
    refine iteT (h3 _ ⟨b, c, rfl, rfl, g' b c, rfl, ?_⟩)
    cases e2 : g' b c with
    | true => exact iteT (h4 _ ⟨c, d, rfl, rfl, by rw [e, e2] at q; exact q⟩)
    | false => exact iteF (by rw [e, e2] at q; exact q)
  | false => exact iteF (by rw [e] at q; exact q)
end

/-! ### a dict of ints under ints -/
def tk (ks : List Int) (c : Int → Int) : List (Key × V) := ks.map fun s => ((Sum.inl s : Key), V.int (c s))
theorem tk_keys (ks : List Int) (c : Int → Int) : (tk ks c).map (·.1) = ks.map Sum.inl := by
  unfold tk
  rw [List.map_map] <;> rfl
theorem tk_len (ks : List Int) (c : Int → Int) : (tk ks c).length = ks.length := by unfold tk; rw [List.length_map]
theorem tk_val (ks : List Int) (c : Int → Int) (u : Int) : valV (tk ks c) (.inl u) = if u ∈ ks then some (.int (c u)) else none := by
  induction ks with
  | nil => rfl
  | cons s r ih =>
    unfold tk valV at ih ⊢
    rw [List.map_cons, List.find?_cons]
    by_cases h : s = u
    · subst h
      rw [decide_eq_true rfl, if_pos (List.mem_cons_self ..)]
      rfl
    · rw [decide_eq_false (fun q => h (Sum.inl.inj q))]
      show Option.map _ (List.find? _ (List.map _ r)) = _
      rw [ih]
      by_cases h2 : u ∈ r
      · rw [if_pos h2, if_pos (List.mem_cons_of_mem _ h2)]
      · rw [if_neg h2, if_neg (fun q => by
          rcases List.mem_cons.mp q with q | q
          · exact h q.symm
          · exact h2 q)]
theorem tk_congr {ks : List Int} {c c' : Int → Int} (h : ∀ s ∈ ks, c s = c' s) : tk ks c = tk ks c' := List.map_congr_left fun s hs => by rw [h s hs]
theorem tk_put {ks : List Int} {c c' : Int → Int} {u y : Int} (hy : c' u = y) (h : ∀ s, s ≠ u → c s = c' s) : putK (tk ks c) (.inl u) (.int y) = tk (if u ∈ ks then ks else ks ++ [u]) c' := by
  by_cases hu : u ∈ ks
  · rw [if_pos hu]
    unfold putK
    rw [valV_any, tk_val, if_pos hu, if_pos (show (some (V.int (c u))).isSome = true from rfl)]
    unfold tk
    rw [List.map_map]
    refine List.map_congr_left fun s _ => ?_
    show (if (Sum.inl s : Key) = Sum.inl u then ((Sum.inl s : Key), V.int y) else (Sum.inl s, V.int (c s))) = _
    by_cases e : s = u
    · subst e
      rw [if_pos rfl, hy]
    · rw [if_neg (fun q => e (Sum.inl.inj q)), h s e]
  · rw [if_neg hu, putK_new _ (by rw [tk_val, if_neg hu])]
    unfold tk
    rw [List.map_append, List.map_cons, List.map_nil, hy]
    congr 1
    refine List.map_congr_left fun s hs => ?_
    rw [h s (fun e => hu (e ▸ hs))]

/-! ### rows of different ints -/
theorem nodup_le : ∀ {l m : List Int}, l.Nodup → (∀ x ∈ l, x ∈ m) → l.length ≤ m.length
  | [], _, _, _ => Nat.zero_le _
  | x :: r, m, h, hs => by
    have hx := hs x (List.mem_cons_self ..)
    have h1 := List.nodup_cons.mp h
    have := nodup_le (l := r) (m := m.erase x) h1.2 fun y hy => (List.mem_erase_of_ne (fun e : y = x => h1.1 (by rw [← e]; exact hy))).mpr (hs y (List.mem_cons_of_mem _ hy))
    rw [List.length_erase_of_mem hx] at this
    have := List.length_pos_of_mem hx
    rw [List.length_cons]
    omega
theorem asc_eq : ∀ {l m : List Int}, l.Pairwise (· < ·) → m.Pairwise (· < ·) → (∀ x, x ∈ l ↔ x ∈ m) → l = m
  | [], [], _, _, _ => rfl
  | [], y :: m, _, _, h => absurd ((h y).mpr (List.mem_cons_self ..)) (by simp)
  | x :: l, [], _, _, h => absurd ((h x).mp (List.mem_cons_self ..)) (by simp)
  | x :: l, y :: m, hl, hm, h => by
    obtain ⟨hl1, hl2⟩ := List.pairwise_cons.mp hl
    obtain ⟨hm1, hm2⟩ := List.pairwise_cons.mp hm
    have e : x = y := by
      rcases List.mem_cons.mp ((h x).mp (List.mem_cons_self ..)) with e | e
      · exact e
      · rcases List.mem_cons.mp ((h y).mpr (List.mem_cons_self ..)) with e' | e'
        · exact e'.symm
        · have := hm1 x e
          have := hl1 y e'
          omega
    subst e
    rw [asc_eq hl2 hm2 fun z => ⟨fun hz => ?_, fun hz => ?_⟩]
    · rcases List.mem_cons.mp ((h z).mp (List.mem_cons_of_mem _ hz)) with e | e
      · have := hl1 z hz
        omega
      · exact e
    · rcases List.mem_cons.mp ((h z).mpr (List.mem_cons_of_mem _ hz)) with e | e
      · have := hm1 z hz
        omega
      · exact e
theorem asc_of {l : List Int} (h : l.Pairwise (· ≤ ·)) (n : l.Nodup) : l.Pairwise (· < ·) := by
  induction l with
  | nil => exact .nil
  | cons x r ih =>
    obtain ⟨h1, h2⟩ := List.pairwise_cons.mp h
    obtain ⟨n1, n2⟩ := List.nodup_cons.mp n
    refine List.pairwise_cons.mpr ⟨fun y hy => ?_, ih h2 n2⟩
    have := h1 y hy
    have : x ≠ y := fun e => n1 (e ▸ hy)
    omega
theorem asc_nodup {l : List Int} (h : l.Pairwise (· < ·)) : l.Nodup := h.imp fun {a b} q e => by omega
/-- how often the items of ks stand in l, all in all -/
theorem counts_sum : ∀ (l ks : List Int), ks.Nodup → (∀ x ∈ l, x ∈ ks) → (ks.map fun s => ((l.count s : Nat) : Int)).sum = (l.length : Int)
  | [], ks, _, _ => by
    have : (ks.map fun s => (((([] : List Int).count s : Nat)) : Int)) = ks.map fun _ => (0 : Int) := List.map_congr_left fun s _ => by rw [List.count_nil]; rfl
    rw [this]
    clear this
    induction ks with
    | nil => rfl
    | cons s r ih => rw [List.map_cons, List.sum_cons]; simp_all
  | x :: l, ks, hn, h => by
    have ih := counts_sum l ks hn fun y hy => h y (List.mem_cons_of_mem _ hy)
    have hx := h x (List.mem_cons_self ..)
    have key : ∀ ks : List Int, ks.Nodup → (ks.map fun s => (((x :: l).count s : Nat) : Int)).sum = (ks.map fun s => ((l.count s : Nat) : Int)).sum + if x ∈ ks then 1 else 0 := by
      intro ks
      induction ks with
      | nil => intro _; rfl
      | cons s r ih =>
        intro hn
        obtain ⟨n1, n2⟩ := List.nodup_cons.mp hn
        rw [List.map_cons, List.sum_cons, List.map_cons, List.sum_cons, ih n2, List.count_cons]
        by_cases e : x = s
        · subst e
          rw [if_neg n1, if_pos (List.mem_cons_self ..), if_pos (by simp)]
          omega
        · have e1 : (x == s) = false := by simpa using e
          rw [e1]
          by_cases e2 : x ∈ r
          · rw [if_pos e2, if_pos (List.mem_cons_of_mem _ e2)]
            simp
            omega
          · have e3 : ¬ x ∈ s :: r := fun q => by
              rcases List.mem_cons.mp q with q | q
              · exact e q
              · exact e2 q
            rw [if_neg e2, if_neg e3, if_neg (by decide)]
            omega
    rw [key ks hn, ih, if_pos hx, List.length_cons]
    omega
/-! ### range(0, m, 2), range(0, m, 3) -/
theorem rgC_up {m c : Int} (hc : c = 2 ∨ c = 3) (hm : 0 ≤ m) (hm2 : m ≤ 40000) : ∃ n, RgC 0 m c n ∧ ∀ i : Nat, i < n → (i : Int) * c < m := by
  refine ⟨(Builtin.Range.rangeSize 0 m c).toNat, ⟨by omega, by omega, ?_, ?_⟩, fun i hi => ?_⟩
  · unfold Builtin.Range.small Builtin.Range.rangeSize
    simp only [Builtin.Range.rangeFitsLong, Bool.and_eq_true, Bool.or_eq_true, decide_eq_true_eq, beq_iff_eq]
    rcases hc with rfl | rfl <;> simp <;> split <;> omega
  · unfold Builtin.Range.rangeSize
    rcases hc with rfl | rfl <;> simp <;> split <;> omega
  · unfold Builtin.Range.rangeSize at hi
    rcases hc with rfl | rfl <;> simp at hi <;> split at hi <;> omega
theorem q_forR3 {ta : TA} {t : TS} {tz : TS} {D : Ends} {σ : L2.St} {H : Hp} {j : Nat} {m c : Int} (h : Evl.EvA ta σ H [.int 0, .int m, .int c]) (hc : c = 2 ∨ c = 3) (hm : 0 ≤ m ∧ m ≤ 40000) (Pv : Int → L2.St → Hp → Prop) (h0 : ∀ H1, Evl.Ex H H1 → Pv 0 σ H1)
    (hs : ∀ (i : Int) σ' H', 0 ≤ i → i < m → Pv i σ' H' → t { D with nx := Pv (i + c), ct := Pv (i + c), bk := tz D } (σ'.set j (some (.int i))) H') (hd : ∀ i σ' H', Pv i σ' H' → tz D σ' H') : tSeq (tFor (iRng3 ta) (gName j) t) tz D σ H :=
  h H (Evl.Ex.refl H) _ fun H1 e => by
    obtain ⟨n, hn, hb⟩ := rgC_up hc hm.1 hm.2
    refine ⟨0, m, c, n, rfl, hn, for_rangeC (D := { D with nx := tz D }) (fun i σ H => Pv ((i : Int) * c) σ H) (by have := h0 H1 e; rwa [show (((0 : Nat) : Int)) * c = 0 from by simp]) (fun i σ' H' hi p => ?_) (fun σ' H' p => hd _ σ' H' p)⟩
    have := hb i hi
    rw [Int.zero_add, show (((i + 1 : Nat)) : Int) * c = (i : Int) * c + c from by rw [Int.natCast_add, Int.add_mul]; simp]
    exact hs _ σ' H' (by rcases hc with rfl | rfl <;> omega) this p
/-- a suite asked only where the frame has its n slots -/
theorem ps_len {X : Cx} {st : List Stmt} {t : TS} {n : Nat} (hn : X.N.length = n) (h : PSs X st t) : PSs X st (fun D σ H => σ.length = n → t D σ H) := ⟨fun pins s σ H D I hw => h.run pins s σ H D I (hw (I.len.trans hn))⟩
/-! ### several except clauses, each with a name or without -/
abbrev Clause := Value × Option Nat × (Addr → Value → Option Addr → TS)
/-- behind a suite with a name the name's slot is empty -/
def emptied (D : Ends) : Option Nat → Ends
  | none => D
  | some i => { nx := fun τ G => D.nx (τ.set i none) G, rt := D.rt, bk := fun τ G => D.bk (τ.set i none) G, ct := fun τ G => D.ct (τ.set i none) G }
def named (τ : L2.St) (a : Addr) : Option Nat → L2.St
  | none => τ
  | some i => τ.set i (some (.ref a))
/-- what the clauses, one after the other, wish of what the body lets out -/
def wMix (K : PySem.W.Frag) (Wout : WX) (D : Ends) : List Clause → WX
  | [] => Wout
  | (c, o, ts) :: r => fun cls d τ G => ∃ b, PySem.W.exmOne K cls c = some b ∧ (b = true → ∀ a, G a = none → ts a cls d (emptied D o) (named τ a o) G) ∧ (b = false → wMix K Wout D r cls d τ G)
inductive Clauses (X : Cx) : List ExceptHandler → List Clause → Prop
  | nil : Clauses X [] []
  | bare {x : Str} {c : Value} {ts : Addr → Value → Option Addr → TS} {s0 : Stmt} {ss : List Stmt} {p1 p2 : Pos} {hds : List ExceptHandler} {l : List Clause} (hc : Names X x c)
      (hS : ∀ (a : Addr) (oe : Obj) (cls : Value) (d : Option Addr) (pn : List (Addr × Obj)), Zc cls d oe → (∃ vs, oe.data = .fields vs) → PSs (X.suite a ((a, oe) :: pn)) (s0 :: ss) (ts a cls d)) (r : Clauses X hds l) :
      Clauses X (.ExceptHandler (some (.Name x p1)) none (s0 :: ss) p2 :: hds) ((c, none, ts) :: l)
  | as {x n : Str} {i : Nat} {c : Value} {ts : Addr → Value → Option Addr → TS} {s0 : Stmt} {ss : List Stmt} {p1 p2 : Pos} {hds : List ExceptHandler} {l : List Clause} (hi : X.N[i]? = some n) (hk : X.env.kindOf n = some .local) (hc : Names X x c)
      (hS : ∀ (a : Addr) (oe : Obj) (cls : Value) (d : Option Addr) (pn : List (Addr × Obj)), Zc cls d oe → (∃ vs, oe.data = .fields vs) → PSs (X.suite a ((a, oe) :: pn)) (s0 :: ss) (ts a cls d)) (r : Clauses X hds l) :
      Clauses X (.ExceptHandler (some (.Name x p1)) (some n) (s0 :: ss) p2 :: hds) ((c, some i, ts) :: l)
section
variable {X : Cx} {body : List Stmt} {h₀ : ExceptHandler} {hds : List ExceptHandler} {l : List Clause} {pos : Pos} {tb : WX → TS} {Wout : WX}
theorem ps_try_mix (hs : X.stack = X.env :: X.outer) (hf : X.env.frame = some X.env.locals) (hN : X.N.Nodup) (tk : Takes X Wout)
    (hb : ∀ (W : WX) (pn : List (Addr × Obj)) (xe : Value → Shared → Prop), Takes (X.tr pn xe) W → PassesOwn (model X.prog X.w) X.A X.env xe → PSs (X.tr pn xe) body (tb W))
    (hh : Clauses X (h₀ :: hds) l) : PS X (.Try body (h₀ :: hds) [] [] pos) (fun D τ G => tb (wMix X.K Wout D l) D τ G) := by
  constructor
  intro pins s τ G D I h
  have okX := I.ok
  let caught : Value → Shared → Prop := fun e t1 => wpAny (model X.prog X.w) X.A (noteFrame e X.env) (fun _ t2 => wpAny (model X.prog X.w) X.A (setFlight e none) (fun _ t3 => wpAny (model X.prog X.w) X.A (handleBy e X.env (h₀ :: hds)) (SP X pins D) X.xe t3) X.xe t2) X.xe t1
  have back : ∀ (f : Flow) (t : Shared), SP (X.tr (X.pn ++ pins) caught) [] D f t → SP X pins D f t := by
    intro f t q
    cases f with
    | ret u =>
      obtain ⟨v, τ1, G1, J, rv, qq⟩ := q
      exact ⟨v, τ1, G1, J.ofTry okX, rv, qq⟩
    | next =>
      obtain ⟨τ1, G1, J, qq⟩ := q
      exact ⟨τ1, G1, J.ofTry okX, qq⟩
    | brk =>
      obtain ⟨τ1, G1, J, qq⟩ := q
      exact ⟨τ1, G1, J.ofTry okX, qq⟩
    | cont =>
      obtain ⟨τ1, G1, J, qq⟩ := q
      exact ⟨τ1, G1, J.ofTry okX, qq⟩
  refine wpAny_Try_except (wpAny_mono ((hb (wMix X.K Wout D l) (X.pn ++ pins) caught ?tk PassesOwn.looking).run [] s τ G D (I.toTry _) h) ?out fun _ _ he => he)
  case out =>
    intro f t q
    have q' := back f t q
    cases f with
    | next => exact wpAny_execs_nil q'
    | ret u => exact q'
    | brk => exact q'
    | cont => exact q'
  case tk =>
    rintro _ t ⟨a, B, sI, pins1, τ1, G1, cls, d, rfl, J0, nb, up, sky, na, os, ag, wish⟩
    have J := J0.ofTry okX
    rw [show (X.tr (X.pn ++ pins) caught).stack = X.env :: X.outer from hs] at sky
    show wpAny (model X.prog X.w) X.A (noteFrame (.ref a) X.env) _ _ _
    refine Sky.land Zc.steady (okX.frames.trans (congrArg some hs)) hf sky fun h3 fly up3 => ?_
    have J3 : Inv X pins τ1 G1 { t with heap := h3 } := J.landed nb fly.1 (up.trans up3) os ag
    obtain ⟨oe, vs, hget, hz, hdat⟩ := fly.there
    have off : a ∉ frs (X.env :: X.outer) := by
      intro hm
      obtain ⟨_, o1, g1, hne⟩ := fly.2.2.1.mem hm
      rw [hget] at g1
      cases g1
      exact hne _ hdat
    have offL : a ≠ X.env.locals := fun z => off (List.mem_filterMap.mpr ⟨X.env, List.mem_cons_self, by rw [hf, z]⟩)
    have offF : a ∉ X.fs := by
      intro hm
      obtain ⟨e, he, q⟩ := List.mem_filterMap.mp hm
      exact off (List.mem_filterMap.mpr ⟨e, List.mem_cons_of_mem _ he, q⟩)
    have Sus := J3.suite hget hdat na offL offF
    have kindIs : PySem.W.Looks (model X.prog X.w) h3 (typeOf (.ref a)) cls := fun _ _ _ _ look q => wpAny_typeOf_ref (look _ _ hget) (by rw [hz.1]; exact q)
    have reads : ∀ {x : Str} {c : Value} {p : Pos} {Q : Value → Shared → Prop} {E : Value → Shared → Prop}, Names X x c → Q c { t with heap := h3 } → wpAny (model X.prog X.w) (X.A.mark (some (.ref a))) (eval (.Name x p) X.env) Q E { t with heap := h3 } := by
      intro x c p Q E nm q
      obtain ⟨hg, hdbg, own | ⟨free, hv, hnn⟩⟩ := nm
      · exact ld_glob (X := X.suite a ((a, oe) :: (X.pn ++ pins))) Sus hg own q hdbg
      · exact ld_blt (X := X.suite a ((a, oe) :: (X.pn ++ pins))) Sus hg free hv q hnn hdbg
    have walk : ∀ (hs' : List ExceptHandler) (l' : List Clause), Clauses X hs' l' → wMix X.K Wout D l' cls d τ1 G1 → wpAny (model X.prog X.w) X.A (handleBy (.ref a) X.env hs') (SP X pins D) X.xe { t with heap := h3 } := by
      intro hs' l' hk
      induction hk with
      | nil =>
        intro wish
        refine wpAny_handleBy_nil ?_
        obtain ⟨_, _, _, oe', vs', T, _, _, g1, _, g2, g3, _⟩ := id fly
        have flies : wpAny (model X.prog X.w) X.A (setFlight (.ref a) X.env.frame) (fun _ t4 => wpAny (model X.prog X.w) X.A (throw (.ref a) : Sem Flow) (SP X pins D) X.xe t4) X.xe { t with heap := h3 } := by
          rw [hf]
          refine HandSPX.setFlight_upZ fly fun h4 held up4 => wpAny_throw (tk _ _ ⟨a, B, sI, pins, τ1, G1, cls, d, rfl, J, nb, (up.trans up3).trans up4, .inr (.inr ?_), na, os, ag, wish⟩)
          rw [hs]
          exact held
        unfold PySem.passOn
        refine wpAny_bind (wpAny_field g1 g2 g3 ?_)
        rw [if_neg (show ¬ ((Value.ref T == Value.none) = true) by simp)]
        first
          | exact wpAny_bind flies
          | exact wpAny_bind (wpAny_pure (wpAny_bind flies))
      | bare nm hS _ ih =>
        rintro ⟨b, hb1, yes, no⟩
        refine wpAny_handleBy_cons (codeAny_handlers_test ?_) (by intro q; cases q)
        refine reads nm ((PySem.W.exm_one (M := model X.prog X.w) J3.kIn kindIs hb1).here ?_)
        cases b with
        | false => exact ih (no rfl)
        | true =>
          refine codeAny_handlers_suite (HandSPX.lands_againZ fly fun h4 fly4 up4 => ?_)
          obtain ⟨oe4, vs4, hget4, hz4, hdat4⟩ := fly4.there
          have S4 := (J.landed nb fly4.1 ((up.trans up3).trans up4) os ag : Inv X pins τ1 G1 { t with heap := h4 }).suite hget4 hdat4 na offL offF
          refine wpAny_mono ((hS a oe4 cls d (X.pn ++ pins) hz4 ⟨_, hdat4⟩).run [] _ _ G1 _ S4 (yes rfl a na)) (fun f t6 q => ?_) fun _ _ z => z.elim
          cases f with
          | ret u =>
            obtain ⟨v, τ6, G6, S6, rv, q6⟩ := q
            exact ⟨v, τ6, G6, S6.unsuite okX, rv, q6⟩
          | next =>
            obtain ⟨τ6, G6, S6, q6⟩ := q
            exact ⟨τ6, G6, S6.unsuite okX, q6⟩
          | brk =>
            obtain ⟨τ6, G6, S6, q6⟩ := q
            exact ⟨τ6, G6, S6.unsuite okX, q6⟩
          | cont =>
            obtain ⟨τ6, G6, S6, q6⟩ := q
            exact ⟨τ6, G6, S6.unsuite okX, q6⟩
      | @as x n i c ts s0 ss p1 p2 hds2 l2 hi hloc nm hS _ ih =>
        rintro ⟨b, hb1, yes, no⟩
        refine wpAny_handleBy_cons (codeAny_handlers_test ?_) (by intro q; cases q)
        refine reads nm ((PySem.W.exm_one (M := model X.prog X.w) J3.kIn kindIs hb1).here ?_)
        cases b with
        | false => exact ih (no rfl)
        | true =>
          refine codeAny_handlers_suite_as (HandSPX.lands_againZ fly fun h4 fly4 up4 => ?_)
          obtain ⟨oe4, vs4, hget4, hz4, hdat4⟩ := fly4.there
          have S4 := (J.landed nb fly4.1 ((up.trans up3).trans up4) os ag : Inv X pins τ1 G1 { t with heap := h4 }).suite hget4 hdat4 na offL offF
          refine store_ok (X := X.suite a ((a, oe4) :: (X.pn ++ pins))) (v := .ref a) S4 hN hi (.inl hloc) rfl (fun t5 S5 => ?_) (.inr hloc)
          refine wpAny_mono ((hS a oe4 cls d (X.pn ++ pins) hz4 ⟨_, hdat4⟩).run [] t5 _ G1 _ S5 (yes rfl a na)) (fun f t6 q => ?_) fun _ _ z => z.elim
          cases f with
          | ret u =>
            obtain ⟨v, τ6, G6, S6, rv, q6⟩ := q
            exact gone_ok (S6.unsuite okX) hN hi hloc fun t7 J7 => ⟨v, _, _, J7, rv, q6⟩
          | next =>
            obtain ⟨τ6, G6, S6, q6⟩ := q
            exact gone_ok (S6.unsuite okX) hN hi hloc fun t7 J7 => ⟨_, _, J7, q6⟩
          | brk =>
            obtain ⟨τ6, G6, S6, q6⟩ := q
            exact gone_ok (S6.unsuite okX) hN hi hloc fun t7 J7 => ⟨_, _, J7, q6⟩
          | cont =>
            obtain ⟨τ6, G6, S6, q6⟩ := q
            exact gone_ok (S6.unsuite okX) hN hi hloc fun t7 J7 => ⟨_, _, J7, q6⟩
    exact walk _ _ hh wish
end

/-! ### stars, dict comprehensions -/
theorem aStar {X : Cx} (K : PySem.W.Frag) (h : X.K = K) {e : Expr} {es : List Expr} {te : TE} {t : TA} {p : Pos} (he : PE X e te) (hr : PA X es t) (hs : starEach (.Starred e p :: es) X.env = (true, eval e X.env) :: starEach es X.env := by rfl) : PA X (.Starred e p :: es) (StX.tStar K te t) := h ▸ StX.pa_star he hr hs
/-- a dict comprehension over whatever is walked -/
theorem dc_it {J : It} {n : Nat} {G : Hp → Prop} {Y : Nat → Hp → V → Hp → Prop} (w : Walk J n G Y) {g : TG} {tt : TT} {tk tv : TE} {vs : List Nat} {σ : L2.St} {H1 : Hp} {D : Addr} {Qd : Hp → Prop} (Pv : Nat → Hp → Prop) (h0 : Pv 0 (upd H1 D (.dK []))) (hG : ∀ i H, i ≤ n → Pv i H → G H)
    (turn : ∀ i x H H', i < n → Pv i H → Y i H x H' → g x (wipe σ vs) H' fun τ G2 => wipe τ vs = wipe σ vs ∧ tt τ G2 fun b G3 =>
      if b = true then tk τ G3 fun y G4 => tv τ G4 fun z G5 => ∃ kvs k, y = kV k ∧ G5 D = some (.dK kvs) ∧ kvs.length < sizeLine ∧ Pv (i + 1) (upd G5 D (.dK (putK kvs k z))) else Pv (i + 1) G3) (done : ∀ H, Pv n H → Qd H) :
    ∃ W : Nat → Nat → Hp → Prop, (∃ m, W 0 m (upd H1 D (.dK []))) ∧ ∀ i m H, W i m H →
      (J.stop i H ∧ Qd H) ∨ (J.go i H ∧ ∃ Nx : Hp → Prop, (∀ H', Nx H' → ∃ m', m' < m ∧ W (i + 1) m' H') ∧ ∀ x H', J.yld i H x H' → g x (wipe σ vs) H' fun τ G2 => wipe τ vs = wipe σ vs ∧ tt τ G2 fun b G3 =>
        if b = true then tk τ G3 fun y G4 => tv τ G4 fun z G5 => ∃ kvs k, y = kV k ∧ G5 D = some (.dK kvs) ∧ kvs.length < sizeLine ∧ Nx (upd G5 D (.dK (putK kvs k z))) else Nx G3) := by
  refine ⟨fun i m H => m + i = n ∧ Pv i H, ⟨n, rfl, h0⟩, ?_⟩
  rintro i m H ⟨hm, p⟩
  have q := hG i H (by omega) p
  by_cases hi : i = n
  · subst hi
    exact .inl ⟨w.stops H q, done H p⟩
  · have hlt : i < n := by omega
    exact .inr ⟨w.goes i H hlt q, Pv (i + 1), fun H' p' => ⟨m - 1, by omega, by omega, p'⟩, fun x H' y => turn i x H H' hlt p (w.yields i H x H' hlt q y)⟩
theorem mIdx {X : Cx} (K : PySem.W.Frag) (h : X.K = K) : MtR X "list.index" (rIndex K) := h ▸ mt_index
end Tp

set_option Elab.async false
set_option linter.all false
set_option maxRecDepth 100000
set_option maxHeartbeats 4000000
namespace Tp
open PySem PySem.Spec PyProof.Rows L2 Evl
/-! ### trees -/
inductive Tr where
  | txt (z : Str)
  | el (n : Str) (cs : List Tr)
mutual
def Tr.d : Tr → PyData
  | .txt z => .str z
  | .el n cs => .tuple [.str n, .list (Tr.ds cs)]
def Tr.ds : List Tr → List PyData
  | [] => []
  | c :: cs => c.d :: Tr.ds cs
end
theorem ds_map : ∀ cs : List Tr, Tr.ds cs = cs.map Tr.d
  | [] => rfl
  | c :: cs => by rw [Tr.ds, ds_map cs, List.map_cons]
def Tr.isT : Tr → Bool
  | .txt _ => true
  | .el _ _ => false
def signCs : List Nat := [97, 98, 32, 60, 62, 38, 59, 108, 116, 10, 126, 47]
def okText (m : Nat) (z : Str) : Prop := 1 ≤ z.cps.size ∧ z.cps.size ≤ m ∧ ∀ c ∈ z.cps.toList, c ∈ signCs
def twelve : Str := "ab <>&;lt\n~/"
def fourNames : List Str := ["a", "b", "abcdefghijkl", "c"]
/-- no two texts side by side -/
def apartT : List Tr → Prop
  | [] => True
  | [_] => True
  | a :: b :: r => ¬ (a.isT = true ∧ b.isT = true) ∧ apartT (b :: r)
def okTr : Nat → Tr → Prop
  | _, .txt z => okText 5 z
  | 0, .el _ _ => False
  | k + 1, .el n cs => n ∈ fourNames ∧ cs.length ≤ 3 ∧ apartT cs ∧ ∀ c ∈ cs, okTr k c

/-! ### a document as a text -/
def sL (l : List Nat) : Str := ⟨l.toArray⟩
theorem sL_list (l : List Nat) : (sL l).cps.toList = l := rfl
theorem sL_len (l : List Nat) : (sL l).length = l.length := by
  show l.toArray.size = _
  rw [List.size_toArray]
theorem sL_of (z : Str) : sL z.cps.toList = z := by
  cases z
  rfl
theorem sL_app (a b : List Nat) : sL a ++ sL b = sL (a ++ b) := by
  show (⟨a.toArray ++ b.toArray⟩ : Str) = ⟨(a ++ b).toArray⟩
  rw [List.append_toArray]
theorem sL_ext {x : Str} {l : List Nat} (h : x.cps.toList = l) : x = sL l := by rw [← h, sL_of]
def escC (c : Nat) : List Nat := if c = 60 then [38, 108, 116, 59] else if c = 62 then [38, 103, 116, 59] else if c = 38 then [38, 97, 109, 112, 59] else [c]
def escL (l : List Nat) : List Nat := l.flatMap escC
def esc (z : Str) : Str := sL (escL z.cps.toList)
theorem escC_len (c : Nat) : 1 ≤ (escC c).length ∧ (escC c).length ≤ 5 := by
  unfold escC
  split
  · exact ⟨by decide, by decide⟩
  split
  · exact ⟨by decide, by decide⟩
  split
  · exact ⟨by decide, by decide⟩
  · exact ⟨Nat.le_refl _, by show 1 ≤ 5; decide⟩
theorem escL_len : ∀ l : List Nat, (escL l).length ≤ 5 * l.length
  | [] => Nat.le_refl _
  | c :: l => by
    have h1 := escL_len l
    have h2 := (escC_len c).2
    show (escC c ++ escL l).length ≤ 5 * (l.length + 1)
    rw [List.length_append]
    omega
theorem repl_one (c : Nat) (z : List Nat) : ∀ l : List Nat, StrLaws.replL [c] z l = l.flatMap fun d => if d = c then z else [d]
  | [] => StrLaws.replL_nil
  | d :: l => by
    have ih := repl_one c z l
    rw [List.flatMap_cons]
    by_cases h : d = c
    · subst h
      rw [StrLaws.replL_hit (by simp) (by simp), if_pos rfl]
      show z ++ StrLaws.replL [d] z l = _
      rw [ih]
    · rw [StrLaws.replL_miss (by simpa using h), if_neg h, ih]
      rfl
theorem rep_c {x y z : Str} {c : Nat} (hy : y.cps.toList = [c]) : Txt.replace x y z = sL (x.cps.toList.flatMap fun d => if d = c then z.cps.toList else [d]) := by
  refine sL_ext ?_
  rw [StrLaws.replace_list (by show 1 ≤ y.cps.size; rw [← Array.length_toList, hy]; exact Nat.le_refl _), hy, repl_one]
theorem esc_three (x : Str) : Txt.replace (Txt.replace (Txt.replace x "&" "&amp;") "<" "&lt;") ">" "&gt;" = esc x := by
  have h1 : ("&" : Str).cps.toList = [38] := by decide +kernel
  have h2 : ("<" : Str).cps.toList = [60] := by decide +kernel
  have h3 : (">" : Str).cps.toList = [62] := by decide +kernel
  have g1 : ("&amp;" : Str).cps.toList = [38, 97, 109, 112, 59] := by decide +kernel
  have g2 : ("&lt;" : Str).cps.toList = [38, 108, 116, 59] := by decide +kernel
  have g3 : ("&gt;" : Str).cps.toList = [38, 103, 116, 59] := by decide +kernel
  rw [rep_c h1, rep_c h2, rep_c h3, sL_list, sL_list, g1, g2, g3]
  unfold esc escL
  congr 1
  rw [List.flatMap_assoc, List.flatMap_assoc]
  congr 1
  funext c
  unfold escC
  by_cases a : c = 60
  · subst a; rfl
  by_cases b : c = 62
  · subst b; rfl
  by_cases d : c = 38
  · subst d; rfl
  simp [a, b, d]
theorem join0 (ys : List Str) : Txt.join ⟨#[]⟩ ys = sL (ys.map (·.cps.toList)).flatten := by
  refine sL_ext ?_
  rw [TL.join_eq, show (Str.join ⟨#[]⟩ ys).cps.toList = TL.tl (Str.join ⟨#[]⟩ ys) from rfl, TL.tl_join]
  show TL.joinL [] (ys.map TL.tl) = (ys.map TL.tl).flatten
  generalize ys.map TL.tl = l
  induction l with
  | nil => rfl
  | cons p r ih =>
    cases r with
    | nil => simp [TL.joinL]
    | cons q r =>
      show p ++ ([] ++ TL.joinL [] (q :: r)) = _
      rw [ih, List.nil_append]
      rfl
mutual
/-- the written document; b: no element without parts in short -/
def wr (b : Bool) : Tr → List Nat
  | .txt z => escL z.cps.toList
  | .el n cs => if cs.isEmpty && !b then [60] ++ n.cps.toList ++ [47, 62] else [60] ++ n.cps.toList ++ [62] ++ wrs b cs ++ [60, 47] ++ n.cps.toList ++ [62]
def wrs (b : Bool) : List Tr → List Nat
  | [] => []
  | c :: cs => wr b c ++ wrs b cs
end
theorem wrs_flat (b : Bool) : ∀ cs : List Tr, wrs b cs = (cs.map (wr b)).flatten
  | [] => by rw [wrs]; rfl
  | c :: cs => by rw [wrs, wrs_flat b cs, List.map_cons, List.flatten_cons]
theorem name_len {n : Str} (h : n ∈ fourNames) : n.cps.toList.length ≤ 12 := by
  have : fourNames.all (fun n => decide (n.cps.toList.length ≤ 12)) = true := by decide +kernel
  exact of_decide_eq_true (List.all_eq_true.mp this n h)
def bnd : Nat → Nat
  | 0 => 25
  | k + 1 => 29 + 3 * bnd k
theorem bnd_lo : ∀ k, 25 ≤ bnd k
  | 0 => Nat.le_refl _
  | k + 1 => by
    have := bnd_lo k
    rw [bnd]
    omega
theorem flat_le {m : Nat} : ∀ {l : List (List Nat)}, (∀ x ∈ l, x.length ≤ m) → l.flatten.length ≤ l.length * m
  | [], _ => by simp
  | x :: l, h => by
    have h1 := h x (List.mem_cons_self ..)
    have h2 := flat_le (l := l) fun y hy => h y (List.mem_cons_of_mem _ hy)
    rw [List.flatten_cons, List.length_append, List.length_cons, Nat.succ_mul]
    omega
theorem wr_len (b : Bool) : ∀ {k : Nat} {t : Tr}, okTr k t → (wr b t).length ≤ bnd k
  | k, .txt z, h => by
    have h' : okText 5 z := by cases k <;> exact h
    have h1 := escL_len z.cps.toList
    have h2 : z.cps.toList.length ≤ 5 := by rw [Array.length_toList]; exact h'.2.1
    have h3 := bnd_lo k
    rw [wr]
    omega
  | 0, .el _ _, h => h.elim
  | k + 1, .el n cs, h => by
    obtain ⟨h1, h2, _, h4⟩ := h
    have hn := name_len h1
    rw [wr]
    split
    · have := bnd_lo (k + 1)
      simp only [List.length_append, List.length_cons, List.length_nil]
      omega
    · have h5 : (wrs b cs).length ≤ 3 * bnd k := by
        rw [wrs_flat]
        have := flat_le (l := cs.map (wr b)) (m := bnd k) fun x hx => by
          obtain ⟨c, hc, rfl⟩ := List.mem_map.mp hx
          exact wr_len b (h4 c hc)
        rw [List.length_map] at this
        exact Nat.le_trans this (Nat.mul_le_mul_right _ h2)
      simp only [List.length_append, List.length_cons, List.length_nil]
      rw [bnd]
      omega
theorem bnd_le {k : Nat} (h : k ≤ 5) : bnd k ≤ 10000 := by
  have : ∀ k, k ≤ 5 → bnd k ≤ 10000 := by decide
  exact this k h
end Tp


set_option Elab.async false
set_option linter.all false
set_option maxRecDepth 100000
set_option maxHeartbeats 4000000
namespace Tp
open PySem PySem.Spec PyProof.Rows L2 Evl
/-! ### texts, read from the left -/
/-- what stands from i on -/
def remS (z : Str) (i : Nat) (l : List Nat) : Prop := i ≤ z.cps.size ∧ z.cps.toList.drop i = l
theorem remS.len {z : Str} {i : Nat} {l : List Nat} (h : remS z i l) : i + l.length = z.cps.size := by
  have := congrArg List.length h.2
  rw [List.length_drop, Array.length_toList] at this
  have := h.1
  omega
theorem remS.adv {z : Str} {i : Nat} {a l : List Nat} (h : remS z i (a ++ l)) : remS z (i + a.length) l := by
  have h1 := h.len
  rw [List.length_append] at h1
  refine ⟨by omega, ?_⟩
  rw [← List.drop_drop, h.2, List.drop_left]
theorem remS.ne {z : Str} {i c : Nat} {l : List Nat} (h : remS z i (c :: l)) : i < z.cps.size ∧ z.cps.toList[i]? = some c := by
  have h1 := h.len
  rw [List.length_cons] at h1
  refine ⟨by omega, ?_⟩
  have := congrArg (fun l => l[0]?) h.2
  simpa using this
theorem sw3 {z y : Str} {i : Nat} {l : List Nat} (h : remS z i l) : Txt.startswith3 z y (i : Int) = decide (l.take y.cps.toList.length = y.cps.toList) := by
  have hi := h.1
  have h1 := h.len
  have hf : fromIndex z.length (i : Int) = i := by
    unfold fromIndex
    rw [if_neg (by omega)]
    omega
  unfold Txt.startswith3
  rw [hf, StrLaws.subAt_eq, h.2]
  have hy : y.length = y.cps.toList.length := Array.length_toList.symm
  have hz : z.length = z.cps.size := rfl
  by_cases e : l.take y.cps.toList.length = y.cps.toList
  · have h2 := congrArg List.length e
    rw [List.length_take] at h2
    rw [decide_eq_true e, hy, e]
    simp
    rw [hz]
    have : y.cps.toList.length = y.cps.size := Array.length_toList
    omega
  · rw [decide_eq_false e, hy]
    simp only [Bool.and_eq_false_iff]
    refine .inr ?_
    simpa using e
theorem lt1 (a c : Nat) : (!decide ([c] < [a])) = decide (a ≤ c) := by
  have e : ([c] < [a]) ↔ c < a := by
    rw [List.cons_lt_cons_iff]
    constructor
    · rintro (h | ⟨_, h⟩)
      · exact h
      · cases h
    · exact fun h => .inl h
  by_cases h : c < a
  · rw [decide_eq_true (e.mpr h), decide_eq_false (by omega)]
    rfl
  · rw [decide_eq_false (fun z => h (e.mp z)), decide_eq_true (by omega)]
    rfl
theorem val_chS {σ : L2.St} {H : Hp} {te : TE} {za zb : Str} {a b c : Nat} (h : Val te σ H (.str (sL [c]))) (ea : za.cps.toList = [a]) (eb : zb.cps.toList = [b]) :
    Val (tChain (fun x y H Q => ∃ i j, x = V.str i ∧ y = V.str j ∧ Q (V.bl !decide (j.cps.toList < i.cps.toList)) H) (fun x y H Q => ∃ i j, x = V.str i ∧ y = V.str j ∧ Q (V.bl !decide (j.cps.toList < i.cps.toList)) H) (tC (.str za)) te (tC (.str zb))) σ H (.bl (decide (a ≤ c) && decide (c ≤ b))) := fun Q q => by
  refine h _ ⟨_, _, rfl, rfl, _, rfl, ?_⟩
  rw [ea, sL_list, lt1]
  by_cases e : a ≤ c
  · rw [decide_eq_true e] at q ⊢
    refine iteT ⟨_, _, rfl, rfl, ?_⟩
    rw [eb, sL_list, lt1]
    exact q
  · rw [decide_eq_false e] at q ⊢
    exact iteF q
theorem remS.get {z : Str} {i j : Nat} {l : List Nat} (h : remS z i l) : z.cps.toList[i + j]? = l[j]? := by rw [← h.2, List.getElem?_drop]
theorem remS.drop {z : Str} {i k : Nat} {l : List Nat} (h : remS z i l) (hk : k ≤ l.length) : remS z (i + k) (l.drop k) := by
  have h1 := h.len
  exact ⟨by omega, by rw [← h.2, List.drop_drop]⟩
theorem remS.one {z : Str} {i c : Nat} {l : List Nat} (h : remS z i (c :: l)) : remS z (i + 1) l := h.drop (k := 1) (by simp)
/-- a piece of it -/
theorem remS.cut {z : Str} {i k : Nat} {l : List Nat} (h : remS z i l) : cutS z (some (i : Int)) (some ((i + k : Nat) : Int)) = sL (l.take k) := by
  have h1 := h.len
  have hz : z.length = z.cps.size := rfl
  refine sL_ext ?_
  unfold cutS
  have e1 : HT.sIx z.length 0 (some (i : Int)) = i := by
    rw [HT.sIx_nat]
    omega
  have e2 : HT.sIx z.length z.length (some ((i + k : Nat) : Int)) = min (i + k) z.cps.size := by
    rw [HT.sIx_nat]
    rfl
  rw [e1, e2]
  show (z.cps.toList.drop i).take _ = _
  rw [h.2]
  by_cases hk : i + k ≤ z.cps.size
  · rw [Nat.min_eq_left hk, show i + k - i = k by omega]
  · rw [Nat.min_eq_right (by omega), List.take_of_length_le (by omega), List.take_of_length_le (by omega)]
end Tp


set_option Elab.async false
set_option linter.all false
set_option maxRecDepth 100000
set_option maxHeartbeats 4000000
/-! The head with written dicts and with the tables of code objects. -/
namespace Tp
open PySem PySem.Spec PyProof.Rows L2 Evl
abbrev moreB (fx : List Fx) : PySem.W.Frag → Bool := fun K => fx.all fun f => f.ok K
theorem txt_ofY {fa : List He.Fa} {fn : List He.DefD} {ts : List He.Tab} {tf : List He.Defn} {fx : List Fx} {w : World} {K : PySem.W.Frag} {mg : Str → Option Value} {h g : Heap} (X : K.In h) (G : h.Ns mainGlobals mg) (c : He.SaysX fa fn ts tf (moreB fx) w g K) : Txt fa fn fx K mg :=
  ⟨fun i f e => c.t.d.fact i e, fun i d e => c.t.d.def_ i e, fun i f e => List.all_eq_true.mp c.more f (List.mem_of_getElem? e), fun i x e => He.glo_ok X G (c.t.d.fact i e), fun i x e => He.free_ok X G (c.t.d.fact i e),
    fun i x n e => He.int_ok X G (c.t.d.fact i e), fun i x z e => He.str_ok X G (c.t.d.fact i e)⟩
/-- the written dicts: their keys and hashes -/
def Dics (ts : List He.Tab) (w : World) (K : PySem.W.Frag) : Prop := ∀ (i : Nat) (t : He.Tab), ts[i]? = some t → He.dicW K (t.1 K) = some (He.keysIn w.params t.2)
theorem dics_of {fa : List He.Fa} {fn : List He.DefD} {ts : List He.Tab} {w : World} {K : PySem.W.Frag} (c : He.SaysT fa fn ts w K) : Dics ts w K := fun i t h => by
  have e : ts.map (fun t => He.dicW K (t.1 K)) = ts.map fun t => some (He.keysIn w.params t.2) := congrArg (fun z : He.AlT => z.2) c
  have e2 := congrArg (fun l => l[i]?) e
  simp only [List.getElem?_map, h] at e2
  exact Option.some.inj e2
theorem no_key {P : Params} {x : Str} : ∀ {l : List DictEntry} {ks : List Str}, l.map He.keyOf = He.keysIn P ks → x ∉ ks → l.find? (·.key.isStr x) = none ∧ l.any (·.refKey) = false
  | [], _, _, _ => ⟨rfl, rfl⟩
  | e :: r, [], h, _ => by cases h
  | e :: r, k :: ks, h, hx => by
    have h1 : He.keyOf e :: r.map He.keyOf = some (k, PyData.keyHash P k) :: He.keysIn P ks := h
    injection h1 with h2 h3
    obtain ⟨i1, i2⟩ := no_key h3 fun z => hx (List.mem_cons_of_mem _ z)
    unfold He.keyOf at h2
    split at h2
    · rename_i y t q
      obtain ⟨h5, _⟩ := Prod.mk.inj (Option.some.inj h2)
      have n1 : e.key.isStr x = false := by
        rw [q, PySem.W.isStr_of]
        show Value.isStrOf x (.str y t) = false
        unfold Value.isStrOf
        have : ¬ y = x := fun z => hx (by rw [← z, h5]; exact List.mem_cons_self ..)
        simpa using this
      have n2 : e.refKey = false := by
        unfold DictEntry.refKey
        rw [q]
      refine ⟨?_, ?_⟩
      · rw [List.find?_cons, n1]
        exact i1
      · rw [List.any_cons, n2, i2]
        rfl
    · cases h2
theorem dic_no {K : PySem.W.Frag} {P : Params} {a : Addr} {ks : List Str} {x : Str} (h : He.dicW K a = some (He.keysIn P ks)) (hx : x ∉ ks) : PySem.W.nsIn K a x = some none := by
  unfold He.dicW at h
  split at h
  · rename_i c es n sl q
    split at h
    · obtain ⟨h1, h2⟩ := no_key (Option.some.inj h) hx
      unfold PySem.W.nsIn
      rw [q]
      dsimp only
      rw [h1]
      dsimp only
      rw [if_neg (by rw [h2]; nofun)]
    · cases h
  · cases h
/-- d.get(k), d a written dict with text keys -/
def tKGet (K : PySem.W.Frag) (w : World) (td ty : TE) : TE := fun σ H Q => td σ H fun x H1 => ∃ (a : Addr) (es : Array DictEntry) (n : Nat), x = .ref a ∧ KDict K w a es n ∧ ty σ H1 fun y H2 =>
  ∃ (z : Str) (r : Option Value) (v : V), y = .str z ∧ PySem.W.nsIn K a z = some r ∧ RelV v (r.getD .none) ∧ Q v H2
section
variable {X : Cx} (K : PySem.W.Frag) (w : World)
theorem kget1 (hK : X.K = K) (hw : X.w = w) {o e : Expr} {apos cpos : Pos} {td ty : TE} (ho : PE X o td) (he : PE X e ty) (m : M1 X o "get" apos e cpos) : PE X (.Call (.Attribute o "get" apos) [e] [] cpos) (tKGet K w td ty) := by
  subst hK
  subst hw
  refine ⟨fun pins s σ H Q I h => wpAny_Call_method m.base m.few m.line PySem.F.plainAttrs_dict PySem.F.slot_dict_get PySem.F.type_dict_get (thn (ho.run pins s σ H _ I h) fun u s1 ⟨x, H1, I1, rx, a, es, n, ex, D, q1⟩ => ?_)⟩
  subst ex
  obtain rfl : u = Value.ref a := rx
  have hm1 := PySem.W.mapOf_K (prog := X.prog) (w := X.w) I1.kIn D.at_ D.lit
  refine ⟨hm1.typeIs, fun b q => ?_, ?_⟩
  · cases q
    exact ⟨_, I1.kIn _ _ D.at_, rfl⟩
  rw [m.trees]
  refine Calls.callWith_builtin rfl (Calls.evalArgs_plain (Calls.spliced_cons (thn (he.run pins s1 σ H1 _ I1 q1) fun iv s2 ⟨y, H2, I2, ry, z, r, v, ey, er, rv, q2⟩ => Calls.spliced_nil ?_)))
  subst ey
  obtain ⟨t, rfl⟩ := (show ∃ t, iv = Value.str z t from ry)
  have hm2 := PySem.W.mapOf_K (prog := X.prog) (w := X.w) I2.kIn D.at_ D.lit
  refine call_meetsIn PySem.F.slot_dict_get hm2.typeIs PySem.F.entry_dict_get (PySem.F.args_dict_get_2 _ _) (meets_dict_get (strKind X.prog X.w) a (strKind_is X.prog X.w z t) D.low) ⟨_, hm2, v, H2, I2.tok _, ?_, q2⟩
  rw [PySem.W.find_K D.at_ er]
  exact rv
theorem ixKD (hK : X.K = K) (hw : X.w = w) : IxR X (rIxD K w) := by
  subst hK
  subst hw
  exact ix_kdict
end
/-! ### text times number -/
def repS (n : Nat) (z : Str) : Str := ⟨(List.replicate n z.cps).foldl (· ++ ·) #[]⟩
theorem fold_app : ∀ (n : Nat) (a b : Array Nat), ((List.replicate n a).foldl (· ++ ·) b).toList = b.toList ++ (List.replicate n a.toList).flatten
  | 0, a, b => by simp
  | n + 1, a, b => by
    rw [List.replicate_succ, List.foldl_cons, fold_app n, List.replicate_succ, List.flatten_cons, Array.toList_append, List.append_assoc]
theorem repS_list (n : Nat) (z : Str) : (repS n z).cps.toList = (List.replicate n z.cps.toList).flatten := by
  show ((List.replicate n z.cps).foldl (· ++ ·) #[]).toList = _
  rw [fold_app]
  rfl
theorem op_mulS {X : Cx} : OpR X (binaryOp .Mult) (fun x y H Q => ∃ (z : Str) (n : Int), x = .str z ∧ y = .int n ∧ 0 ≤ n ∧ n ≤ 300000 ∧ 1 ≤ z.length ∧ z.length ≤ 50 ∧ Q (.str (repS n.toNat z)) H) := by
  intro pins s σ H x y v u Q I rx ry h
  obtain ⟨z, n, rfl, rfl, n0, n1, z0, z1, q⟩ := h
  obtain ⟨t, rfl⟩ := rx
  obtain ⟨t', rfl⟩ := ry
  have hlen : z.length * n.toNat ≤ 50 * 300000 := Nat.mul_le_mul z1 (by omega)
  refine PySem.P.mul_str ?_ (fun h1 _ => ?_) (fun _ _ => ?_) ?_
  · rw [decide_eq_false (by omega), decide_eq_false (by omega)]
    rfl
  · have h2 : (50 : Int) ≤ (2 ^ 63 - 1) / n := by
      rw [Int.le_ediv_iff_mul_le (by omega)]
      omega
    omega
  · unfold Builtin.Str.tooLong
    exact decide_eq_false (by have : 50 * 300000 ≤ sizeLine := by decide
                              omega)
  · by_cases a : n < 1
    · rw [if_pos a]
      have : n.toNat = 0 := by omega
      rw [this] at q
      exact ⟨by decide, .str (repS 0 z), H, I.tok _, ⟨_, rfl⟩, q⟩
    · rw [if_neg a]
      by_cases b : n = 1
      · subst b
        have e : repS 1 z = z := by
          show (⟨#[] ++ z.cps⟩ : Str) = z
          rw [Array.empty_append]
        rw [show ((1 : Int) == 1 || z.length == 0) = true from rfl, if_pos rfl]
        refine ⟨.str z, H, I, ⟨_, rfl⟩, ?_⟩
        rw [show (1 : Int).toNat = 1 from rfl, e] at q
        exact q
      · have c : (n == 1 || z.length == 0) = false := by
          rw [Bool.or_eq_false_iff]
          exact ⟨by simpa using b, by have : z.length ≠ 0 := by omega
                                      simpa using this⟩
        rw [c, if_neg nofun]
        refine ⟨?_, .str (repS n.toNat z), H, I.tok _, ⟨_, rfl⟩, q⟩
        have e := congrArg List.length (repS_list n.toNat z)
        rw [Array.length_toList, List.length_flatten, List.map_replicate, List.sum_replicate_nat, Array.length_toList] at e
        have h8 : n.toNat * z.cps.size = z.length * n.toNat := Nat.mul_comm ..
        have h9 : 50 * 300000 ≤ sizeLine := by decide
        show (repS n.toNat z).cps.size ≤ sizeLine
        omega
/-! ### the law's end -/
theorem endsY {l : PySem.W.OpenLaw} {n k : Nat} {q : Program} {loose : List Str} {XP : (Str → Option Value) → Heap → Prop} {YP : World → Heap → Prop} {d : DefRec} {CX : World → CXT} {x : Str} {tf : List He.Defn}
    (hn : l.most = some n) (hn2 : n ≤ sizeLine) (hdf : d.params.defaults = []) (hr : Room k callerA)
    (F : ∀ (w : World) (mg : Str → Option Value) (fa : Addr) (h : Heap), YP w h → h.Ns mainGlobals mg → mg d.name = some (.ref fa) →
      ∃ (K : PySem.W.Frag) (fd : FuncData) (sp : Sp), K.In h ∧ (∀ p ∈ tf, PySem.W.codeHdIn K (He.cT K p).1 (He.cT K p).2 = true) ∧ (∀ p ∈ tf, K.lookup (He.cT K p).2 = none) ∧ (∀ p ∈ tf, h.get? (He.cT K p).2 = some { cls := .none, data := .fields #[] }) ∧ (∀ (s : Shared) (u : Value), BindsTo s fd ⟨[u], []⟩ [(x, u)]) ∧
        (∀ (H : Hp) (a : Addr) (ns : List Int), ns.length ≤ n → (∀ z ∈ ns, Builtin.Int.intBits z ≤ 1048576) → (∀ p ∈ tf, H (He.cT K p).2 = some (.tbl #[])) → SqL K H a (ns.map V.int) → sp [.ref a] H (fun v _ => v = .bl true) fun _ _ _ => False) ∧
        ∀ base : Heap, K.In base → base.Ns mainGlobals mg → (∀ p ∈ tf, LamX.TabB base mg (He.cT K p).1 (He.cT K p).2) → FnOk l.prog w K mg base (CX w) k fa fd [x] sp)
    (hCX : ∀ (w : World) (H : Hp) (s : Shared) (e : Value) (s' : Shared), CX w [] H s (fun _ _ _ => False) e s' → False) :
    PySem.W.WalkO q loose XP YP l.row.toRowW d [] (fun f vs => PySem.call f vs) :=
  LamX.walk_ofTsE hn hn2 hdf hr (fun w mg fa h Y G hm => by
    obtain ⟨K, fd, sp, KX, a1, a2, a3, hb, hsp, hF⟩ := F w mg fa h Y G hm
    have mem : ∀ p ∈ tf.map (He.cT K), ∃ q ∈ tf, He.cT K q = p := fun p hp => List.mem_map.mp hp
    exact ⟨K, KX, fd, tf.map (He.cT K), sp, fun p hp => by obtain ⟨q, h1, rfl⟩ := mem p hp; exact a3 q h1, fun p hp => by obtain ⟨q, h1, rfl⟩ := mem p hp; exact a2 q h1, fun p hp => by obtain ⟨q, h1, rfl⟩ := mem p hp; exact PySem.W.codeHd_of_K KX (a1 q h1), hb,
      fun H a ns h1 h2 h3 h4 => hsp H a ns h1 h2 (fun p hp => h3 _ (List.mem_map.mpr ⟨p, hp, rfl⟩)) h4, fun base h1 h2 h3 => hF base h1 h2 fun p hp => h3 _ (List.mem_map.mpr ⟨p, hp, rfl⟩)⟩) hCX
end Tp


set_option Elab.async false
set_option linter.all false
set_option maxRecDepth 100000
set_option maxHeartbeats 4000000
namespace Tp
open PySem PySem.Spec PyProof.Rows L2 Evl
/-! ### a question's text, as it is to be read -/
/-- read to i, l is left, m steps; or the column and the reason -/
inductive QR where
  | ok (l : List Nat) (i m : Nat)
  | no (c : Nat) (r : Str)
def letB (c : Nat) : Bool := Nat.ble 97 c && Nat.ble c 122
def digB (c : Nat) : Bool := Nat.ble 48 c && Nat.ble c 57
def runL (p : Nat → Bool) : List Nat → Nat
  | [] => 0
  | c :: l => bif p c then runL p l + 1 else 0
theorem runL_le (p : Nat → Bool) : ∀ l : List Nat, runL p l ≤ l.length
  | [] => Nat.le_refl _
  | c :: l => by
    have := runL_le p l
    rw [runL, List.length_cons]
    cases p c with
    | true => exact Nat.succ_le_succ this
    | false => exact Nat.zero_le _
/-- at j < run stands such a sign, at the run's end none -/
theorem runL_at (p : Nat → Bool) : ∀ (l : List Nat) (j : Nat), (j < runL p l → ∃ c, l[j]? = some c ∧ p c = true) ∧ (j = runL p l → ∀ c, l[j]? = some c → p c = false)
  | [], j => ⟨fun h => absurd h (Nat.not_lt_zero _), fun _ c h => by cases h⟩
  | c :: l, j => by
    rw [runL]
    cases hp : p c with
    | false => exact ⟨fun h => absurd h (Nat.not_lt_zero _), fun h d hd => by
        have : j = 0 := h
        subst this
        cases hd
        exact hp⟩
    | true =>
      show (j < runL p l + 1 → _) ∧ (j = runL p l + 1 → _)
      cases j with
      | zero => exact ⟨fun _ => ⟨c, rfl, hp⟩, fun h => by cases h⟩
      | succ j =>
        obtain ⟨h1, h2⟩ := runL_at p l j
        exact ⟨fun h => h1 (by omega), fun h d hd => h2 (by omega) d hd⟩
def qTest (l : List Nat) (i m : Nat) : QR := if l.head? = some 42 ∨ l.head? = some 35 then .ok l.tail (i + 1) m else
  if 1 ≤ runL letB l ∧ runL letB l ≤ 12 then .ok (l.drop (runL letB l)) (i + runL letB l) m else .no (i + 1) "test"
def qNum (below : Bool) (l : List Nat) (i m : Nat) : QR :=
  if below = true ∨ 4 < runL digB l ∨ 5000 < NumText.digitsVal (l.take (runL digB l)) then .no (i + 1) "number" else .ok (l.drop (runL digB l)) (i + runL digB l) m
inductive SR where
  | bad (c : Nat)
  | fin (l : List Nat) (i n : Nat)
def qStr : List Nat → Nat → Nat → SR
  | [], i, n => .fin [] i n
  | [c], i, n => if c = 34 then .fin [c] i n else if c = 92 then .fin [] (i + 1) (n + 1) else if 32 ≤ c ∧ c ≤ 126 then .fin [] (i + 1) (n + 1) else .bad (i + 1)
  | c :: e :: l, i, n => if c = 34 then .fin (c :: e :: l) i n else if c = 92 then (if e = 34 ∨ e = 92 ∨ e = 110 then qStr l (i + 2) (n + 1) else .bad (i + 2))
    else if 32 ≤ c ∧ c ≤ 126 then qStr (e :: l) (i + 1) (n + 1) else .bad (i + 1)
/-- one sign of a string -/
def qSg (c : Nat) (r : List Nat) (i : Nat) : SR := if c = 92 then (match r with
  | [] => .fin [] (i + 1) 0
  | e :: r' => if e = 34 ∨ e = 92 ∨ e = 110 then .fin r' (i + 2) 0 else .bad (i + 2)) else if 32 ≤ c ∧ c ≤ 126 then .fin r (i + 1) 0 else .bad (i + 1)
theorem qStr_nil (i n : Nat) : qStr [] i n = .fin [] i n := by rw [qStr]
theorem qStr_end (r : List Nat) (i n : Nat) : qStr (34 :: r) i n = .fin (34 :: r) i n := by
  cases r with
  | nil => rw [qStr, if_pos rfl]
  | cons e r => rw [qStr, if_pos rfl]
theorem qStr_step {c : Nat} (hc : c ≠ 34) (r : List Nat) (i n : Nat) : qStr (c :: r) i n = match qSg c r i with
    | .bad k => .bad k
    | .fin l' i' _ => qStr l' i' (n + 1) := by
  unfold qSg
  cases r with
  | nil =>
    rw [qStr, if_neg hc]
    split
    · dsimp only
      rw [qStr_nil]
    · split
      · dsimp only
        rw [qStr_nil]
      · rfl
  | cons e r =>
    rw [qStr, if_neg hc]
    split
    · dsimp only
      split <;> rfl
    · split <;> rfl
def qString (l : List Nat) (i m : Nat) : QR := match qStr l.tail (i + 1) 0 with
  | .bad c => .no c "sign"
  | .fin r j n => if r.head? = some 34 ∧ 1 ≤ n ∧ n ≤ 40 then .ok r.tail (j + 1) m else .no (i + 1) "string"
def qClose : QR → QR
  | .no c r => .no c r
  | .ok l i m => if l.head? = some 93 then .ok l.tail (i + 1) m else .no (i + 1) "close"
def qFilter (steps : List Nat → Nat → Nat → QR) (below : Bool) (l : List Nat) (i m : Nat) : QR := qClose
  (if l.tail.head? = some 47 then steps l.tail (i + 1) m else if l.tail.head? = some 34 then qString l.tail (i + 1) m else
    if (match l.tail.head? with | some c => Nat.ble 49 c && Nat.ble c 57 | none => false) = true then qNum below l.tail (i + 1) m else .no (i + 2) "filter")
def qLoop (c : Nat) (step : List Nat → Nat → Nat → QR) : Nat → List Nat → Nat → Nat → QR
  | 0, l, i, m => .ok l i m
  | f + 1, l, i, m => if l.head? = some c then (match step l i m with
    | .ok l' i' m' => qLoop c step f l' i' m'
    | .no k r => .no k r) else .ok l i m
def qThen (a : QR) (f : List Nat → Nat → Nat → QR) : QR := match a with
  | .ok l i m => f l i m
  | .no c r => .no c r
def qAxis (l : List Nat) : Bool := decide (l.tail.head? = some 47)
def qStep (steps : List Nat → Nat → Nat → QR) (deep : Bool) (l : List Nat) (i m : Nat) : QR :=
  if l.head? = some 47 then (if m = 12 then .no (i + 1) "steps" else if deep = true then .no (i + 1) "deep" else
    qThen (qTest (l.drop (bif qAxis l then 2 else 1)) (i + (bif qAxis l then 2 else 1)) (m + 1)) fun l' i' m' => qLoop 91 (qFilter steps (qAxis l)) (l'.length + 1) l' i' m')
  else .no (i + 1) "step"
def qMany (step : List Nat → Nat → Nat → QR) (l : List Nat) (i m : Nat) : QR := qThen (step l i m) fun l' i' m' => qLoop 47 step (l'.length + 1) l' i' m'
/-- k: how many more may stand within one another -/
def qSteps : Nat → List Nat → Nat → Nat → QR
  | 0 => qMany (qStep (fun _ _ _ => .no 0 "") true)
  | k + 1 => qMany (qStep (qSteps k) false)
def qStepK : Nat → List Nat → Nat → Nat → QR
  | 0 => qStep (fun _ _ _ => .no 0 "") true
  | k + 1 => qStep (qSteps k) false
theorem qSteps_eq (k : Nat) : qSteps k = qMany (qStepK k) := by cases k <;> rfl
def qAll (l : List Nat) : QR := qThen (qSteps 3 l 0 0) fun l' i' m' => if l' = [] then .ok l' i' m' else .no (i' + 1) "end"
end Tp


set_option Elab.async false
set_option linter.all false
set_option maxRecDepth 100000
set_option maxHeartbeats 4000000
namespace Tp
open PySem PySem.Spec PyProof.Rows L2 Evl
/-! ### own exceptions with three fields -/
def spX3 (K : PySem.W.Frag) (C : Addr) (f g h : Str) : Sp := fun vs H Q _ => ∃ (a : Addr) (y z u : V), vs = [.ref a, y, z, u] ∧ OexC K C ∧ PySem.W.findIn K (.ref C) f = some none ∧ PySem.W.findIn K (.ref C) g = some none ∧ PySem.W.findIn K (.ref C) h = some none ∧ H a = some (exo a C none) ∧
  ∀ dx, H dx = none → dx ≠ a → Q .non (upd (upd (upd H dx (exd dx [(f, y)])) a (exo a C (some dx))) dx (exd dx [(h, u), (g, z), (f, y)]))
theorem made3 {K : PySem.W.Frag} {C : Addr} {f g h : Str} {y z u : V} {H : Hp} {Q : XK} (T : OexC K C) (hf : PySem.W.findIn K (.ref C) f = some none) (hg : PySem.W.findIn K (.ref C) g = some none) (hh : PySem.W.findIn K (.ref C) h = some none) (k : ∀ d, H d = none → Q (.ref C) (some d) (upd H d (.xd [(h, u), (g, z), (f, y)]))) :
    [y, z, u].length ≤ 1000 ∧ ∀ a, H a = none → spX3 K C f g h (.ref a :: ([y, z, u] ++ [])) (upd H a (exo a C none)) (fun v H2 => v = .non ∧ ∃ (d : Addr) (fs : List (Str × V)), H2 a = some (exo a C (some d)) ∧ H2 d = some (exd d fs) ∧ H d = none ∧ Q (.ref C) (some d) (upd (L2.del H2 a) d (.xd fs))) (fun _ _ _ => False) := by
  refine ⟨by show 3 ≤ 1000; decide, fun a hn => ⟨a, y, z, u, rfl, T, hf, hg, hh, upd_same, fun dx hd ne => ⟨rfl, dx, _, by rw [upd_ne (Ne.symm ne), upd_same], upd_same, ?_, ?_⟩⟩⟩
  · rw [upd_ne ne] at hd
    exact hd
  · rw [exo_end2 hn ne]
    rw [upd_ne ne] at hd
    exact k dx hd
theorem st_raise3 {K : PySem.W.Frag} {σ : L2.St} {H : Hp} {ta tb tc : TE} {W : WX} {C : Addr} {f g h : Str} {y z u : V} (T : OexC K C) (hf : PySem.W.findIn K (.ref C) f = some none) (hg : PySem.W.findIn K (.ref C) g = some none) (hh : PySem.W.findIn K (.ref C) h = some none)
    (h1 : Val ta σ H y) (h2 : Val tb σ H z) (h3 : Val tc σ H u) (q : ∀ d, H d = none → W (.ref C) (some d) σ (upd H d (.xd [(h, u), (g, z), (f, y)]))) :
    tMkO C (spX3 K C f g h) [] (tCons ta (tCons tb (tCons tc tNil))) σ H (fun cls d H' => W cls d σ H') := h1 _ (h2 _ (h3 _ (made3 (Q := fun cls d H' => W cls d σ H') T hf hg hh q)))
end Tp


set_option Elab.async false
set_option linter.all false
set_option maxRecDepth 100000
set_option maxHeartbeats 4000000
namespace Tp
open PySem PySem.Spec PyProof.Rows L2 Evl
/-! ### a document's text, as it is to be read -/
abbrev Fram : Type := PySem.Str × List Tr
/-- the open elements, what is left, where, how many nodes; or the place and the reason -/
inductive RR where
  | ok (F : List Fram) (l : List Nat) (i n : Nat)
  | no (i : Nat) (r : PySem.Str)
def sgB (c : Nat) : Bool := Nat.beq c 10 || (Nat.ble 32 c && Nat.ble c 126)
/-- the reason that is told at what is left -/
def why (l : List Nat) (r : PySem.Str) : PySem.Str := match l with
  | [] => "open"
  | c :: _ => bif sgB c then r else "character"
def rdNext (l : List Nat) : Option (List Nat × Nat × Nat) := if l.take 4 = [38, 108, 116, 59] then some (l.drop 4, 4, 60) else if l.take 4 = [38, 103, 116, 59] then some (l.drop 4, 4, 62) else
  if l.take 5 = [38, 97, 109, 112, 59] then some (l.drop 5, 5, 38) else match l with
    | [] => none
    | c :: r => bif sgB c && !(Nat.beq c 38) && !(Nat.beq c 62) then some (r, 1, c) else none
inductive TR where
  | ok (z : List Nat) (l : List Nat) (i n : Nat)
  | no (i : Nat) (r : PySem.Str)
/-- may one more node stand here? -/
def cntR (d : Nat) (l : List Nat) (n : Nat) : Option PySem.Str := if 60 < d then some (why l "deep") else if n = 5000 then some (why l "many") else none
def rdText (d : Nat) : Nat → List Nat → List Nat → Nat → Nat → TR
  | 0, acc, l, i, n => .ok acc l i n
  | f + 1, acc, l, i, n => if l.head? = some 60 then .ok acc l i n else match rdNext l with
    | none => .no i (why l "sign")
    | some (r, k, s) => if acc.length = 200 then .no i (why l "long") else
      if acc = [] then (match cntR d l n with
        | some y => .no i y
        | none => rdText d f (acc ++ [s]) r (i + k) (n + 1)) else rdText d f (acc ++ [s]) r (i + k) n
def addK (F : List Fram) (t : Tr) : List Fram := match F with
  | [] => []
  | f :: r => (f.1, f.2 ++ [t]) :: r
def rdEndTag (F : List Fram) (l : List Nat) (i n : Nat) : RR := if l.head? = some 62 then .ok F l.tail (i + 1) n else .no i (why l "tag")
def nameOk (l : List Nat) : Bool := Nat.ble 1 (runL letB l) && Nat.ble (runL letB l) 12
def rdBegin (F : List Fram) (l : List Nat) (i n : Nat) : RR := if l.tail = [] then .no (i + 1) "open" else match cntR F.length l n with
  | some y => .no i y
  | none => bif nameOk l.tail then (
      let k := runL letB l.tail
      let nm := sL (l.tail.take k)
      let r := l.tail.drop k
      if r.head? = some 47 then rdEndTag (addK F (.el nm [])) r.tail (i + 1 + k + 1) (n + 1) else rdEndTag ((nm, []) :: F) r (i + 1 + k) (n + 1))
    else .no (i + 1) (why l.tail "name")
def popK (F : List Fram) : List Fram := match F with
  | f :: r => addK r (.el f.1 f.2)
  | [] => []
def topN (F : List Fram) : PySem.Str := match F with
  | f :: _ => f.1
  | [] => ""
def rdPop : RR → RR
  | .ok F l i n => .ok (popK F) l i n
  | .no i r => .no i r
def rdEnd (F : List Fram) (l : List Nat) (i n : Nat) : RR := bif nameOk (l.drop 2) then (
    let k := runL letB (l.drop 2)
    let nm := (l.drop 2).take k
    let r := (l.drop 2).drop k
    if nm ≠ (topN F).cps.toList ∧ ¬ (r = [] ∧ (topN F).cps.toList.take k = nm) then .no (i + 2) (why (l.drop 2) "end") else rdPop (rdEndTag F r (i + 2 + k) n))
  else .no (i + 2) (why (l.drop 2) "name")
def rdPart (F : List Fram) (l : List Nat) (i n : Nat) : RR := if l.take 2 = [60, 47] then rdEnd F l i n else if l.head? = some 60 then rdBegin F l i n else
  match rdText F.length (l.length + 1) [] l i n with
    | .ok z l' i' n' => .ok (addK F (.txt (sL z))) l' i' n'
    | .no j r => .no j r
def rdLoop : Nat → List Fram → List Nat → Nat → Nat → RR
  | 0, F, l, i, n => .ok F l i n
  | f + 1, F, l, i, n => if 1 < F.length then (match rdPart F l i n with
    | .ok F' l' i' n' => rdLoop f F' l' i' n'
    | .no j r => .no j r) else .ok F l i n
def rdRoot (l : List Nat) : RR := if l.head? = some 60 then rdBegin [("", [])] l 0 0 else .no 0 (why l "element")
def rdDoc (l : List Nat) : RR := match rdRoot l with
  | .no j r => .no j r
  | .ok F l1 i n => match rdLoop (l1.length + 1) F l1 i n with
    | .no j r => .no j r
    | .ok F' l2 i2 n2 => if l2 = [] then .ok F' l2 i2 n2 else .no i2 (why l2 "more")
theorem rdNext_len {l r : List Nat} {k s : Nat} (h : rdNext l = some (r, k, s)) : 1 ≤ k ∧ k ≤ l.length ∧ r = l.drop k ∧ sgB s = true := by
  unfold rdNext at h
  split at h
  · rename_i e
    cases h
    have := congrArg List.length e
    rw [List.length_take] at this
    exact ⟨by decide, by simp at this; omega, rfl, by decide⟩
  split at h
  · rename_i e
    cases h
    have := congrArg List.length e
    rw [List.length_take] at this
    exact ⟨by decide, by simp at this; omega, rfl, by decide⟩
  split at h
  · rename_i e
    cases h
    have := congrArg List.length e
    rw [List.length_take] at this
    exact ⟨by decide, by simp at this; omega, rfl, by decide⟩
  cases l with
  | nil => cases h
  | cons c r' =>
    dsimp only at h
    cases hc : (sgB c && !(Nat.beq c 38) && !(Nat.beq c 62)) with
    | false => rw [hc] at h; cases h
    | true =>
      rw [hc] at h
      cases h
      exact ⟨Nat.le_refl _, by rw [List.length_cons]; omega, rfl, (Bool.and_eq_true_iff.mp (Bool.and_eq_true_iff.mp hc).1).1⟩
theorem rdText_more {d : Nat} {y l' : List Nat} {i' n' : Nat} : ∀ (f : Nat) (acc l : List Nat) (i n : Nat), acc ≠ [] → rdText d f acc l i n = .ok y l' i' n' → n' = n ∧ l'.length ≤ l.length
  | 0, acc, l, i, n, _, h => by
    rw [rdText] at h
    cases h
    exact ⟨rfl, Nat.le_refl _⟩
  | f + 1, acc, l, i, n, ha, h => by
    rw [rdText] at h
    by_cases h1 : l.head? = some 60
    · rw [if_pos h1] at h
      cases h
      exact ⟨rfl, Nat.le_refl _⟩
    rw [if_neg h1] at h
    cases e : rdNext l with
    | none => rw [e] at h; cases h
    | some p =>
      obtain ⟨r, k, s⟩ := p
      rw [e] at h
      dsimp only at h
      obtain ⟨k1, k2, k3, _⟩ := rdNext_len e
      by_cases h2 : acc.length = 200
      · rw [if_pos h2] at h; cases h
      rw [if_neg h2, if_neg ha] at h
      obtain ⟨g1, g2⟩ := rdText_more f _ r _ n (by simp) h
      refine ⟨g1, ?_⟩
      rw [k3, List.length_drop] at g2
      omega
theorem rdText_first {d f : Nat} {l y l' : List Nat} {i n i' n' : Nat} (h1 : l.head? ≠ some 60) (h : rdText d (f + 1) [] l i n = .ok y l' i' n') : n' = n + 1 ∧ cntR d l n = none ∧ l'.length < l.length := by
  rw [rdText, if_neg h1] at h
  cases e : rdNext l with
  | none => rw [e] at h; cases h
  | some p =>
    obtain ⟨r, k, s⟩ := p
    rw [e] at h
    dsimp only at h
    obtain ⟨k1, k2, k3, _⟩ := rdNext_len e
    rw [if_neg (by decide), if_pos rfl] at h
    cases e2 : cntR d l n with
    | some y => rw [e2] at h; cases h
    | none =>
      rw [e2] at h
      obtain ⟨g1, g2⟩ := rdText_more f _ r _ _ (by simp) h
      refine ⟨g1, rfl, ?_⟩
      rw [k3, List.length_drop] at g2
      omega
/-- the last open element has something in it, unless others are open -/
def WB : List Fram → Prop
  | [] => False
  | [b] => b.2 ≠ []
  | _ :: _ :: _ => True
theorem addK_WB {F : List Fram} {t : Tr} (h : F ≠ []) : WB (addK F t) := by
  match F, h with
  | [f], _ => show f.2 ++ [t] ≠ []; simp
  | f :: g :: r, _ => trivial
theorem rdEndTag_eq {F : List Fram} {l : List Nat} {i n : Nat} {F' : List Fram} {l' : List Nat} {i' n' : Nat} (h : rdEndTag F l i n = .ok F' l' i' n') : F' = F := by
  unfold rdEndTag at h
  split at h
  · cases h; rfl
  · cases h
theorem rdBegin_WB {F : List Fram} {l : List Nat} {i n : Nat} {F' : List Fram} {l' : List Nat} {i' n' : Nat} (hF : F ≠ []) (h : rdBegin F l i n = .ok F' l' i' n') : WB F' := by
  unfold rdBegin at h
  split at h
  · cases h
  split at h
  · cases h
  cases q : nameOk l.tail with
  | false => rw [q] at h; cases h
  | true =>
    rw [q] at h
    simp only [cond_true] at h
    split at h
    · rw [rdEndTag_eq h]
      exact addK_WB hF
    · rw [rdEndTag_eq h]
      match F, hF with
      | f :: r, _ => trivial
theorem rdPart_WB {F : List Fram} {l : List Nat} {i n : Nat} {F' : List Fram} {l' : List Nat} {i' n' : Nat} (hF : 1 < F.length) (h : rdPart F l i n = .ok F' l' i' n') : WB F' := by
  obtain ⟨f, g, r, rfl⟩ : ∃ f g r, F = f :: g :: r := by
    match F, hF with
    | f :: g :: r, _ => exact ⟨f, g, r, rfl⟩
  unfold rdPart at h
  split at h
  · unfold rdEnd at h
    cases q : nameOk (l.drop 2) with
    | false => rw [q] at h; cases h
    | true =>
      rw [q] at h
      simp only [cond_true] at h
      split at h
      · cases h
      · unfold rdEndTag at h
        split at h
        · cases h
          exact addK_WB (F := g :: r) (by simp)
        · cases h
  split at h
  · exact rdBegin_WB (by simp) h
  · split at h
    · cases h
      trivial
    · cases h
end Tp


set_option Elab.async false
set_option linter.all false
set_option maxRecDepth 100000
set_option maxHeartbeats 4000000
namespace Tp
open PySem PySem.Spec PyProof.Rows L2 Evl
/-! ### open elements, top first; the last one is the stack's own -/
mutual
/-- how many nodes a tree has -/
def nod : Tr → Nat
  | .txt _ => 1
  | .el _ cs => 1 + nods cs
def nods : List Tr → Nat
  | [] => 0
  | c :: cs => nod c + nods cs
end
theorem nod_pos : ∀ t : Tr, 1 ≤ nod t
  | .txt _ => by rw [nod]; exact Nat.le_refl _
  | .el _ cs => by rw [nod]; omega
def nb : Nat → Nat
  | 0 => 1
  | k + 1 => 1 + 3 * nb k
theorem nb_lo : ∀ k, 1 ≤ nb k
  | 0 => Nat.le_refl _
  | k + 1 => by rw [nb]; omega
theorem nods_le {m : Nat} : ∀ {cs : List Tr}, (∀ c ∈ cs, nod c ≤ m) → nods cs ≤ cs.length * m
  | [], _ => by rw [nods]; exact Nat.zero_le _
  | c :: cs, h => by
    have h1 := h c (List.mem_cons_self ..)
    have h2 := nods_le (cs := cs) fun y hy => h y (List.mem_cons_of_mem _ hy)
    rw [nods, List.length_cons, Nat.succ_mul]
    omega
theorem nod_le : ∀ {k : Nat} {t : Tr}, okTr k t → nod t ≤ nb k
  | k, .txt z, _ => by rw [nod]; exact nb_lo k
  | 0, .el _ _, h => h.elim
  | k + 1, .el n cs, h => by
    obtain ⟨_, h2, _, h4⟩ := h
    have h5 := nods_le (cs := cs) (m := nb k) fun c hc => nod_le (h4 c hc)
    rw [nod, nb]
    have := Nat.mul_le_mul_right (nb k) h2
    omega
structure Fr where
  t : Addr
  l : Addr
  n : Str
  vs : List V
  ds : List Tr
  rest : List Tr
/-- what is still to be read -/
def remF (b : Bool) : List Fr → List Nat
  | [] => []
  | [f] => wrs b f.rest
  | f :: g :: r => wrs b f.rest ++ 60 :: 47 :: (f.n.cps.toList ++ 62 :: remF b (g :: r))
theorem remF_cons {b : Bool} {f : Fr} {r : List Fr} {c : Tr} {rest : List Tr} (h : f.rest = c :: rest) (f' : Fr) (h' : f'.rest = rest) (hn : f'.n = f.n) : remF b (f :: r) = wr b c ++ remF b (f' :: r) := by
  cases r with
  | nil =>
    show wrs b f.rest = wr b c ++ wrs b f'.rest
    rw [h, h', wrs]
  | cons g r =>
    show wrs b f.rest ++ _ = wr b c ++ (wrs b f'.rest ++ _)
    rw [h, h', wrs, hn, List.append_assoc]
/-- the bottom's parts in the end, when mid stands between what the top has and what it gets -/
def finF (mid : List Tr) : List Fr → List Tr
  | [] => []
  | [f] => f.ds ++ mid ++ f.rest
  | f :: g :: r => finF [.el f.n (f.ds ++ mid ++ f.rest)] (g :: r)
theorem finF_eq {f g : Fr} {r : List Fr} {m m' : List Tr} (e : f.ds ++ m ++ f.rest = g.ds ++ m' ++ g.rest) (hn : f.n = g.n) : finF m (f :: r) = finF m' (g :: r) := by
  cases r with
  | nil => exact e
  | cons h r =>
    show finF [.el f.n (f.ds ++ m ++ f.rest)] (h :: r) = finF [.el g.n (g.ds ++ m' ++ g.rest)] (h :: r)
    rw [e, hn]
def nodF : List Fr → Nat
  | [] => 0
  | f :: r => nods f.rest + nodF r
def lastRest : List Fr → List Tr
  | [] => []
  | [f] => f.rest
  | _ :: g :: r => lastRest (g :: r)
/-- what f holds is data, whatever becomes of the places S -/
def Clo (K : PySem.W.Frag) (S : List Addr) (G : Hp) (vs : List V) (ds : List Tr) : Prop := ∀ G' : Hp, Kp S G G' → DpAll K G' vs (Tr.ds ds)
theorem Clo.step {K : PySem.W.Frag} {S : List Addr} {G G1 : Hp} {vs : List V} {ds : List Tr} (c : Clo K S G vs ds) (e : Kp S G G1) : Clo K S G1 vs ds := fun G' e' => c G' (e.trans e')
theorem Clo.less {K : PySem.W.Frag} {S S' : List Addr} {G : Hp} {vs : List V} {ds : List Tr} (c : Clo K S G vs ds) (h : ∀ a ∈ S', a ∈ S) : Clo K S' G vs ds := fun G' e' => c G' (e'.mono h)
/-- a new place may change too -/
theorem Clo.open {K : PySem.W.Frag} {S S1 : List Addr} {G G1 : Hp} {vs : List V} {ds : List Tr} {l : Addr} (c : Clo K S G vs ds) (e : Kp S G G1) (hl : G l = none) (hS : ∀ a ∈ S1, a = l ∨ a ∈ S) : Clo K S1 G1 vs ds := fun G' e' => c G' fun a o n h => by
  have hal : a ≠ l := fun z => by rw [z, hl] at h; cases h
  exact e' a o (fun z => by
    rcases hS a z with z | z
    · exact hal z
    · exact n z) (e a o n h)
theorem ds_app (as bs : List Tr) : Tr.ds (as ++ bs) = Tr.ds as ++ Tr.ds bs := by rw [ds_map, ds_map, ds_map, List.map_append]
/-- one frame, p: a part of it is open -/
structure FrOK (K : PySem.W.Frag) (H0 : Hp) (S : List Addr) (G : Hp) (p : Nat) (above : List V) (f : Fr) (r : List Fr) : Prop where
  t : G f.t = some (.tup [.str f.n, .ref f.l])
  l : G f.l = some (.lst (f.vs ++ above))
  c : Clo K S G f.vs f.ds
  few : f.ds.length + f.rest.length + p ≤ 3
  ap : apartT f.rest
  ok : ∀ c ∈ f.rest, okTr (5 - r.length) c
  n : r ≠ [] → f.n ∈ fourNames
  h : H0 f.l = none
def FrsOK (K : PySem.W.Frag) (H0 : Hp) (S : List Addr) (G : Hp) : Nat → List V → List Fr → Prop
  | _, _, [] => True
  | p, above, f :: r => FrOK K H0 S G p above f r ∧ FrsOK K H0 S G 1 [.ref f.t] r
theorem FrOK.step {K : PySem.W.Frag} {H0 : Hp} {S S1 S' : List Addr} {G G1 : Hp} {p : Nat} {above : List V} {f : Fr} {r : List Fr} (h : FrOK K H0 S G p above f r) (e : Kp S' G G1) (hl : f.l ∉ S') (ht : ∀ a ∈ S', ∀ xs, G a ≠ some (.tup xs)) (hC : ∀ vs ds, Clo K S G vs ds → Clo K S1 G1 vs ds) : FrOK K H0 S1 G1 p above f r :=
  ⟨e.at h.t fun z => ht _ z _ h.t, e.at h.l hl, hC _ _ h.c, h.few, h.ap, h.ok, h.n, h.h⟩
theorem FrsOK.step {K : PySem.W.Frag} {H0 : Hp} {S S1 S' : List Addr} {G G1 : Hp} (e : Kp S' G G1) (ht : ∀ a ∈ S', ∀ xs, G a ≠ some (.tup xs)) (hC : ∀ vs ds, Clo K S G vs ds → Clo K S1 G1 vs ds) :
    ∀ {r : List Fr} {p : Nat} {above : List V}, (∀ f ∈ r, f.l ∉ S') → FrsOK K H0 S G p above r → FrsOK K H0 S1 G1 p above r
  | [], _, _, _, _ => trivial
  | f :: r, _, _, hl, ⟨h1, h2⟩ => ⟨h1.step e (hl f (List.mem_cons_self ..)) ht hC, FrsOK.step e ht hC (fun g hg => hl g (List.mem_cons_of_mem _ hg)) h2⟩
/-- behind a text stands a tag -/
theorem behind_txt {b : Bool} {z : Str} {rest : List Tr} (h : apartT (.txt z :: rest)) (l : List Nat) : ∃ l', wrs b rest ++ 60 :: l = 60 :: l' := by
  cases rest with
  | nil => exact ⟨l, by rw [wrs]; rfl⟩
  | cons c r =>
    cases c with
    | txt y => exact absurd ⟨rfl, rfl⟩ h.1
    | el n cs =>
      rw [wrs, wr]
      split
      · exact ⟨_, rfl⟩
      · exact ⟨_, rfl⟩
theorem apartT_tail {c : Tr} {r : List Tr} (h : apartT (c :: r)) : apartT r := by
  cases r with
  | nil => trivial
  | cons d r => exact h.2
end Tp


set_option Elab.async false
set_option linter.all false
set_option maxRecDepth 100000
set_option maxHeartbeats 4000000
namespace Tp
open PySem PySem.Spec PyProof.Rows L2 Evl
/-! ### rows of bits: what is kept -/
def pre (row : List Int) (i : Nat) : Int := (row.take i).sum
def sums (row : List Int) : List Int := (List.range (row.length + 1)).map (pre row)
def isAt (row : List Int) (d : Int) (i : Nat) : Bool := decide (row[i]? = some d)
/-- the places below n at which d stands -/
def plcTo (row : List Int) (d : Int) (n : Nat) : List Int := ((List.range n).filter (isAt row d)).map fun (i : Nat) => (i : Int)
def plc (row : List Int) (d : Int) : List Int := plcTo row d row.length
theorem pre_zero (row : List Int) : pre row 0 = 0 := rfl
theorem pre_succ {row : List Int} {i : Nat} {z : Int} (h : row[i]? = some z) : pre row (i + 1) = pre row i + z := sum_take h
theorem pre_all (row : List Int) : pre row row.length = row.sum := by unfold pre; rw [List.take_length]
theorem sums_len (row : List Int) : (sums row).length = row.length + 1 := by unfold sums; rw [List.length_map, List.length_range]
theorem sums_at {row : List Int} {i : Nat} (h : i ≤ row.length) : (sums row)[i]? = some (pre row i) := by
  unfold sums
  rw [List.getElem?_map, List.getElem?_range (by omega)] <;> rfl
theorem plcTo_succ {row : List Int} {d : Int} {n : Nat} : plcTo row d (n + 1) = if isAt row d n = true then plcTo row d n ++ [(n : Int)] else plcTo row d n := by
  unfold plcTo
  rw [List.range_succ, List.filter_append, List.map_append, List.filter_cons]
  by_cases h : isAt row d n = true
  · rw [if_pos h, if_pos h] <;> rfl
  · rw [if_neg h, if_neg h]
    show _ ++ [] = _
    rw [List.append_nil]
theorem plcTo_len (row : List Int) (d : Int) (n : Nat) : (plcTo row d n).length ≤ n := by
  unfold plcTo
  rw [List.length_map]
  have h := List.length_filter_le (isAt row d) (List.range n)
  rwa [List.length_range] at h
theorem int_at {ns : List Int} {i : Nat} {x : V} (h : (ns.map V.int)[i]? = some x) : ∃ z, ns[i]? = some z ∧ x = .int z := by
  rw [List.getElem?_map] at h
  cases e : ns[i]? with
  | none =>
    rw [e] at h
    cases h
  | some z =>
    rw [e] at h
    exact ⟨z, rfl, (Option.some.inj h).symm⟩
theorem at_int {ns : List Int} {i : Nat} {z : Int} (h : ns[i]? = some z) : (ns.map V.int)[i]? = some (V.int z) := by rw [List.getElem?_map, h] <;> rfl
theorem lt_of_at {α : Type} {l : List α} {i : Nat} {x : α} (h : l[i]? = some x) : i < l.length := (List.getElem?_eq_some_iff.mp h).1
theorem small9 {n : Nat} (h : n ≤ 100000) : n < sizeLine := Nat.lt_of_le_of_lt h (by decide)
end Tp


set_option Elab.async false
set_option linter.all false
set_option maxRecDepth 100000
set_option maxHeartbeats 4000000
namespace Tp
open PySem PySem.Spec PyProof.Rows L2 Evl RT
/-! ### list(reversed(x)), x a list -/
section
variable {prog : Program} {w : World} {A : Around} {E : Value → Shared → Prop} {s : Shared}
theorem extendRev {R : Result → Shared → Prop} {S it l : Addr} {items : Array Value} {c₀ : Nat} (res : Value) (hh : A.handled = none) (hit : s.heap.IsRevIter it l ((items.size : Int) - 1)) (hl : s.heap.IsList l items) (ne1 : l ≠ it) (ne2 : S ≠ it) (ne3 : S ≠ l) (hn : items.size ≤ sizeLine)
    (hS : s.heap.get? S = some { cls := .type "list", data := .seq #[] c₀ })
    (hR : ∀ (h' : Heap) (tk : Nat) (acc : Array Value) (c' : Nat), (∀ b o, b ≠ S → b ≠ it → s.heap.get? b = some o → h'.get? b = some o) → h'.get? S = some { cls := .type "list", dict := none, data := .seq acc c', slots := #[] } → ItemsOf (fun i v => items[items.size - 1 - i]? = some v) acc items.size → R (.ok (.ret res)) { s with heap := h', toks := tk }) :
    wpAny (model prog w) A.in1 (Builtin.List.listExtendWith (.ref S) (.ref it) res) (fun fin s' => match fin with | .done f => R (.ok f) s' | .again c' => c'.quiet = true ∧ codeAny (model prog w) A c' R s') (fun e s' => R (.error e) s') s := by
  have walk := (Walks.listRev (prog := prog) (w := w) (A := A.in1) hh it l ne1 items).toS
  have out : S ∉ [it, l] := by
    simp only [List.mem_cons, List.not_mem_nil, or_false, not_or]
    exact ⟨ne2, ne3⟩
  have kind : s.TypeIs (.ref it) "list_reverseiterator" := hit.typeIs
  have other : Builtin.List.listSameRef (.ref S) (.ref it) = false := by simp [Builtin.List.listSameRef, ne2]
  unfold Builtin.List.listExtendWith
  refine wpAny_bind (wpAny_typeOf kind ?_)
  rw [if_neg (by rw [other]; decide)]
  refine wpAny_bind (wpAny_pyIter_revIter hit (wpAny_bind (wpAny_holding ?_)))
  unfold Builtin.List.listLengthHint
  refine wpAny_bind (wpAny_specialOf kind nolen_lri ?_)
  show wpAny _ A.in1 (specialOf (Value.ref it) (Str.ofString "__length_hint__") >>= _) _ _ _
  refine wpAny_bind (wpAny_specialOf kind hint_lri ?_)
  generalize hd : ("list_reverseiterator.__length_hint__" : String) = named
  wp_delta
  rw [show splitId named = some ("list_reverseiterator", "__length_hint__") by subst hd; decide +kernel]
  subst hd
  refine wpAny_bind (wpAny_isInstance (b := true) kind (by rw [isSubtype_type]; kernel_rfl) (wpAny_pure ?_))
  rw [if_neg (by decide)]
  have e0 : ((items.size : Nat) : Int) - 1 - ((0 : Nat) : Int) = (items.size : Int) - 1 := by omega
  refine wpAny_pure ⟨plainId_quiet F.plain_extend_loop _, codeAny_extend_loopS walk hn _ out _ items.size 0 _ _ _ rfl (Nat.zero_le _) ⟨Nat.zero_le _, by rw [e0]; exact hit, hl⟩ hS (ItemsOf.nil _) fun s' acc c' mv hS' hacc => ?_⟩
  rw [Moved.eq_with mv]
  refine hR s'.heap s'.toks acc c' (fun b o n1 n2 e => mv.heap b o (fun hm => ?_) e) hS' hacc
  rcases List.mem_cons.mp hm with z | z
  · exact n1 z
  · exact n2 (List.mem_singleton.mp z)
theorem listRev {it l : Addr} {items : Array Value} {Q : Value → Shared → Prop} (hh : A.handled = none) (hit : s.heap.IsRevIter it l ((items.size : Int) - 1)) (hl : s.heap.IsList l items) (ne1 : l ≠ it) (hn : items.size ≤ sizeLine)
    (hQ : ∀ (h' : Heap) (tk : Nat) (acc : Array Value) (c' : Nat), (∀ b o, b ≠ it → s.heap.get? b = some o → h'.get? b = some o) → h'.get? s.heap.objs.size = some { cls := .type "list", dict := none, data := .seq acc c', slots := #[] } → ItemsOf (fun i v => items[items.size - 1 - i]? = some v) acc items.size → Q (.ref s.heap.objs.size) { s with heap := h', toks := tk }) :
    wpAny (model prog w) A (call (.type "list") [.ref it]) Q E s := by
  refine callType_codes (Q₁ := fun obj t => obj = .ref s.heap.objs.size ∧ t = { s with heap := s.heap.push { cls := .type "list", data := .seq #[] } }) F.called_list (F.typeCall_list_1 _) F.entry_list_init (code_list_new _ ⟨rfl, rfl⟩) ?_
  rintro _ _ ⟨rfl, rfl⟩
  obtain ⟨oi, hoi, _⟩ := id hit
  obtain ⟨ol, hol, _⟩ := id hl
  have n2 : s.heap.objs.size ≠ it := Nat.ne_of_gt (Heap.lt_size hoi)
  have n3 : s.heap.objs.size ≠ l := Nat.ne_of_gt (Heap.lt_size hol)
  have made : (s.heap.push { cls := .type "list", data := .seq #[] }).get? s.heap.objs.size = some { cls := .type "list", data := .seq #[] } := Heap.get?_push_size _ rfl
  refine ⟨⟨_, made, rfl⟩, F.args_list_init_2 _ _, ?_⟩
  show wpAny _ A.in1.in1 (do let old ← Builtin.List.listItems (.ref s.heap.objs.size); Builtin.List.listUpdate (.ref s.heap.objs.size) (fun _ => #[]); letGo old.toList.reverse; Builtin.List.listExtendWith (.ref s.heap.objs.size) (.ref it) .none) _ _ _
  refine wpAny_bind ?_
  unfold Builtin.List.listItems
  refine wpAny_bind (wpAny_seqItems made rfl (wpAny_pure ?_))
  show wpAny _ A.in1.in1 (updateSeq s.heap.objs.size (fun _ => #[]) >>= fun _ => letGo (#[] : Array Value).toList.reverse >>= fun _ => Builtin.List.listExtendWith (.ref s.heap.objs.size) (.ref it) .none) _ _ _
  refine wpAny_bind (wpAny_updateSeq made rfl ?_)
  have empty := Heap.get?_update_self (Obj.mapSeq (fun _ => (#[] : Array Value))) made rfl
  have oth : ∀ b o, b ≠ s.heap.objs.size → s.heap.get? b = some o → ((s.heap.push { cls := .type "list", data := .seq #[] }).update s.heap.objs.size (Obj.mapSeq (fun _ => (#[] : Array Value)))).get? b = some o :=
    fun b o hb e => (Heap.get?_update_other _ _ (Ne.symm hb)).trans (Heap.get?_push_of_some _ e)
  refine wpAny_bind (wpAny_letGo ?_)
  refine extendRev (A := A.in1) .none hh (hit.at fun o e => oth _ o (Ne.symm n2) e) ?_ ne1 n2 n3 hn empty fun h' tk acc c' keep hS' hacc => ⟨rfl, hQ h' tk acc c' (fun b o hb e => keep b o (Nat.ne_of_lt (Heap.lt_size e)) hb (oth b o (Nat.ne_of_lt (Heap.lt_size e)) e)) hS' hacc⟩
  obtain ⟨o, ho, r⟩ := hl
  exact ⟨o, oth _ _ (Ne.symm n3) ho, r⟩
end
def tLstRev (K : PySem.W.Frag) (te : TE) : TE := fun τ G Q => te τ G fun v G1 => ∃ (a : Addr) (xs : List V), v = .ref a ∧ SqL K G1 a xs ∧ ∀ q, G1 q = none → Q (.ref q) (upd G1 q (.lst xs.reverse))
theorem pe_lstRev {X : Cx} (K : PySem.W.Frag) (h : X.K = K) {e : Expr} {te : TE} {p p2 pos pos2 : Pos} (hc : X.calm = true) (hg : Gl X "list") (hm : X.mg "list" = none) (hg2 : Gl X "reversed") (hm2 : X.mg "reversed" = none) (he : PE X e te)
    (hs : starEach [e] X.env = (false, eval e X.env) :: starEach [] X.env := by rfl)
    (hs2 : starEach [.Call (.Name "reversed" p2) [e] [] pos2] X.env = (false, eval (.Call (.Name "reversed" p2) [e] [] pos2) X.env) :: starEach [] X.env := by rfl) :
    PE X (.Call (.Name "list" p) [.Call (.Name "reversed" p2) [e] [] pos2] [] pos) (tLstRev K te) := by
  subst h
  constructor
  intro pins s τ G Q I h
  refine Call_ (ld_blt I hg hm boot_list (PyProof.Rows.callWith_type1 (args_cons (Call_ (ld_blt I hg2 hm2 PyProof.Rows.boot_reversed (PyProof.Rows.callWith_type1 (args_cons (thn (he.run pins s τ G _ I h) fun u t ⟨v, G1, J, rv, q1⟩ => args_nil ?_) hs) hs rfl))) hs2) hs2 rfl))
  obtain ⟨a, xs, rfl, hq, q⟩ := q1
  obtain rfl : u = Value.ref a := rv
  obtain ⟨its, vals, plain, hz⟩ := J.list hq
  have isl := plain.isList
  refine call_reversed_list isl (args_nil ?_)
  have small : its.toArray.size ≤ sizeLine := by rw [List.size_toArray, ← vals.length]; exact hz
  obtain ⟨ol, hol, _⟩ := id isl
  have apart : a ≠ t.heap.objs.size := Nat.ne_of_lt (Heap.lt_size hol)
  have J2 : Inv X pins τ G1 { t with heap := t.heap.push (revObj a ((its.toArray.size : Int) - 1)) } := J.kept (t' := t.toks) fun b o e => Heap.get?_push_of_some _ e
  obtain ⟨f0, f1, f2, f3, f4, f5⟩ := J.fpOk (H' := G1) (b := t.heap.objs.size) (Nat.le_refl _) (J.hok.fresh (Nat.le_refl _))
  have sz : (t.heap.push (revObj a ((its.toArray.size : Int) - 1))).objs.size = t.heap.objs.size + 1 := Heap.size_push ..
  refine listRev (s := { t with heap := t.heap.push (revObj a ((its.toArray.size : Int) - 1)) }) (J.ok.hd hc) ⟨_, Heap.get?_push_size _ rfl, rfl, rfl⟩ (isl.push _) apart small fun h' tk acc c' keep made items => ?_
  rw [show ({ t with heap := t.heap.push (revObj a ((its.toArray.size : Int) - 1)) } : Shared).heap.objs.size = t.heap.objs.size + 1 from sz] at made ⊢
  refine ⟨.ref _, upd G1 (t.heap.objs.size + 1) (.lst xs.reverse), J.laid (t' := tk) (fun b o e => keep b o (Nat.ne_of_lt (Heap.lt_size e)) (Heap.get?_push_of_some _ e)) (Nat.le_succ _) (show ObjOk X.prog X.w _ _ _ (.lst xs.reverse) from ⟨by rw [List.length_reverse]; exact hz, acc.toList, c', vals_rev vals items, ?_⟩), rfl, q _ (J.hok.fresh (Nat.le_succ _))⟩
  rw [Array.toArray_toList]
  exact made
end Tp


set_option Elab.async false
set_option linter.all false
set_option maxRecDepth 100000
set_option maxHeartbeats 4000000
namespace Tp
open PySem PySem.Spec PyProof.Rows L2 Evl Builtin Builtin.Str StrLaws
/-! ### the line and the column of a place -/
theorem nl_is : ("\n" : PySem.Str) = ⟨#[10]⟩ := by decide +kernel
theorem at_nl {z : PySem.Str} {hi i : Nat} (h : hi ≤ z.cps.size) : (i + (⟨#[10]⟩ : PySem.Str).length ≤ hi ∧ subAt z ⟨#[10]⟩ i = true) ↔ (z.cps.toList.take hi)[i]? = some 10 := by
  have h1 := subAt_one z 10 i
  have h2 : (⟨#[10]⟩ : PySem.Str).length = 1 := rfl
  have h3 : z.length = z.cps.size := rfl
  rw [h2] at h1 ⊢
  rw [List.getElem?_take]
  constructor
  · rintro ⟨a, b⟩
    rw [if_pos (by omega)]
    exact h1.mp ⟨by omega, b⟩
  · intro a
    split at a
    · exact ⟨by omega, (h1.mpr a).2⟩
    · cases a
/-- how many there are from a on -/
theorem occ_run {z : PySem.Str} {hi lim : Nat} (h : hi ≤ z.cps.size) : ∀ (n a : Nat) (f : Array Nat) (fr : Nat), fr ≤ a → f.size + n ≤ lim →
    (forIn (List.range' a n) (f, fr) (occBody z ⟨#[10]⟩ hi lim)).run.fst.size = f.size + (((z.cps.toList.take hi).drop a).take n).count 10
  | 0, a, f, fr, _, _ => by simp
  | n + 1, a, f, fr, h1, h2 => by
    rw [List.range'_succ, List.forIn_cons]
    have key := at_nl (i := a) h
    unfold occBody
    by_cases hc : (z.cps.toList.take hi)[a]? = some 10
    · obtain ⟨k1, k2⟩ := key.mpr hc
      rw [if_pos ⟨⟨⟨by show f.size < lim; omega, h1⟩, k1⟩, k2⟩]
      have := occ_run (lim := lim) h n (a + 1) (f.push a) (a + (⟨#[10]⟩ : PySem.Str).length) (Nat.le_refl _) (by rw [Array.size_push]; omega)
      unfold occBody at this
      refine this.trans ?_
      obtain ⟨g1, g2⟩ := List.getElem?_eq_some_iff.mp hc
      rw [List.drop_eq_getElem_cons g1, List.take_succ_cons, g2, List.count_cons_self, Array.size_push]
      omega
    · rw [if_neg fun q => hc (key.mp ⟨q.1.2, q.2⟩)]
      have := occ_run (lim := lim) h n (a + 1) f fr (by omega) (by omega)
      unfold occBody at this
      refine this.trans ?_
      by_cases hl : a < (z.cps.toList.take hi).length
      · rw [List.drop_eq_getElem_cons hl, List.take_succ_cons]
        rw [List.getElem?_eq_getElem hl] at hc
        rw [List.count_cons_of_ne fun q => hc (by rw [q])]
      · rw [List.drop_eq_nil_of_le (by omega), List.drop_eq_nil_of_le (by omega)]
        simp
theorem ix_nat {z : PySem.Str} {i : Nat} (h : i ≤ z.cps.size) : fromIndex z.length 0 = 0 ∧ toIndexW z.length (i : Int) = i := by
  have h3 : z.length = z.cps.size := rfl
  unfold fromIndex toIndexW
  rw [if_neg (by omega), if_neg (by omega)]
  omega
theorem line_eq {z : PySem.Str} {i : Nat} (h : i ≤ z.cps.size) : Txt.countIn z "\n" 0 (i : Int) = (((z.cps.toList.take i).count 10 : Nat) : Int) := by
  unfold Txt.countIn
  rw [(ix_nat h).1, (ix_nat h).2, nl_is, occ_eq]
  have h3 : z.length = z.cps.size := rfl
  have := occ_run (lim := z.length + 1) h (i + 1) 0 #[] 0 (Nat.le_refl _) (by rw [h3]; show 0 + (i + 1) ≤ _; omega)
  rw [List.drop_zero, List.take_of_length_le (by rw [List.length_take]; omega)] at this
  rw [Nat.sub_zero, Array.length_toList, this]
  simp
theorem col_none {z : PySem.Str} {i : Nat} (h : i ≤ z.cps.size) (hn : 10 ∉ z.cps.toList.take i) : Txt.rfindIn z "\n" 0 (i : Int) = -1 := by
  unfold Txt.rfindIn
  rw [(ix_nat h).1, (ix_nat h).2, nl_is, last_eq]
  have key := last_run z ⟨#[10]⟩ i (List.range' 0 (i + 1 - 0)) [] none (fun _ h => nomatch h) (fun _ h => nomatch h) (by simpa using List.pairwise_lt_range' (s := 0) (n := i + 1 - 0))
  cases hr : (forIn (List.range' 0 (i + 1 - 0)) none (lastBody z ⟨#[10]⟩ i)).run with
  | none => rfl
  | some a =>
    rw [hr] at key
    exact absurd (List.mem_of_getElem? ((at_nl h).mp key.1)) hn
theorem col_some {z : PySem.Str} {i k : Nat} (h : i ≤ z.cps.size) (hk : k < i) (h1 : z.cps.toList[k]? = some 10) (h2 : ∀ j, k < j → j < i → z.cps.toList[j]? ≠ some 10) : Txt.rfindIn z "\n" 0 (i : Int) = (k : Int) := by
  unfold Txt.rfindIn
  rw [(ix_nat h).1, (ix_nat h).2, nl_is, last_eq]
  have key := last_run z ⟨#[10]⟩ i (List.range' 0 (i + 1 - 0)) [] none (fun _ h => nomatch h) (fun _ h => nomatch h) (by simpa using List.pairwise_lt_range' (s := 0) (n := i + 1 - 0))
  have atk : (k + (⟨#[10]⟩ : PySem.Str).length ≤ i ∧ subAt z ⟨#[10]⟩ k = true) := (at_nl h).mpr (by rw [List.getElem?_take, if_pos hk]; exact h1)
  have mem : k ∈ [] ++ List.range' 0 (i + 1 - 0) := by simp [List.mem_range']; omega
  cases hr : (forIn (List.range' 0 (i + 1 - 0)) none (lastBody z ⟨#[10]⟩ i)).run with
  | none =>
    rw [hr] at key
    exact absurd atk (key k mem)
  | some a =>
    rw [hr] at key
    show (a : Int) = k
    have ha := (at_nl h).mp key.1
    rw [List.getElem?_take] at ha
    split at ha
    · rename_i hai
      by_cases q : a < k
      · exact absurd atk (key.2 k mem q)
      · by_cases q2 : k < a
        · exact absurd ha (h2 a q2 hai)
        · have : a = k := by omega
          rw [this]
    · cases ha
end Tp


set_option Elab.async false
set_option linter.all false
set_option maxRecDepth 100000
set_option maxHeartbeats 4000000
namespace Tp
open PySem PySem.Spec PyProof.Rows L2 Evl
/-! ### the places of the newlines -/
def isNl (L : List Nat) (k : Nat) : Bool := decide (L[k]? = some 10)
theorem pos_last (L : List Nat) : ∀ n, ((List.range n).filter (isNl L) = [] ∧ ∀ j < n, L[j]? ≠ some 10) ∨ ∃ as k, (List.range n).filter (isNl L) = as ++ [k] ∧ k < n ∧ L[k]? = some 10 ∧ ∀ j, k < j → j < n → L[j]? ≠ some 10
  | 0 => .inl ⟨rfl, fun j h => absurd h (Nat.not_lt_zero _)⟩
  | n + 1 => by
    rw [List.range_succ, List.filter_append]
    by_cases h : L[n]? = some 10
    · refine .inr ⟨(List.range n).filter (isNl L), n, ?_, Nat.lt_succ_self _, h, fun j h1 h2 => by omega⟩
      have : [n].filter (isNl L) = [n] := by
        unfold isNl
        rw [List.filter_cons, if_pos (decide_eq_true h)]
        rfl
      rw [this]
    · have : [n].filter (isNl L) = [] := by
        unfold isNl
        rw [List.filter_cons, if_neg (by rw [decide_eq_false h]; nofun)]
        rfl
      rw [this, List.append_nil]
      rcases pos_last L n with ⟨h1, h2⟩ | ⟨as, k, h1, h2, h3, h4⟩
      · refine .inl ⟨h1, fun j hj => ?_⟩
        by_cases e : j = n
        · rw [e]; exact h
        · exact h2 j (by omega)
      · refine .inr ⟨as, k, h1, by omega, h3, fun j a b => ?_⟩
        by_cases e : j = n
        · rw [e]; exact h
        · exact h4 j a (by omega)
theorem pos_len (L : List Nat) : ∀ n, n ≤ L.length → ((List.range n).filter (isNl L)).length = (L.take n).count 10
  | 0, _ => by simp
  | n + 1, h => by
    have hn : n < L.length := by omega
    rw [List.range_succ, List.filter_append, List.length_append, pos_len L n (by omega), List.take_succ, List.getElem?_eq_getElem hn, List.count_append]
    congr 1
    unfold isNl
    by_cases e : L[n] = 10
    · rw [List.filter_cons, if_pos (decide_eq_true (by rw [List.getElem?_eq_getElem hn, e]))]
      simp [e]
    · rw [List.filter_cons, if_neg (by
        rw [decide_eq_false (fun q => e (Option.some.inj ((List.getElem?_eq_getElem hn).symm.trans q)))]
        nofun)]
      simp [e]
/-- the line and the column, from the newlines ahead -/
theorem place_line {z : Str} {i : Nat} (h : i ≤ z.cps.size) : Txt.countIn z "\n" 0 (i : Int) + 1 = 1 + (((List.range i).filter (isNl (z.cps.toList.take i))).length : Int) := by
  have hl : (z.cps.toList.take i).length = i := by rw [List.length_take, Array.length_toList]; omega
  rw [line_eq h, pos_len _ _ (by omega), List.take_take, Nat.min_self]
  omega
theorem place_col {z : Str} {i : Nat} (h : i ≤ z.cps.size) : (i : Int) - Txt.rfindIn z "\n" 0 (i : Int) = match ((List.range i).filter (isNl (z.cps.toList.take i))).getLast? with
    | none => (i : Int) + 1
    | some k => (i : Int) - (k : Int) := by
  rcases pos_last (z.cps.toList.take i) i with ⟨h1, h2⟩ | ⟨as, k, h1, h2, h3, h4⟩
  · rw [h1, col_none h (fun hm => by
      obtain ⟨j, hj, e⟩ := List.getElem_of_mem hm
      have hj' : j < i := by rw [List.length_take] at hj; omega
      exact h2 j hj' (by rw [List.getElem?_eq_getElem hj, e]))]
    show (i : Int) - -1 = (i : Int) + 1
    omega
  · have t : ∀ j, j < i → (z.cps.toList.take i)[j]? = z.cps.toList[j]? := fun j hj => by rw [List.getElem?_take, if_pos hj]
    rw [h1, List.getLast?_concat, col_some h h2 (by rw [← t k h2]; exact h3) fun j a b => by rw [← t j b]; exact h4 j a b]
end Tp


set_option Elab.async false
set_option linter.all false
set_option maxRecDepth 100000
set_option maxHeartbeats 4000000
namespace Tp
open PySem PySem.Spec PyProof.Rows L2 Evl
/-! ### the model reads what is written -/
theorem rdNext_esc {c : Nat} (h : c ∈ signCs) (l : List Nat) : rdNext (escC c ++ l) = some (l, (escC c).length, c) := by
  unfold rdNext
  simp only [signCs, List.mem_cons, List.not_mem_nil, or_false] at h
  rcases h with rfl | rfl | rfl | rfl | rfl | rfl | rfl | rfl | rfl | rfl | rfl | rfl <;> (simp [escC, sgB]; try rfl)
theorem esc_head {c : Nat} (h : c ∈ signCs) (l : List Nat) : (escC c ++ l).head? ≠ some 60 := by
  simp only [signCs, List.mem_cons, List.not_mem_nil, or_false] at h
  rcases h with rfl | rfl | rfl | rfl | rfl | rfl | rfl | rfl | rfl | rfl | rfl | rfl <;> simp [escC]
/-- a text's signs are read, behind some others -/
theorem rdText_esc {d : Nat} : ∀ (cs : List Nat) (f : Nat) (acc l : List Nat) (i n : Nat), (∀ c ∈ cs, c ∈ signCs) → acc ≠ [] → acc.length + cs.length ≤ 200 → rdText d (f + cs.length) acc (escL cs ++ l) i n = rdText d f (acc ++ cs) l (i + (escL cs).length) n
  | [], f, acc, l, i, n, _, _, _ => by
    rw [List.append_nil]
    rfl
  | c :: cs, f, acc, l, i, n, h, ha, hl => by
    have hc := h c (List.mem_cons_self ..)
    have e : escL (c :: cs) ++ l = escC c ++ (escL cs ++ l) := by
      unfold escL
      rw [List.flatMap_cons, List.append_assoc]
    rw [List.length_cons] at hl
    rw [e, List.length_cons, show f + (cs.length + 1) = (f + cs.length) + 1 by omega, rdText, if_neg (esc_head hc _), rdNext_esc hc]
    dsimp only
    rw [if_neg (by omega), if_neg ha, rdText_esc cs f _ _ _ _ (fun x hx => h x (List.mem_cons_of_mem _ hx)) (by simp) (by rw [List.length_append, List.length_singleton]; omega)]
    have e2 : (escL (c :: cs)).length = (escC c).length + (escL cs).length := by
      unfold escL
      rw [List.flatMap_cons, List.length_append]
    rw [e2, List.append_assoc, Nat.add_assoc]
    rfl
theorem rdText_esc0 {d f : Nat} {cs l : List Nat} {i n : Nat} (h : ∀ c ∈ cs, c ∈ signCs) (h0 : cs ≠ []) (hl : cs.length ≤ 200) (hc : ∀ l, cntR d l n = none) : rdText d (f + cs.length) [] (escL cs ++ l) i n = rdText d f cs l (i + (escL cs).length) (n + 1) := by
  cases cs with
  | nil => exact absurd rfl h0
  | cons c cs =>
    have hcs := h c (List.mem_cons_self ..)
    have e : escL (c :: cs) ++ l = escC c ++ (escL cs ++ l) := by
      unfold escL
      rw [List.flatMap_cons, List.append_assoc]
    rw [List.length_cons] at hl
    rw [e, List.length_cons, show f + (cs.length + 1) = (f + cs.length) + 1 by omega, rdText, if_neg (esc_head hcs _), rdNext_esc hcs]
    dsimp only
    rw [if_neg (by decide), if_pos (by rfl), hc]
    dsimp only
    rw [rdText_esc cs f _ _ _ _ (fun x hx => h x (List.mem_cons_of_mem _ hx)) (by simp) (by simp; omega)]
    have e2 : (escL (c :: cs)).length = (escC c).length + (escL cs).length := by
      unfold escL
      rw [List.flatMap_cons, List.length_append]
    rw [e2, Nat.add_assoc]
    rfl
theorem cnt_none {d n : Nat} (hd : d ≤ 60) (hn : n ≠ 5000) (l : List Nat) : cntR d l n = none := by
  unfold cntR
  rw [if_neg (by omega), if_neg hn]
/-- no letter at the end of a name -/
theorem run_name {nm : Str} (h : nm ∈ fourNames) {c : Nat} (hc : letB c = false) (l : List Nat) : runL letB (nm.cps.toList ++ c :: l) = nm.cps.toList.length ∧ nameOk (nm.cps.toList ++ c :: l) = true := by
  have hr : ∀ zs : List Nat, (∀ z ∈ zs, letB z = true) → runL letB (zs ++ c :: l) = zs.length := by
    intro zs
    induction zs with
    | nil =>
      intro _
      rw [List.nil_append, runL, hc]
      rfl
    | cons z zs ih =>
      intro hz
      rw [List.cons_append, runL, hz z (List.mem_cons_self ..), List.length_cons, ih fun x hx => hz x (List.mem_cons_of_mem _ hx)]
      rfl
  have hl : ∀ n ∈ fourNames, (∀ z ∈ n.cps.toList, letB z = true) ∧ 1 ≤ n.cps.toList.length ∧ n.cps.toList.length ≤ 12 := by decide +kernel
  obtain ⟨h1, h2, h3⟩ := hl nm h
  have e := hr _ h1
  refine ⟨e, ?_⟩
  unfold nameOk
  rw [e, Nat.ble_eq_true_of_le h2, Nat.ble_eq_true_of_le h3]
  rfl
theorem rdBegin_wr {F : List Fram} {nm : Str} {l : List Nat} {i n : Nat} (h : nm ∈ fourNames) (hF : F.length ≤ 60) (hn : n ≠ 5000) : rdBegin F (60 :: (nm.cps.toList ++ 62 :: l)) i n = .ok ((nm, []) :: F) l (i + (2 + nm.cps.toList.length)) (n + 1) := by
  obtain ⟨e1, e2⟩ := run_name h (show letB 62 = false by decide) l
  unfold rdBegin
  rw [List.tail_cons, if_neg (by simp), cnt_none hF hn, e2]
  dsimp only
  rw [cond_true, e1, List.take_left, List.drop_left, sL_of, if_neg (by simp)]
  unfold rdEndTag
  rw [if_pos (by rfl), List.tail_cons, show i + 1 + nm.cps.toList.length + 1 = i + (2 + nm.cps.toList.length) by omega]
theorem rdEnd_wr {ds : List Tr} {F : List Fram} {nm : Str} {l : List Nat} {i n : Nat} (h : nm ∈ fourNames) : rdEnd ((nm, ds) :: F) (60 :: 47 :: (nm.cps.toList ++ 62 :: l)) i n = .ok (addK F (.el nm ds)) l (i + (3 + nm.cps.toList.length)) n := by
  obtain ⟨e1, e2⟩ := run_name h (show letB 62 = false by decide) l
  unfold rdEnd
  rw [show (60 :: 47 :: (nm.cps.toList ++ 62 :: l)).drop 2 = nm.cps.toList ++ 62 :: l from rfl, e2]
  dsimp only
  rw [cond_true, e1, List.take_left, List.drop_left, if_neg (fun q => q.1 rfl)]
  unfold rdEndTag
  rw [if_pos (by rfl), List.tail_cons]
  show RR.ok (addK F (.el nm ds)) l _ n = _
  rw [show i + 2 + nm.cps.toList.length + 1 = i + (3 + nm.cps.toList.length) by omega]
theorem loop_begin {f : Nat} {F : List Fram} {nm : Str} {l : List Nat} {i n : Nat} (h : nm ∈ fourNames) (h1 : 1 < F.length) (hF : F.length ≤ 60) (hn : n ≠ 5000) : rdLoop (f + 1) F (60 :: (nm.cps.toList ++ 62 :: l)) i n = rdLoop f ((nm, []) :: F) l (i + (2 + nm.cps.toList.length)) (n + 1) := by
  rw [rdLoop, if_pos h1]
  have hp : rdPart F (60 :: (nm.cps.toList ++ 62 :: l)) i n = .ok ((nm, []) :: F) l (i + (2 + nm.cps.toList.length)) (n + 1) := by
    unfold rdPart
    have h47 : ∀ n ∈ fourNames, n.cps.toList.head? ≠ some 47 ∧ n.cps.toList ≠ [] := by decide +kernel
    obtain ⟨a1, a2⟩ := h47 nm h
    rw [if_neg (show ¬ (60 :: (nm.cps.toList ++ 62 :: l)).take 2 = [60, 47] from fun q => by
      cases e : nm.cps.toList with
      | nil => exact a2 e
      | cons c r =>
        rw [e] at q a1
        have := (List.cons.inj (List.cons.inj q).2).1
        exact a1 (by rw [this]; rfl)), if_pos (by rfl)]
    exact rdBegin_wr h hF hn
  rw [hp]
theorem loop_end {f : Nat} {ds : List Tr} {g : Fram} {r : List Fram} {nm : Str} {l : List Nat} {i n : Nat} (h : nm ∈ fourNames) : rdLoop (f + 1) ((nm, ds) :: g :: r) (60 :: 47 :: (nm.cps.toList ++ 62 :: l)) i n = rdLoop f (addK (g :: r) (.el nm ds)) l (i + (3 + nm.cps.toList.length)) n := by
  rw [rdLoop, if_pos (by simp)]
  unfold rdPart
  rw [if_pos (by rfl), rdEnd_wr h]
theorem loop_text {f k : Nat} {F : List Fram} {z : Str} {l : List Nat} {i n : Nat} (hz : okText k z) (hk : k ≤ 200) (h1 : 1 < F.length) (hF : F.length ≤ 60) (hn : n ≠ 5000) : rdLoop (f + 1) F (escL z.cps.toList ++ 60 :: l) i n = rdLoop f (addK F (.txt z)) (60 :: l) (i + (escL z.cps.toList).length) (n + 1) := by
  obtain ⟨z1, z2, z3⟩ := hz
  have hl : z.cps.toList.length = z.cps.size := Array.length_toList
  have hne : z.cps.toList ≠ [] := fun e => by rw [e] at hl; simp at hl; omega
  rw [rdLoop, if_pos h1]
  have hh : (escL z.cps.toList ++ 60 :: l).head? ≠ some 60 := by
    cases e : z.cps.toList with
    | nil => exact absurd e hne
    | cons c r =>
      have : escL (c :: r) ++ 60 :: l = escC c ++ (escL r ++ 60 :: l) := by
        unfold escL
        rw [List.flatMap_cons, List.append_assoc]
      rw [this]
      exact esc_head (z3 c (by rw [e]; exact List.mem_cons_self ..)) _
  have hp : rdPart F (escL z.cps.toList ++ 60 :: l) i n = .ok (addK F (.txt z)) (60 :: l) (i + (escL z.cps.toList).length) (n + 1) := by
    unfold rdPart
    rw [if_neg (show ¬ (escL z.cps.toList ++ 60 :: l).take 2 = [60, 47] from fun q => hh (by
      cases e : escL z.cps.toList ++ 60 :: l with
      | nil => rw [e] at q; cases q
      | cons c r =>
        rw [e] at q
        cases r with
        | nil => cases q
        | cons d r => rw [(List.cons.inj q).1]; rfl)), if_neg hh]
    have hL : z.cps.toList.length ≤ (escL z.cps.toList ++ 60 :: l).length := by
      have : ∀ cs : List Nat, cs.length ≤ (escL cs).length := by
        intro cs
        induction cs with
        | nil => exact Nat.le_refl _
        | cons c cs ih =>
          have := (escC_len c).1
          unfold escL at ih ⊢
          rw [List.flatMap_cons, List.length_append, List.length_cons]
          omega
      have := this z.cps.toList
      rw [List.length_append]
      omega
    obtain ⟨q, hq⟩ : ∃ q, (escL z.cps.toList ++ 60 :: l).length + 1 = (q + 1) + z.cps.toList.length := ⟨(escL z.cps.toList ++ 60 :: l).length - z.cps.toList.length, by omega⟩
    rw [hq, rdText_esc0 z3 hne (by omega) (cnt_none hF hn), rdText, if_pos (by rfl)]
    dsimp only
    rw [sL_of]
  rw [hp]

mutual
/-- how many turns the reader takes -/
def stp : Tr → Nat
  | .txt _ => 1
  | .el _ cs => 2 + stps cs
def stps : List Tr → Nat
  | [] => 0
  | c :: cs => stp c + stps cs
end
def addKs (F : List Fram) (cs : List Tr) : List Fram := match F with
  | [] => []
  | f :: r => (f.1, f.2 ++ cs) :: r
theorem addKs_nil (F : List Fram) : addKs F [] = F := by
  cases F with
  | nil => rfl
  | cons f r =>
    show (f.1, f.2 ++ []) :: r = f :: r
    rw [List.append_nil]
theorem addKs_cons (F : List Fram) (t : Tr) (cs : List Tr) : addKs (addK F t) cs = addKs F (t :: cs) := by
  cases F with
  | nil => rfl
  | cons f r =>
    show (f.1, f.2 ++ [t] ++ cs) :: r = (f.1, f.2 ++ t :: cs) :: r
    rw [List.append_assoc]
    rfl
theorem addK_len (F : List Fram) (t : Tr) : (addK F t).length = F.length := by cases F <;> rfl
/-- what reading a tree does -/
def ReadsT (k : Nat) (t : Tr) : Prop := ∀ (f : Nat) (F : List Fram) (l : List Nat) (i n : Nat), 2 ≤ F.length → F.length + k ≤ 60 → n + nod t ≤ 5000 → (t.isT = true → ∃ l', l = 60 :: l') → rdLoop (f + stp t) F (wr true t ++ l) i n = rdLoop f (addK F t) l (i + (wr true t).length) (n + nod t)
theorem reads_kids {k : Nat} : ∀ cs : List Tr, (∀ c ∈ cs, ReadsT k c) → apartT cs → ∀ (f : Nat) (F : List Fram) (l : List Nat) (i n : Nat), 2 ≤ F.length → F.length + k ≤ 60 → n + nods cs ≤ 5000 → rdLoop (f + stps cs) F (wrs true cs ++ 60 :: l) i n = rdLoop f (addKs F cs) (60 :: l) (i + (wrs true cs).length) (n + nods cs)
  | [], _, _, f, F, l, i, n, _, _, _ => by
    rw [stps, nods, wrs, addKs_nil]
    rfl
  | c :: cs, h, hap, f, F, l, i, n, h2, hF, hn => by
    rw [nods] at hn
    rw [stps, nods, wrs, show f + (stp c + stps cs) = (f + stps cs) + stp c by omega, List.append_assoc, h c (List.mem_cons_self ..) _ F _ i n h2 hF (by omega) (fun ht => by
      cases c with
      | txt z => exact behind_txt hap l
      | el nm ds => cases ht), reads_kids cs (fun x hx => h x (List.mem_cons_of_mem _ hx)) (apartT_tail hap) f _ l _ _ (by rw [addK_len]; exact h2) (by rw [addK_len]; exact hF) (by omega), addKs_cons, List.length_append, Nat.add_assoc, Nat.add_assoc]
theorem wr_el (nm : Str) (cs : List Tr) (l : List Nat) : wr true (.el nm cs) ++ l = 60 :: (nm.cps.toList ++ 62 :: (wrs true cs ++ 60 :: 47 :: (nm.cps.toList ++ 62 :: l))) := by
  rw [wr, if_neg (by simp)]
  simp
theorem wr_el_len (nm : Str) (cs : List Tr) : (wr true (.el nm cs)).length = (2 + nm.cps.toList.length) + (wrs true cs).length + (3 + nm.cps.toList.length) := by
  have := congrArg List.length (wr_el nm cs [])
  rw [List.append_nil] at this
  rw [this]
  simp only [List.length_cons, List.length_append, List.length_nil]
  omega
theorem reads_ok : ∀ (k : Nat) (t : Tr), okTr k t → ReadsT k t
  | k, .txt z, h => by
    intro f F l i n h2 hF hn hl
    obtain ⟨l', rfl⟩ := hl rfl
    have hz : okText 5 z := by cases k <;> exact h
    rw [nod] at hn ⊢
    rw [stp, wr]
    exact loop_text hz (by decide) (by omega) (by omega) (by omega)
  | 0, .el _ _, h => h.elim
  | k + 1, .el nm cs, h => by
    obtain ⟨a1, a2, a3, a4⟩ := h
    intro f F l i n h2 hF hn hl
    rw [nod] at hn ⊢
    obtain ⟨g, r, rfl⟩ : ∃ g r, F = g :: r := by
      cases F with
      | nil => simp at h2
      | cons g r => exact ⟨g, r, rfl⟩
    rw [stp, wr_el, show f + (2 + stps cs) = ((f + 1) + stps cs) + 1 by omega, loop_begin a1 (by omega) (by omega) (by omega)]
    rw [reads_kids (k := k) cs (fun c hc => reads_ok k c (a4 c hc)) a3 _ _ _ _ _ (by simp) (by rw [List.length_cons]; omega) (by omega)]
    show rdLoop (f + 1) ((nm, [] ++ cs) :: g :: r) _ _ _ = _
    rw [List.nil_append, loop_end a1, wr_el_len]
    congr 1
    · omega
    · omega
theorem stp_le : ∀ (k : Nat) (t : Tr), okTr k t → stp t ≤ (wr true t).length
  | k, .txt z, h => by
    have hz : okText 5 z := by cases k <;> exact h
    obtain ⟨z1, _, _⟩ := hz
    have hl : z.cps.toList.length = z.cps.size := Array.length_toList
    rw [stp, wr]
    cases e : z.cps.toList with
    | nil => rw [e] at hl; simp at hl; omega
    | cons c r =>
      have := (escC_len c).1
      unfold escL
      rw [List.flatMap_cons, List.length_append]
      omega
  | 0, .el _ _, h => h.elim
  | k + 1, .el nm cs, h => by
    have g : ∀ cs : List Tr, (∀ c ∈ cs, okTr k c) → stps cs ≤ (wrs true cs).length := by
      intro cs
      induction cs with
      | nil =>
        intro _
        rw [stps]
        exact Nat.zero_le _
      | cons c cs ih =>
        intro hc
        have h1 := stp_le k c (hc c (List.mem_cons_self ..))
        have h2 := ih fun x hx => hc x (List.mem_cons_of_mem _ hx)
        rw [stps, wrs, List.length_append]
        omega
    have := g cs h.2.2.2
    rw [stp, wr_el_len]
    omega
theorem stps_le {k : Nat} : ∀ cs : List Tr, (∀ c ∈ cs, okTr k c) → stps cs ≤ (wrs true cs).length := by
  intro cs
  induction cs with
  | nil =>
    intro _
    rw [stps]
    exact Nat.zero_le _
  | cons c cs ih =>
    intro hc
    have h1 := stp_le k c (hc c (List.mem_cons_self ..))
    have h2 := ih fun x hx => hc x (List.mem_cons_of_mem _ hx)
    rw [stps, wrs, List.length_append]
    omega
def rdFin : RR → RR
  | .no j r => .no j r
  | .ok F l i n => if l = [] then .ok F l i n else .no i (why l "more")
theorem rdDoc_eq {l l1 : List Nat} {F : List Fram} {i n : Nat} (h : rdRoot l = .ok F l1 i n) : rdDoc l = rdFin (rdLoop (l1.length + 1) F l1 i n) := by
  unfold rdDoc
  rw [h]
  dsimp only
  cases rdLoop (l1.length + 1) F l1 i n <;> rfl
theorem rdRoot_wr {nm : Str} {l : List Nat} (h : nm ∈ fourNames) : rdRoot (60 :: (nm.cps.toList ++ 62 :: l)) = .ok [(nm, []), ("", [])] l (2 + nm.cps.toList.length) 1 := by
  unfold rdRoot
  rw [if_pos (by rfl), rdBegin_wr (F := [("", [])]) h (show [("", ([] : List Tr))].length ≤ 60 by decide) (by decide), Nat.zero_add]
/-- a right text is read, whatever stands behind it -/
theorem rdDoc_tail {k : Nat} {nm : Str} {cs : List Tr} (h : okTr (k + 1) (.el nm cs)) (hk : k ≤ 58) (hn : nod (.el nm cs) ≤ 5000) (l : List Nat) : rdDoc (wr true (.el nm cs) ++ l) = rdFin (.ok [("", [.el nm cs])] l (wr true (.el nm cs)).length (nod (.el nm cs))) := by
  obtain ⟨a1, a2, a3, a4⟩ := h
  rw [nod] at hn ⊢
  have hs := stps_le cs a4
  rw [wr_el, rdDoc_eq (rdRoot_wr a1)]
  obtain ⟨q, hq⟩ : ∃ q, List.length (wrs true cs ++ 60 :: 47 :: (nm.cps.toList ++ 62 :: l)) + 1 = ((q + 1) + 1) + stps cs := ⟨(wrs true cs).length + nm.cps.toList.length + l.length + 2 - stps cs, by
    simp only [List.length_append, List.length_cons, List.length_nil]
    omega⟩
  rw [hq, reads_kids (k := k) cs (fun c hc => reads_ok k c (a4 c hc)) a3 _ _ _ _ _ (by simp) (by show 2 + k ≤ 60; omega) (by omega)]
  rw [show addKs [(nm, []), ("", [])] cs = (nm, cs) :: [("", [])] from rfl, loop_end a1, show addK [(("" : PySem.Str), ([] : List Tr))] (.el nm cs) = [(("" : PySem.Str), [Tr.el nm cs])] from rfl, rdLoop, if_neg (by simp), wr_el_len]
theorem rdDoc_wr {k : Nat} {nm : Str} {cs : List Tr} (h : okTr (k + 1) (.el nm cs)) (hk : k ≤ 58) (hn : nod (.el nm cs) ≤ 5000) : ∃ i n, rdDoc (wr true (.el nm cs)) = .ok [("", [.el nm cs])] [] i n := by
  have := rdDoc_tail h hk hn []
  rw [List.append_nil] at this
  exact ⟨_, _, this⟩
theorem rdDoc_more {k : Nat} {nm : Str} {cs : List Tr} (h : okTr (k + 1) (.el nm cs)) (hk : k ≤ 58) (hn : nod (.el nm cs) ≤ 5000) {l : List Nat} (hl : l ≠ []) : rdDoc (wr true (.el nm cs) ++ l) = .no (wr true (.el nm cs)).length (why l "more") := by
  rw [rdDoc_tail h hk hn]
  unfold rdFin
  dsimp only
  rw [if_neg hl]
/-- pre ends right behind a begin tag of the written tree, rest is what stands behind it -/
inductive Opn : Tr → List Nat → List Nat → Prop
  | here (nm : Str) (cs : List Tr) : Opn (.el nm cs) (60 :: (nm.cps.toList ++ [62])) (wrs true cs ++ 60 :: 47 :: (nm.cps.toList ++ [62]))
  | deep (nm : Str) (as bs : List Tr) (c : Tr) (pre rest : List Nat) : Opn c pre rest → Opn (.el nm (as ++ c :: bs)) (60 :: (nm.cps.toList ++ 62 :: (wrs true as ++ pre))) (rest ++ (wrs true bs ++ 60 :: 47 :: (nm.cps.toList ++ [62])))
theorem wrs_app (b : Bool) : ∀ as bs : List Tr, wrs b (as ++ bs) = wrs b as ++ wrs b bs
  | [], bs => by rw [wrs]; rfl
  | c :: as, bs => by rw [List.cons_append, wrs, wrs, wrs_app b as bs, List.append_assoc]
theorem opn_wr {t : Tr} {pre rest : List Nat} (h : Opn t pre rest) : pre ++ rest = wr true t := by
  induction h with
  | here nm cs =>
    have := wr_el nm cs []
    rw [List.append_nil] at this
    rw [this]
    simp
  | deep nm as bs c pre rest h ih =>
    have := wr_el nm (as ++ c :: bs) []
    rw [List.append_nil] at this
    rw [this, wrs_app, wrs, ← ih]
    simp
theorem opn_head {t : Tr} {pre rest : List Nat} (h : Opn t pre rest) : ∃ p, pre = 60 :: p := by cases h <;> exact ⟨_, rfl⟩
theorem apart_app : ∀ {as bs : List Tr}, apartT (as ++ bs) → apartT as
  | [], _, _ => trivial
  | [a], _, _ => trivial
  | a :: b :: as, bs, h => ⟨h.1, apart_app (as := b :: as) h.2⟩
theorem nods_app : ∀ as bs : List Tr, nods (as ++ bs) = nods as + nods bs
  | [], bs => by rw [nods]; exact (Nat.zero_add _).symm
  | a :: as, bs => by rw [List.cons_append, nods, nods, nods_app as bs, Nat.add_assoc]
/-- the state behind pre -/
def Behind (k : Nat) (F : List Fram) (n : Nat) (t : Tr) (F' : List Fram) (n' : Nat) : Prop := (∃ nm g r, F' = (nm, []) :: g :: r ∧ nm ∈ fourNames) ∧ F'.length ≤ F.length + k ∧ n' ≤ n + nod t
theorem opn_state {t : Tr} {pre rest : List Nat} (h : Opn t pre rest) : ∀ (k : Nat), okTr k t → ∀ (F : List Fram) (i n : Nat), 2 ≤ F.length → F.length + k ≤ 60 → n + nod t ≤ 5000 →
    ∃ F' n' m, (∀ f l, rdLoop (f + m) F (pre ++ l) i n = rdLoop f F' l (i + pre.length) n') ∧ Behind k F n t F' n' ∧ m ≤ pre.length := by
  induction h with
  | here nm cs =>
    intro k hk F i n h2 hF hn
    cases k with
    | zero => exact hk.elim
    | succ k =>
      rw [nod] at hn
      obtain ⟨g, r, rfl⟩ : ∃ g r, F = g :: r := by
        cases F with
        | nil => simp at h2
        | cons g r => exact ⟨g, r, rfl⟩
      refine ⟨(nm, []) :: g :: r, n + 1, 1, fun f l => ?_, ⟨⟨nm, g, r, rfl, hk.1⟩, by rw [List.length_cons]; omega, by rw [nod]; omega⟩, by rw [List.length_cons]; omega⟩
      have e : 60 :: (nm.cps.toList ++ [62]) ++ l = 60 :: (nm.cps.toList ++ 62 :: l) := by simp
      rw [e, loop_begin hk.1 (by omega) (by omega) (by omega)]
      congr 1
      simp only [List.length_cons, List.length_append, List.length_nil]
      omega
  | deep nm as bs c pre rest h ih =>
    intro k hk F i n h2 hF hn
    cases k with
    | zero => exact hk.elim
    | succ k =>
      obtain ⟨a1, a2, a3, a4⟩ := hk
      rw [nod, nods_app, nods] at hn
      obtain ⟨g, r, rfl⟩ : ∃ g r, F = g :: r := by
        cases F with
        | nil => simp at h2
        | cons g r => exact ⟨g, r, rfl⟩
      obtain ⟨p, hp⟩ := opn_head h
      obtain ⟨F', n', m, h1, ⟨h3, h4, h5⟩, h6⟩ := ih k (a4 c (by simp)) ((nm, [] ++ as) :: g :: r) (i + (2 + nm.cps.toList.length) + (wrs true as).length) (n + 1 + nods as) (by simp) (by rw [List.length_cons]; omega) (by omega)
      refine ⟨F', n', m + stps as + 1, fun f l => ?_, ⟨h3, by rw [List.length_cons] at h4; omega, by rw [nod, nods_app, nods]; omega⟩, ?_⟩
      · have e : 60 :: (nm.cps.toList ++ 62 :: (wrs true as ++ pre)) ++ l = 60 :: (nm.cps.toList ++ 62 :: (wrs true as ++ 60 :: (p ++ l))) := by
          rw [hp]
          simp
        rw [e, show f + (m + stps as + 1) = ((f + m) + stps as) + 1 by omega, loop_begin a1 (by omega) (by omega) (by omega)]
        rw [reads_kids (k := k) as (fun c hc => reads_ok k c (a4 c (List.mem_append_left _ hc))) (apart_app a3) _ _ _ _ _ (by simp) (by rw [List.length_cons]; omega) (by omega)]
        have := h1 f l
        rw [hp] at this
        rw [List.cons_append] at this
        refine this.trans ?_
        rw [hp]
        congr 1
        simp only [List.length_cons, List.length_append]
        omega
      · have := stps_le as fun c hc => a4 c (List.mem_append_left _ hc)
        simp only [List.length_cons, List.length_append]
        omega
/-- from the root on -/
theorem opn_root {t : Tr} {pre rest : List Nat} (h : Opn t pre rest) {k : Nat} (hk : okTr (k + 1) t) (hk5 : k ≤ 50) (hn : nod t ≤ 4000) : ∃ F' n', (∃ nm g r, F' = (nm, []) :: g :: r ∧ nm ∈ fourNames) ∧ F'.length ≤ 60 ∧ n' < 5000 ∧ ∀ l, ∃ q, l.length < q ∧ rdDoc (pre ++ l) = rdFin (rdLoop q F' l pre.length n') := by
  cases h with
  | here nm cs =>
    refine ⟨[(nm, []), ("", [])], 1, ⟨nm, _, _, rfl, hk.1⟩, by show 2 ≤ 60; decide, by decide, fun l => ⟨l.length + 1, Nat.lt_succ_self _, ?_⟩⟩
    have e : 60 :: (nm.cps.toList ++ [62]) ++ l = 60 :: (nm.cps.toList ++ 62 :: l) := by simp
    rw [e, rdDoc_eq (rdRoot_wr hk.1), show 2 + nm.cps.toList.length = (60 :: (nm.cps.toList ++ [62])).length by
      simp only [List.length_cons, List.length_append, List.length_nil]
      omega]
  | deep nm as bs c pre rest h =>
    obtain ⟨a1, a2, a3, a4⟩ := hk
    rw [nod, nods_app, nods] at hn
    obtain ⟨p, hp⟩ := opn_head h
    obtain ⟨F', n', m, h1, ⟨h3, h4, h5⟩, h6⟩ := opn_state h k (a4 c (by simp)) [(nm, [] ++ as), ("", [])] (2 + nm.cps.toList.length + (wrs true as).length) (1 + nods as) (by simp) (by show 2 + k ≤ 60; omega) (by omega)
    have hs := stps_le as fun c hc => a4 c (List.mem_append_left _ hc)
    refine ⟨F', n', h3, by have : F'.length ≤ 2 + k := h4; omega, by omega, fun l => ⟨l.length + 1 + ((wrs true as).length - stps as) + (pre.length - m), by omega, ?_⟩⟩
    have e : 60 :: (nm.cps.toList ++ 62 :: (wrs true as ++ pre)) ++ l = 60 :: (nm.cps.toList ++ 62 :: (wrs true as ++ 60 :: (p ++ l))) := by
      rw [hp]
      simp
    have hpl : pre.length = p.length + 1 := by rw [hp, List.length_cons]
    rw [e, rdDoc_eq (rdRoot_wr a1)]
    rw [show List.length (wrs true as ++ 60 :: (p ++ l)) + 1 = ((l.length + 1 + ((wrs true as).length - stps as) + (pre.length - m)) + m) + stps as by
      simp only [List.length_append, List.length_cons]
      omega]
    rw [reads_kids (k := k) as (fun c hc => reads_ok k c (a4 c (List.mem_append_left _ hc))) (apart_app a3) _ _ _ _ _ (by simp) (by show 2 + k ≤ 60; omega) (by omega)]
    have := h1 (l.length + 1 + ((wrs true as).length - stps as) + (pre.length - m)) l
    have e3 : pre ++ l = 60 :: (p ++ l) := by rw [hp]; rfl
    rw [e3] at this
    rw [show addKs ((nm, []) :: [("", [])]) as = [(nm, [] ++ as), ("", [])] from rfl, this]
    rw [show 2 + nm.cps.toList.length + (wrs true as).length + pre.length = (60 :: (nm.cps.toList ++ 62 :: (wrs true as ++ pre))).length by
      simp only [List.length_cons, List.length_append]
      omega]
/-- where the next part is wrong, the text is -/
theorem opn_no {t : Tr} {pre rest : List Nat} (h : Opn t pre rest) {k : Nat} (hk : okTr (k + 1) t) (hk5 : k ≤ 50) (hn : nod t ≤ 4000) : ∃ F n, (∃ nm g r, F = (nm, []) :: g :: r ∧ nm ∈ fourNames) ∧ F.length ≤ 60 ∧ n < 5000 ∧
    (∀ l j y, rdPart F l pre.length n = .no j y → rdDoc (pre ++ l) = .no j y) ∧ ∀ l F2 l2 i2 n2 j y, rdPart F l pre.length n = .ok F2 l2 i2 n2 → 1 < F2.length → l2.length < l.length → rdPart F2 l2 i2 n2 = .no j y → rdDoc (pre ++ l) = .no j y := by
  obtain ⟨F, n, h1, h2, h3, h4⟩ := opn_root h hk hk5 hn
  obtain ⟨nm, g, r, rfl, hnm⟩ := h1
  refine ⟨_, n, ⟨nm, g, r, rfl, hnm⟩, h2, h3, fun l j y e => ?_, fun l F2 l2 i2 n2 j y e hF hl e2 => ?_⟩
  · obtain ⟨q, hq, hd⟩ := h4 l
    obtain ⟨q, rfl⟩ : ∃ q', q = q' + 1 := ⟨q - 1, by omega⟩
    rw [hd, rdLoop, if_pos (by simp), e]
    rfl
  · obtain ⟨q, hq, hd⟩ := h4 l
    obtain ⟨q, rfl⟩ : ∃ q', q = (q' + 1) + 1 := ⟨q - 2, by omega⟩
    rw [hd, rdLoop, if_pos (by simp), e]
    dsimp only
    rw [rdLoop, if_pos hF, e2]
    rfl
end Tp


set_option Elab.async false
set_option linter.all false
set_option maxRecDepth 100000
set_option maxHeartbeats 4000000
namespace Tp
open PySem PySem.Spec PyProof.Rows L2 Evl
/-! ### pieces that are wrong behind a begin tag -/
theorem part_text {F : List Fram} {l : List Nat} {i n j : Nat} {y : Str} (h1 : l.take 2 ≠ [60, 47]) (h2 : l.head? ≠ some 60) (e : rdText F.length (l.length + 1) [] l i n = .no j y) : rdPart F l i n = .no j y := by
  unfold rdPart
  rw [if_neg h1, if_neg h2, e]
theorem text_no {d f i n : Nat} {acc l : List Nat} (h2 : l.head? ≠ some 60) (h : rdNext l = none) : rdText d (f + 1) acc l i n = .no i (why l "sign") := by
  rw [rdText, if_neg h2, h]
theorem text_on {d f i n k s : Nat} {acc l r : List Nat} (h2 : l.head? ≠ some 60) (h : rdNext l = some (r, k, s)) (ha : acc ≠ []) (hl : acc.length < 200) : rdText d (f + 1) acc l i n = rdText d f (acc ++ [s]) r (i + k) n := by
  rw [rdText, if_neg h2, h]
  dsimp only
  rw [if_neg (by omega), if_neg ha]
theorem text_fst {d f i n k s : Nat} {l r : List Nat} (h2 : l.head? ≠ some 60) (h : rdNext l = some (r, k, s)) (hc : cntR d l n = none) : rdText d (f + 1) [] l i n = rdText d f [s] r (i + k) (n + 1) := by
  rw [rdText, if_neg h2, h]
  dsimp only
  rw [if_neg (by decide), if_pos (by rfl), hc]
  rfl
theorem zz_no {nm : Str} (h : nm ∈ fourNames) {c : Nat} {l : List Nat} (hc : c = 122) : nm.cps.toList ≠ c :: l := by
  have g : ∀ n ∈ fourNames, n.cps.toList.head? ≠ some 122 := by decide +kernel
  intro e
  have := g nm h
  rw [e, hc] at this
  exact this rfl
section
variable {F : List Fram} {rest : List Nat} {i n : Nat}
theorem pc_gt (hc : ∀ l, cntR F.length l n = none) : rdPart F (62 :: rest) i n = .no i "sign" := part_text (by simp) (by simp) (text_no (by simp) (by simp [rdNext]))
theorem pc_amp1 (hc : ∀ l, cntR F.length l n = none) : rdPart F (38 :: 32 :: rest) i n = .no i "sign" := part_text (by simp) (by simp) (text_no (by simp) (by simp [rdNext]))
theorem pc_amp2 (hc : ∀ l, cntR F.length l n = none) : rdPart F (38 :: 120 :: 59 :: rest) i n = .no i "sign" := part_text (by simp) (by simp) (text_no (by simp) (by simp [rdNext]))
theorem pc_amp3 (hc : ∀ l, cntR F.length l n = none) : rdPart F (38 :: 108 :: 116 :: 32 :: rest) i n = .no i "sign" := part_text (by simp) (by simp) (text_no (by simp) (by simp [rdNext]))
theorem pc_xgt (hc : ∀ l, cntR F.length l n = none) : rdPart F (120 :: 62 :: rest) i n = .no (i + 1) "sign" := part_text (by simp) (by simp) (by
  rw [text_fst (r := 62 :: rest) (k := 1) (s := 120) (by simp) (by simp [rdNext, sgB]; rfl) (hc _), List.length_cons, text_no (by simp) (by simp [rdNext])]
  rfl)
theorem pc_xamp (hc : ∀ l, cntR F.length l n = none) : rdPart F (120 :: 10 :: 38 :: 97 :: 109 :: 112 :: 32 :: rest) i n = .no (i + 2) "sign" := part_text (by simp) (by simp) (by
  rw [text_fst (r := 10 :: 38 :: 97 :: 109 :: 112 :: 32 :: rest) (k := 1) (s := 120) (by simp) (by simp [rdNext, sgB]; rfl) (hc _), List.length_cons, text_on (r := 38 :: 97 :: 109 :: 112 :: 32 :: rest) (k := 1) (s := 10) (by simp) (by simp [rdNext, sgB]; rfl) (by simp) (by simp), List.length_cons, text_no (by simp) (by simp [rdNext])]
  rfl)
theorem pc_tab (hc : ∀ l, cntR F.length l n = none) : rdPart F (9 :: rest) i n = .no i "character" := part_text (by simp) (by simp) (by
  rw [text_no (by simp) (by simp [rdNext, sgB]; rfl)]
  rfl)
theorem pc_xtab (hc : ∀ l, cntR F.length l n = none) : rdPart F (120 :: 10 :: 121 :: 9 :: rest) i n = .no (i + 3) "character" := part_text (by simp) (by simp) (by
  rw [text_fst (r := 10 :: 121 :: 9 :: rest) (k := 1) (s := 120) (by simp) (by simp [rdNext, sgB]; rfl) (hc _), List.length_cons, text_on (r := 121 :: 9 :: rest) (k := 1) (s := 10) (by simp) (by simp [rdNext, sgB]; rfl) (by simp) (by simp), List.length_cons, text_on (r := 9 :: rest) (k := 1) (s := 121) (by simp) (by simp [rdNext, sgB]; rfl) (by simp) (by simp), List.length_cons, text_no (by simp) (by simp [rdNext, sgB]; rfl)]
  rfl)
theorem part_begin {l : List Nat} (h : l.head? ≠ some 47) : rdPart F (60 :: l) i n = rdBegin F (60 :: l) i n := by
  unfold rdPart
  rw [if_neg (show ¬ (60 :: l).take 2 = [60, 47] from fun q => by
    cases l with
    | nil => cases q
    | cons c r => exact h (by rw [(List.cons.inj (List.cons.inj q).2).1]; rfl)), if_pos (by rfl)]
theorem part_end {l : List Nat} : rdPart F (60 :: 47 :: l) i n = rdEnd F (60 :: 47 :: l) i n := by
  unfold rdPart
  rw [if_pos (by rfl)]
/-- begin tags -/
theorem beg_no {l : List Nat} {j : Nat} {y : Str} (hc : ∀ l, cntR F.length l n = none) (h0 : l ≠ []) (h : l.head? ≠ some 47) (hn : nameOk l = false) (hy : why l "name" = y) (hj : i + 1 = j) : rdPart F (60 :: l) i n = .no j y := by
  rw [part_begin h]
  unfold rdBegin
  rw [List.tail_cons, if_neg h0, hc, hn]
  dsimp only
  rw [cond_false, hy, hj]
theorem beg_tag {l : List Nat} {k j : Nat} {y : Str} {r : List Nat} (hc : ∀ l, cntR F.length l n = none) (h0 : l ≠ []) (h : l.head? ≠ some 47) (hn : nameOk l = true) (hk : runL letB l = k) (hr : l.drop k = r) (h47 : r.head? ≠ some 47) (h62 : r.head? ≠ some 62) (hy : why r "tag" = y) (hj : i + 1 + k = j) : rdPart F (60 :: l) i n = .no j y := by
  rw [part_begin h]
  unfold rdBegin
  rw [List.tail_cons, if_neg h0, hc, hn]
  dsimp only
  rw [cond_true, hk, hr, if_neg h47]
  unfold rdEndTag
  rw [if_neg h62, hy, hj]
theorem beg_slash {l : List Nat} {k j : Nat} {y : Str} {r : List Nat} (hc : ∀ l, cntR F.length l n = none) (h0 : l ≠ []) (h : l.head? ≠ some 47) (hn : nameOk l = true) (hk : runL letB l = k) (hr : l.drop k = 47 :: r) (h62 : r.head? ≠ some 62) (hy : why r "tag" = y) (hj : i + 1 + k + 1 = j) : rdPart F (60 :: l) i n = .no j y := by
  rw [part_begin h]
  unfold rdBegin
  rw [List.tail_cons, if_neg h0, hc, hn]
  dsimp only
  rw [cond_true, hk, hr, if_pos (by rfl), List.tail_cons]
  unfold rdEndTag
  rw [if_neg h62, hy, hj]
theorem end_name {l : List Nat} {j : Nat} {y : Str} (hn : nameOk l = false) (hy : why l "name" = y) (hj : i + 2 = j) : rdPart F (60 :: 47 :: l) i n = .no j y := by
  rw [part_end]
  unfold rdEnd
  rw [show (60 :: 47 :: l).drop 2 = l from rfl, hn, cond_false, hy, hj]
theorem end_end {l : List Nat} {k j : Nat} {y : Str} (hn : nameOk l = true) (hk : runL letB l = k) (h1 : l.take k ≠ (topN F).cps.toList) (h2 : ¬ (l.drop k = [] ∧ (topN F).cps.toList.take k = l.take k)) (hy : why l "end" = y) (hj : i + 2 = j) : rdPart F (60 :: 47 :: l) i n = .no j y := by
  rw [part_end]
  unfold rdEnd
  rw [show (60 :: 47 :: l).drop 2 = l from rfl, hn, cond_true, hk]
  dsimp only
  rw [if_pos ⟨h1, h2⟩, hy, hj]
theorem end_tag {l : List Nat} {k j : Nat} {y : Str} {r : List Nat} (hn : nameOk l = true) (hk : runL letB l = k) (h1 : l.take k = (topN F).cps.toList) (hr : l.drop k = r) (h62 : r.head? ≠ some 62) (hy : why r "tag" = y) (hj : i + 2 + k = j) : rdPart F (60 :: 47 :: l) i n = .no j y := by
  rw [part_end]
  unfold rdEnd
  rw [show (60 :: 47 :: l).drop 2 = l from rfl, hn, cond_true, hk]
  dsimp only
  rw [if_neg (fun q => q.1 h1), hr]
  unfold rdEndTag
  rw [if_neg h62, hy, hj]
  rfl
theorem zz_ok (hc : ∀ l, cntR F.length l n = none) (l : List Nat) : rdPart F (60 :: 122 :: 122 :: 62 :: l) i n = .ok ((sL [122, 122], []) :: F) l (i + 4) (n + 1) := by
  rw [part_begin (by simp)]
  unfold rdBegin
  rw [List.tail_cons, if_neg (by simp), hc]
  rfl
end
def mk3p (a : List Nat) (k : Nat) (y : Str) : List Nat × Nat × Str := (a, k, y)
/-- the pieces, in their order; behind the fourth and the sixth stands a space -/
def pcs : List (List Nat × Nat × Str) := [mk3p [62] 0 "sign", mk3p [38, 32] 0 "sign", mk3p [38, 120, 59] 0 "sign", mk3p [38, 108, 116, 32] 0 "sign", mk3p [120, 62] 1 "sign", mk3p [120, 10, 38, 97, 109, 112, 32] 2 "sign",
  mk3p [9] 0 "character", mk3p [120, 10, 121, 9] 3 "character", mk3p [60, 9] 1 "character", mk3p [60, 97, 9] 2 "character",
  mk3p [60, 32, 97, 62] 1 "name", mk3p [60, 49, 62] 1 "name", mk3p [60, 62] 1 "name", mk3p [60, 65, 47, 62] 1 "name", mk3p [60, 97, 98, 99, 100, 101, 102, 103, 104, 105, 106, 107, 108, 109, 47, 62] 1 "name", mk3p [60, 47, 62] 2 "name",
  mk3p [60, 47, 32, 97, 62] 2 "name", mk3p [60, 97, 32, 98, 62] 2 "tag", mk3p [60, 97, 49, 62] 2 "tag", mk3p [60, 97, 47, 32, 62] 3 "tag", mk3p [60, 97, 60] 2 "tag", mk3p [60, 97, 47, 47, 62] 3 "tag",
  mk3p [60, 47, 122, 122, 62] 2 "end", mk3p [60, 47, 122, 122] 2 "end", mk3p [60, 122, 122, 62, 60, 47, 97, 62] 6 "end", mk3p [60, 122, 122, 62, 60, 47, 122, 122, 32, 62] 8 "tag", mk3p [60, 122, 122, 62, 60, 47, 122, 122, 47, 62] 8 "tag", mk3p [60, 47, 122, 122, 122, 122, 122, 122, 122, 122, 122, 122, 122, 122, 122, 62] 2 "name"]
theorem zz_take {nm : Str} (h : nm ∈ fourNames) (k : Nat) (l : List Nat) : nm.cps.toList.take k ≠ 122 :: l := by
  have g : ∀ n ∈ fourNames, n.cps.toList.head? ≠ some 122 := by decide +kernel
  intro e
  have := g nm h
  cases q : nm.cps.toList with
  | nil => rw [q] at e; simp at e
  | cons c r =>
    rw [q] at e this
    cases k with
    | zero => cases e
    | succ k =>
      have := (List.cons.inj e).1
      subst this
      contradiction
theorem pcs_no {t : Tr} {pre rest0 : List Nat} (h : Opn t pre rest0) {k : Nat} (hk : okTr (k + 1) t) (hk5 : k ≤ 50) (hn : nod t ≤ 4000) {rest : List Nat} (hr : runL letB rest ≤ 5) : ∀ p ∈ pcs, rdDoc (pre ++ (p.1 ++ rest)) = .no (pre.length + p.2.1) p.2.2 := by
  obtain ⟨F, n, ⟨nm, g, r, rfl, hnm⟩, hF, hn5, one, two⟩ := opn_no h hk hk5 hn
  have hc : ∀ l, cntR ((nm, []) :: g :: r : List Fram).length l n = none := cnt_none hF (by omega)
  have ht : topN ((nm, []) :: g :: r) = nm := rfl
  have hz : ∀ l, nm.cps.toList ≠ 122 :: l := fun l => zz_no hnm rfl
  intro p hp
  simp only [pcs, mk3p, List.mem_cons, List.not_mem_nil, or_false] at hp
  rcases hp with rfl | rfl | rfl | rfl | rfl | rfl | rfl | rfl | rfl | rfl | rfl | rfl | rfl | rfl | rfl | rfl | rfl | rfl | rfl | rfl | rfl | rfl | rfl | rfl | rfl | rfl | rfl | rfl
  · exact one _ _ _ (pc_gt hc)
  · exact one _ _ _ (pc_amp1 hc)
  · exact one _ _ _ (pc_amp2 hc)
  · exact one _ _ _ (pc_amp3 hc)
  · exact one _ _ _ (pc_xgt hc)
  · exact one _ _ _ (pc_xamp hc)
  · exact one _ _ _ (pc_tab hc)
  · exact one _ _ _ (pc_xtab hc)
  · exact one _ _ _ (beg_no (l := 9 :: rest) hc (by simp) (by simp) rfl rfl rfl)
  · exact one _ _ _ (beg_tag (l := 97 :: 9 :: rest) (k := 1) (r := 9 :: rest) hc (by simp) (by simp) rfl rfl rfl (by simp) (by simp) rfl rfl)
  · exact one _ _ _ (beg_no (l := 32 :: 97 :: 62 :: rest) hc (by simp) (by simp) rfl rfl rfl)
  · exact one _ _ _ (beg_no (l := 49 :: 62 :: rest) hc (by simp) (by simp) rfl rfl rfl)
  · exact one _ _ _ (beg_no (l := 62 :: rest) hc (by simp) (by simp) rfl rfl rfl)
  · exact one _ _ _ (beg_no (l := 65 :: 47 :: 62 :: rest) hc (by simp) (by simp) rfl rfl rfl)
  · exact one _ _ _ (beg_no (l := 97 :: 98 :: 99 :: 100 :: 101 :: 102 :: 103 :: 104 :: 105 :: 106 :: 107 :: 108 :: 109 :: 47 :: 62 :: rest) hc (by simp) (by simp) rfl rfl rfl)
  · exact one _ _ _ (end_name (l := 62 :: rest) rfl rfl rfl)
  · exact one _ _ _ (end_name (l := 32 :: 97 :: 62 :: rest) rfl rfl rfl)
  · exact one _ _ _ (beg_tag (l := 97 :: 32 :: 98 :: 62 :: rest) (k := 1) (r := 32 :: 98 :: 62 :: rest) hc (by simp) (by simp) rfl rfl rfl (by simp) (by simp) rfl rfl)
  · exact one _ _ _ (beg_tag (l := 97 :: 49 :: 62 :: rest) (k := 1) (r := 49 :: 62 :: rest) hc (by simp) (by simp) rfl rfl rfl (by simp) (by simp) rfl rfl)
  · exact one _ _ _ (beg_slash (l := 97 :: 47 :: 32 :: 62 :: rest) (k := 1) (r := 32 :: 62 :: rest) hc (by simp) (by simp) rfl rfl rfl (by simp) rfl rfl)
  · exact one _ _ _ (beg_tag (l := 97 :: 60 :: rest) (k := 1) (r := 60 :: rest) hc (by simp) (by simp) rfl rfl rfl (by simp) (by simp) rfl rfl)
  · exact one _ _ _ (beg_slash (l := 97 :: 47 :: 47 :: 62 :: rest) (k := 1) (r := 47 :: 62 :: rest) hc (by simp) (by simp) rfl rfl rfl (by simp) rfl rfl)
  · exact one _ _ _ (end_end (l := 122 :: 122 :: 62 :: rest) (k := 2) rfl rfl (fun q => hz [122] (by rw [← ht]; exact q.symm)) (fun q => by have := q.1; cases this) rfl rfl)
  · have hrun : runL letB (122 :: 122 :: rest) = runL letB rest + 1 + 1 := rfl
    refine one _ _ _ (end_end (l := 122 :: 122 :: rest) (k := runL letB rest + 1 + 1) ?_ hrun (fun q => hz (122 :: rest.take (runL letB rest)) (by rw [← ht]; exact q.symm)) (fun q => zz_take hnm _ (122 :: rest.take (runL letB rest)) (by rw [← ht]; exact q.2)) rfl rfl)
    unfold nameOk
    rw [hrun, Nat.ble_eq_true_of_le (by omega), Nat.ble_eq_true_of_le (by omega)]
    rfl
  · exact two _ _ _ _ _ _ _ (zz_ok hc (60 :: 47 :: 97 :: 62 :: rest)) (by simp) (by simp) (end_end (l := 97 :: 62 :: rest) (k := 1) rfl rfl (by show [97] ≠ [122, 122]; decide) (fun q => by have := q.1; cases this) rfl rfl)
  · exact two _ _ _ _ _ _ _ (zz_ok hc (60 :: 47 :: 122 :: 122 :: 32 :: 62 :: rest)) (by simp) (by simp) (end_tag (l := 122 :: 122 :: 32 :: 62 :: rest) (k := 2) (r := 32 :: 62 :: rest) rfl rfl rfl rfl (by simp) rfl rfl)
  · exact two _ _ _ _ _ _ _ (zz_ok hc (60 :: 47 :: 122 :: 122 :: 47 :: 62 :: rest)) (by simp) (by simp) (end_tag (l := 122 :: 122 :: 47 :: 62 :: rest) (k := 2) (r := 47 :: 62 :: rest) rfl rfl rfl rfl (by simp) rfl rfl)
  · exact one _ _ _ (end_name (l := 122 :: 122 :: 122 :: 122 :: 122 :: 122 :: 122 :: 122 :: 122 :: 122 :: 122 :: 122 :: 122 :: 62 :: rest) rfl rfl rfl)
end Tp


set_option Elab.async false
set_option linter.all false
set_option maxRecDepth 100000
set_option maxHeartbeats 4000000
namespace Tp
open PySem PySem.Spec PyProof.Rows L2 Evl
/-! ### a written tree that is cut -/
def cutOk (j : Nat) (y : Str) (N : Nat) : Prop := (j = N ∧ y = "open") ∨ y = "sign"
theorem esc_cut {x c : Nat} (hx : x ∈ signCs) (h1 : 1 ≤ c) (h2 : c < (escC x).length) : rdNext ((escC x).take c) = none ∧ why ((escC x).take c) "sign" = "sign" ∧ ((escC x).take c).head? ≠ some 60 := by
  simp only [signCs, List.mem_cons, List.not_mem_nil, or_false] at hx
  rcases hx with rfl | rfl | rfl | rfl | rfl | rfl | rfl | rfl | rfl | rfl | rfl | rfl <;> simp [escC] at h2 <;> first | omega | (
    rcases (show c = 1 ∨ c = 2 ∨ c = 3 ∨ c = 4 by omega) with rfl | rfl | rfl | rfl <;> first | omega | exact ⟨by simp [escC, rdNext], rfl, by simp [escC]⟩)
theorem rdText_cut {d : Nat} : ∀ (cs : List Nat) (f : Nat) (acc : List Nat) (i n c : Nat), (∀ x ∈ cs, x ∈ signCs) → acc.length + cs.length ≤ 200 → (acc = [] → ∀ l, cntR d l n = none) → c ≤ (escL cs).length → c < f →
    ∃ j y, rdText d f acc ((escL cs).take c) i n = .no j y ∧ cutOk j y (i + c)
  | [], f, acc, i, n, c, _, _, _, hc, hf => by
    obtain ⟨f, rfl⟩ : ∃ f', f = f' + 1 := ⟨f - 1, by omega⟩
    have : c = 0 := by
      have : (escL []).length = 0 := rfl
      omega
    subst this
    exact ⟨i, "open", text_no (by simp) rfl, .inl ⟨rfl, rfl⟩⟩
  | x :: cs, f, acc, i, n, c, hs, hl, hcnt, hc, hf => by
    obtain ⟨f, rfl⟩ : ∃ f', f = f' + 1 := ⟨f - 1, by omega⟩
    have hx := hs x (List.mem_cons_self ..)
    have e : escL (x :: cs) = escC x ++ escL cs := by
      unfold escL
      rw [List.flatMap_cons]
    rw [e] at hc ⊢
    rw [List.length_append] at hc
    rw [List.length_cons] at hl
    have hx1 := (escC_len x).1
    by_cases h1 : (escC x).length ≤ c
    · obtain ⟨c', rfl⟩ : ∃ c', c = (escC x).length + c' := ⟨c - (escC x).length, by omega⟩
      rw [List.take_length_add_append, rdText, if_neg (esc_head hx _), rdNext_esc hx]
      dsimp only
      rw [if_neg (by omega)]
      by_cases ha : acc = []
      · rw [if_pos ha, hcnt ha]
        dsimp only
        obtain ⟨j, y, h2, h3⟩ := rdText_cut cs f (acc ++ [x]) (i + (escC x).length) (n + 1) c' (fun z hz => hs z (List.mem_cons_of_mem _ hz)) (by rw [List.length_append, List.length_singleton]; omega) (fun q => by simp at q) (by omega) (by omega)
        exact ⟨j, y, h2, by rw [← Nat.add_assoc]; exact h3⟩
      · rw [if_neg ha]
        obtain ⟨j, y, h2, h3⟩ := rdText_cut cs f (acc ++ [x]) (i + (escC x).length) n c' (fun z hz => hs z (List.mem_cons_of_mem _ hz)) (by rw [List.length_append, List.length_singleton]; omega) (fun q => by simp at q) (by omega) (by omega)
        exact ⟨j, y, h2, by rw [← Nat.add_assoc]; exact h3⟩
    · rw [List.take_append_of_le_length (by omega)]
      by_cases h0 : c = 0
      · subst h0
        exact ⟨i, "open", text_no (by simp) rfl, .inl ⟨rfl, rfl⟩⟩
      · obtain ⟨k1, k2, k3⟩ := esc_cut hx (c := c) (by omega) (by omega)
        exact ⟨i, "sign", by rw [text_no k3 k1, k2], .inr rfl⟩
/-- nothing is left -/
theorem loop_nil {f : Nat} {F : List Fram} {i n : Nat} (h : 1 < F.length) : rdLoop (f + 1) F [] i n = .no i "open" := by
  rw [rdLoop, if_pos h]
  have : rdPart F [] i n = .no i "open" := part_text (by simp) (by simp) (text_no (by simp) rfl)
  rw [this]
/-- letters alone -/
theorem run_all {zs : List Nat} (h : ∀ z ∈ zs, letB z = true) : runL letB zs = zs.length := by
  induction zs with
  | nil => rfl
  | cons z zs ih =>
    rw [runL, h z (List.mem_cons_self ..), List.length_cons, ih fun x hx => h x (List.mem_cons_of_mem _ hx)]
    rfl
theorem name_let : ∀ n ∈ fourNames, (∀ z ∈ n.cps.toList, letB z = true) ∧ 1 ≤ n.cps.toList.length ∧ n.cps.toList.length ≤ 12 ∧ n.cps.toList.head? ≠ some 47 := by decide +kernel
theorem name_cut {nm : Str} (h : nm ∈ fourNames) {m : Nat} (h1 : 1 ≤ m) (h2 : m ≤ nm.cps.toList.length) : nameOk (nm.cps.toList.take m) = true ∧ runL letB (nm.cps.toList.take m) = m ∧ (nm.cps.toList.take m).head? ≠ some 47 ∧ nm.cps.toList.take m ≠ [] := by
  obtain ⟨a1, a2, a3, a4⟩ := name_let nm h
  have hl : (nm.cps.toList.take m).length = m := by rw [List.length_take]; omega
  have hr : runL letB (nm.cps.toList.take m) = m := by rw [run_all fun z hz => a1 z (List.mem_of_mem_take hz), hl]
  refine ⟨?_, hr, ?_, fun q => by rw [q] at hl; simp at hl; omega⟩
  · unfold nameOk
    rw [hr, Nat.ble_eq_true_of_le h1, Nat.ble_eq_true_of_le (by omega)]
    rfl
  · cases e : nm.cps.toList with
    | nil => rw [e] at h2; simp at h2; omega
    | cons c r =>
      rw [e] at a4
      cases m with
      | zero => omega
      | succ m => exact a4
/-- a begin tag that is cut -/
theorem begin_cut {F : List Fram} {nm : Str} {i n m : Nat} (h : nm ∈ fourNames) (hc : ∀ l, cntR F.length l n = none) (hm : m ≤ nm.cps.toList.length) : rdBegin F (60 :: nm.cps.toList.take m) i n = .no (i + (1 + m)) "open" := by
  unfold rdBegin
  rw [List.tail_cons]
  cases m with
  | zero =>
    rw [List.take_zero, if_pos (by rfl)]
  | succ m =>
    obtain ⟨h1, h2, h3, h4⟩ := name_cut h (m := m + 1) (by omega) hm
    rw [if_neg h4, hc, h1]
    dsimp only
    rw [cond_true, h2, List.drop_of_length_le (by rw [List.length_take]; omega), if_neg (by simp)]
    unfold rdEndTag
    rw [if_neg (by simp), show i + 1 + (m + 1) = i + (1 + (m + 1)) by omega]
    rfl
theorem begin_cutP {F : List Fram} {nm : Str} {i n m : Nat} (h : nm ∈ fourNames) (hc : ∀ l, cntR F.length l n = none) (hm : m ≤ nm.cps.toList.length) : rdPart F (60 :: nm.cps.toList.take m) i n = .no (i + (1 + m)) "open" := by
  rw [part_begin (by
    cases m with
    | zero => simp
    | succ m => exact (name_cut h (m := m + 1) (by omega) hm).2.2.1)]
  exact begin_cut h hc hm
/-- an end tag that is cut; m: how much of it is there -/
theorem end_cut {F : List Fram} {nm : Str} {ds : List Tr} {i n m : Nat} (h : nm ∈ fourNames) (h1 : 1 ≤ m) (hm : m < 3 + nm.cps.toList.length) : rdPart ((nm, ds) :: F) ((60 :: 47 :: (nm.cps.toList ++ [62])).take m) i n = .no (i + m) "open" := by
  match m, h1, hm with
  | 1, _, _ =>
    show rdPart _ [60] i n = _
    rw [part_begin (by simp)]
    rfl
  | 2, _, _ =>
    show rdPart _ [60, 47] i n = _
    rw [part_end]
    rfl
  | m + 3, _, hm =>
    have ht : (60 :: 47 :: (nm.cps.toList ++ [62])).take (m + 3) = 60 :: 47 :: nm.cps.toList.take (m + 1) := by
      show 60 :: 47 :: ((nm.cps.toList ++ [62]).take (m + 1)) = _
      rw [List.take_append_of_le_length (by omega)]
    obtain ⟨k1, k2, _, _⟩ := name_cut h (m := m + 1) (by omega) (by omega)
    have hl : (nm.cps.toList.take (m + 1)).length = m + 1 := by rw [List.length_take]; omega
    rw [ht, part_end]
    unfold rdEnd
    rw [show (60 :: 47 :: nm.cps.toList.take (m + 1)).drop 2 = nm.cps.toList.take (m + 1) from rfl, k1, cond_true, k2]
    dsimp only
    rw [List.drop_of_length_le (by omega), List.take_of_length_le (l := nm.cps.toList.take (m + 1)) (by omega), if_neg (fun q => q.2 ⟨rfl, rfl⟩)]
    unfold rdEndTag
    rw [if_neg (by simp), show i + 2 + (m + 1) = i + (m + 3) by omega]
    rfl
def CutT (k : Nat) (t : Tr) : Prop := ∀ (f : Nat) (F : List Fram) (i n c : Nat), 2 ≤ F.length → F.length + k ≤ 60 → n + nod t ≤ 5000 → c ≤ (wr true t).length → c < f → ∃ j y, rdLoop f F ((wr true t).take c) i n = .no j y ∧ cutOk j y (i + c)
theorem cut_kids {k : Nat} : ∀ cs : List Tr, (∀ c ∈ cs, okTr k c) → (∀ c ∈ cs, CutT k c) → apartT cs → ∀ (f : Nat) (F : List Fram) (i n c : Nat), 2 ≤ F.length → F.length + k ≤ 60 → n + nods cs ≤ 5000 → c ≤ (wrs true cs).length → c < f → ∃ j y, rdLoop f F ((wrs true cs).take c) i n = .no j y ∧ cutOk j y (i + c)
  | [], _, _, _, f, F, i, n, c, h2, hF, hn, hc, hf => by
    rw [wrs] at hc ⊢
    have : c = 0 := Nat.le_zero.mp hc
    subst this
    obtain ⟨f, rfl⟩ : ∃ f', f = f' + 1 := ⟨f - 1, by omega⟩
    exact ⟨i, "open", loop_nil (by omega), .inl ⟨rfl, rfl⟩⟩
  | t :: cs, hok, hcut, hap, f, F, i, n, c, h2, hF, hn, hc, hf => by
    rw [nods] at hn
    rw [wrs, List.length_append] at hc
    rw [wrs]
    by_cases h1 : c ≤ (wr true t).length
    · rw [List.take_append_of_le_length h1]
      exact hcut t (List.mem_cons_self ..) f F i n c h2 hF (by omega) h1 hf
    · obtain ⟨c', rfl⟩ : ∃ c', c = (wr true t).length + c' := ⟨c - (wr true t).length, by omega⟩
      have hs := stp_le k t (hok t (List.mem_cons_self ..))
      obtain ⟨f2, rfl⟩ : ∃ f2, f = f2 + stp t := ⟨f - stp t, by omega⟩
      rw [List.take_length_add_append, reads_ok k t (hok t (List.mem_cons_self ..)) f2 F _ i n h2 hF (by omega) (fun ht => by
        cases t with
        | el nm ds => cases ht
        | txt z =>
          obtain ⟨l', e⟩ := behind_txt (b := true) hap []
          cases q : wrs true cs with
          | nil =>
            rw [q] at hc
            simp only [List.length_nil] at hc
            omega
          | cons a b =>
            rw [q] at e
            obtain ⟨c', rfl⟩ : ∃ c'', c' = c'' + 1 := ⟨c' - 1, by omega⟩
            exact ⟨b.take c', by rw [List.take_succ_cons, (List.cons.inj e).1]⟩)]
      obtain ⟨j, y, a1, a2⟩ := cut_kids cs (fun x hx => hok x (List.mem_cons_of_mem _ hx)) (fun x hx => hcut x (List.mem_cons_of_mem _ hx)) (apartT_tail hap) f2 (addK F t) (i + (wr true t).length) (n + nod t) c' (by rw [addK_len]; exact h2) (by rw [addK_len]; exact hF) (by omega) (by omega) (by omega)
      exact ⟨j, y, a1, by rw [← Nat.add_assoc]; exact a2⟩
/-- behind a begin tag -/
theorem inner_cut {k : Nat} {nm : Str} {cs : List Tr} (h : nm ∈ fourNames) (hok : ∀ c ∈ cs, okTr k c) (hcut : ∀ c ∈ cs, CutT k c) (hap : apartT cs) {f : Nat} {F : List Fram} {i n c : Nat} (h2 : 1 ≤ F.length) (hF : F.length + 1 + k ≤ 60) (hn : n + nods cs ≤ 5000) (hc : c < (wrs true cs).length + (3 + nm.cps.toList.length)) (hf : c < f) :
    ∃ j y, rdLoop f ((nm, []) :: F) ((wrs true cs ++ (60 :: 47 :: (nm.cps.toList ++ [62]))).take c) i n = .no j y ∧ cutOk j y (i + c) := by
  by_cases h1 : c ≤ (wrs true cs).length
  · rw [List.take_append_of_le_length h1]
    exact cut_kids cs hok hcut hap f _ i n c (by rw [List.length_cons]; omega) (by rw [List.length_cons]; omega) hn h1 hf
  · obtain ⟨m, rfl⟩ : ∃ m, c = (wrs true cs).length + m := ⟨c - (wrs true cs).length, by omega⟩
    have hs := stps_le cs hok
    obtain ⟨f2, rfl⟩ : ∃ f2, f = (f2 + 1) + stps cs := ⟨f - 1 - stps cs, by omega⟩
    obtain ⟨m', rfl⟩ : ∃ m', m = m' + 1 := ⟨m - 1, by omega⟩
    rw [List.take_length_add_append, List.take_succ_cons, reads_kids (k := k) cs (fun c hc => reads_ok k c (hok c hc)) hap _ _ _ _ _ (by rw [List.length_cons]; omega) (by rw [List.length_cons]; omega) hn]
    rw [show addKs ((nm, []) :: F) cs = (nm, cs) :: F from rfl, rdLoop, if_pos (by rw [List.length_cons]; omega)]
    have := end_cut (F := F) (ds := cs) (i := i + (wrs true cs).length) (n := n + nods cs) (m := m' + 1) h (by omega) (by omega)
    rw [List.take_succ_cons] at this
    rw [this]
    exact ⟨_, _, rfl, .inl ⟨by omega, rfl⟩⟩
theorem take_begin (nm : Str) (l : List Nat) (c : Nat) : (60 :: (nm.cps.toList ++ 62 :: l)).take (2 + nm.cps.toList.length + c) = 60 :: (nm.cps.toList ++ 62 :: l.take c) := by
  rw [show 2 + nm.cps.toList.length + c = (nm.cps.toList.length + (c + 1)) + 1 by omega, List.take_succ_cons, List.take_length_add_append, List.take_succ_cons]
theorem take_part (nm : Str) (l : List Nat) {m : Nat} (h : m ≤ nm.cps.toList.length) : (60 :: (nm.cps.toList ++ 62 :: l)).take (1 + m) = 60 :: nm.cps.toList.take m := by
  rw [show 1 + m = m + 1 by omega, List.take_succ_cons, List.take_append_of_le_length h]
theorem cut_ok : ∀ (k : Nat) (t : Tr), okTr k t → CutT k t
  | k, .txt z, h => by
    intro f F i n c h2 hF hn hc hf
    have hz : okText 5 z := by cases k <;> exact h
    obtain ⟨z1, z2, z3⟩ := hz
    have hl : z.cps.toList.length = z.cps.size := Array.length_toList
    rw [nod] at hn
    rw [wr] at hc ⊢
    obtain ⟨f, rfl⟩ : ∃ f', f = f' + 1 := ⟨f - 1, by omega⟩
    have hcl : ((escL z.cps.toList).take c).length = c := by rw [List.length_take]; omega
    have hh : ((escL z.cps.toList).take c).head? ≠ some 60 := by
      cases c with
      | zero => simp
      | succ c =>
        cases e : z.cps.toList with
        | nil => simp [escL]
        | cons x r =>
          have e2 : escL (x :: r) = escC x ++ escL r := by
            unfold escL
            rw [List.flatMap_cons]
          have := esc_head (z3 x (by rw [e]; exact List.mem_cons_self ..)) (escL r)
          rw [e2]
          cases q : escC x ++ escL r with
          | nil => simp
          | cons a b =>
            rw [q] at this
            exact this
    obtain ⟨j, y, a1, a2⟩ := rdText_cut (d := F.length) z.cps.toList (c + 1) [] i n c z3 (by rw [List.length_nil]; omega) (fun _ => cnt_none (by omega) (by omega)) hc (Nat.lt_succ_self _)
    refine ⟨j, y, ?_, a2⟩
    rw [rdLoop, if_pos (by omega), part_text (fun q => hh (by
      cases e : (escL z.cps.toList).take c with
      | nil => rw [e] at q; cases q
      | cons a b =>
        rw [e] at q
        cases b with
        | nil => cases q
        | cons b b' => rw [(List.cons.inj q).1]; rfl)) hh (by rw [hcl]; exact a1)]
  | 0, .el _ _, h => h.elim
  | k + 1, .el nm cs, h => by
    obtain ⟨a1, a2, a3, a4⟩ := id h
    intro f F i n c h2 hF hn hc hf
    by_cases hfull : c = (wr true (.el nm cs)).length
    · have hs := stp_le (k + 1) (.el nm cs) h
      obtain ⟨f2, rfl⟩ : ∃ f2, f = (f2 + 1) + stp (.el nm cs) := ⟨f - 1 - stp (.el nm cs), by omega⟩
      have hR := reads_ok (k + 1) (.el nm cs) h (f2 + 1) F [] i n h2 hF hn nofun
      rw [List.append_nil] at hR
      rw [List.take_of_length_le (by omega), hR, loop_nil (by rw [addK_len]; omega)]
      exact ⟨_, _, rfl, .inl ⟨by rw [hfull], rfl⟩⟩
    have hwl := wr_el_len nm cs
    have e0 := wr_el nm cs []
    rw [List.append_nil] at e0
    rw [nod] at hn
    obtain ⟨f, rfl⟩ : ∃ f', f = f' + 1 := ⟨f - 1, by omega⟩
    rw [e0]
    by_cases h0 : c = 0
    · subst h0
      exact ⟨i, "open", loop_nil (by omega), .inl ⟨rfl, rfl⟩⟩
    by_cases h1 : c ≤ 1 + nm.cps.toList.length
    · obtain ⟨m, rfl⟩ : ∃ m, c = 1 + m := ⟨c - 1, by omega⟩
      rw [take_part nm _ (by omega), rdLoop, if_pos (by omega), begin_cutP a1 (cnt_none (by omega) (by omega)) (by omega)]
      exact ⟨_, _, rfl, .inl ⟨rfl, rfl⟩⟩
    · obtain ⟨c', rfl⟩ : ∃ c', c = 2 + nm.cps.toList.length + c' := ⟨c - (2 + nm.cps.toList.length), by omega⟩
      rw [take_begin, loop_begin a1 (by omega) (by omega) (by omega)]
      obtain ⟨j, y, b1, b2⟩ := inner_cut (k := k) (f := f) (F := F) (i := i + (2 + nm.cps.toList.length)) (n := n + 1) (c := c') a1 a4 (fun c hc => cut_ok k c (a4 c hc)) a3 (by omega) (by omega) (by omega) (by omega) (by omega)
      exact ⟨j, y, b1, by rw [← Nat.add_assoc]; exact b2⟩
/-- a right text that is cut -/
theorem rdDoc_cut {k : Nat} {nm : Str} {cs : List Tr} (h : okTr (k + 1) (.el nm cs)) (hk : k ≤ 58) (hn : nod (.el nm cs) ≤ 5000) {c : Nat} (hc : c < (wr true (.el nm cs)).length) : ∃ j y, rdDoc ((wr true (.el nm cs)).take c) = .no j y ∧ cutOk j y c := by
  obtain ⟨a1, a2, a3, a4⟩ := h
  have hwl := wr_el_len nm cs
  have e0 := wr_el nm cs []
  rw [List.append_nil] at e0
  rw [nod] at hn
  rw [e0]
  by_cases h0 : c = 0
  · subst h0
    exact ⟨0, "open", rfl, .inl ⟨rfl, rfl⟩⟩
  by_cases h1 : c ≤ 1 + nm.cps.toList.length
  · obtain ⟨m, rfl⟩ : ∃ m, c = 1 + m := ⟨c - 1, by omega⟩
    have hb := begin_cut (F := [("", [])]) (i := 0) (n := 0) (m := m) a1 (cnt_none (by decide) (by decide)) (by omega)
    refine ⟨1 + m, "open", ?_, .inl ⟨rfl, rfl⟩⟩
    rw [take_part nm _ (by omega)]
    unfold rdDoc rdRoot
    rw [if_pos (by rfl), hb, Nat.zero_add]
  · obtain ⟨c', rfl⟩ : ∃ c', c = 2 + nm.cps.toList.length + c' := ⟨c - (2 + nm.cps.toList.length), by omega⟩
    rw [take_begin, rdDoc_eq (rdRoot_wr a1)]
    obtain ⟨j, y, b1, b2⟩ := inner_cut (k := k) (f := ((wrs true cs ++ 60 :: 47 :: (nm.cps.toList ++ [62])).take c').length + 1) (F := [("", [])]) (i := 2 + nm.cps.toList.length) (n := 1) (c := c') a1 a4 (fun c hc => cut_ok k c (a4 c hc)) a3 (by decide) (by show 1 + 1 + k ≤ 60; omega) (by omega) (by omega) (by
      rw [List.length_take]
      simp only [List.length_append, List.length_cons, List.length_nil]
      omega)
    exact ⟨j, y, by rw [b1]; rfl, b2⟩
end Tp


set_option Elab.async false
set_option linter.all false
set_option maxRecDepth 100000
set_option maxHeartbeats 4000000
namespace Tp
open PySem PySem.Spec PyProof.Rows L2 Evl
/-! ### the ends of begin tags, found by their signs -/
/-- at k stands `>`, and between it and the last `<` ahead no slash -/
def Tg (l : List Nat) (k : Nat) : Prop := l[k]? = some 62 ∧ ∃ a, a < k ∧ l[a]? = some 60 ∧ ∀ j, a < j → j < k → l[j]? ≠ some 60 ∧ l[j]? ≠ some 47
theorem mid_get {x y z : List Nat} {j : Nat} (h1 : x.length ≤ j) (h2 : j < x.length + y.length) : (x ++ (y ++ z))[j]? = y[j - x.length]? := by
  rw [List.getElem?_append_right h1, List.getElem?_append_left (by omega)]
theorem tg_sub {x y z : List Nat} {k : Nat} (h : Tg (x ++ (y ++ z)) k) (h1 : x.length ≤ k) (h2 : k < x.length + y.length) (hy : y[0]? = some 60) : Tg y (k - x.length) := by
  obtain ⟨g1, a, a1, a2, a3⟩ := h
  rw [mid_get h1 h2] at g1
  have hk : k ≠ x.length := fun e => by rw [e, Nat.sub_self, hy] at g1; cases g1
  have hx : (x ++ (y ++ z))[x.length]? = some 60 := by rw [mid_get (Nat.le_refl _) (by omega), Nat.sub_self]; exact hy
  have ha : x.length ≤ a := by
    by_cases q : x.length ≤ a
    · exact q
    · exact absurd hx (a3 x.length (by omega) (by omega)).1
  refine ⟨g1, a - x.length, by omega, by rw [← mid_get (z := z) ha (by omega)]; exact a2, fun j b1 b2 => ?_⟩
  have := a3 (x.length + j) (by omega) (by omega)
  rw [mid_get (by omega) (by omega), show x.length + j - x.length = j by omega] at this
  exact this
theorem kid_at : ∀ (cs : List Tr) (k : Nat), k < (wrs true cs).length → ∃ as c bs, cs = as ++ c :: bs ∧ (wrs true as).length ≤ k ∧ k < (wrs true as).length + (wr true c).length
  | [], k, h => by
    rw [wrs] at h
    exact absurd h (Nat.not_lt_zero _)
  | c :: cs, k, h => by
    rw [wrs, List.length_append] at h
    by_cases q : k < (wr true c).length
    · exact ⟨[], c, cs, rfl, by rw [wrs]; exact Nat.zero_le _, by rw [wrs, List.length_nil, Nat.zero_add]; exact q⟩
    · obtain ⟨as, d, bs, e, h1, h2⟩ := kid_at cs (k - (wr true c).length) (by omega)
      exact ⟨c :: as, d, bs, by rw [e]; rfl, by rw [wrs, List.length_append]; omega, by rw [wrs, List.length_append]; omega⟩
theorem esc_62 {z : List Nat} (h : ∀ c ∈ z, c ∈ signCs) : 62 ∉ escL z := by
  intro hm
  unfold escL at hm
  obtain ⟨c, hc, hm⟩ := List.mem_flatMap.mp hm
  have g : ∀ c ∈ signCs, 62 ∉ escC c := by decide
  exact g c (h c hc) hm
theorem let_no {nm : Str} (h : nm ∈ fourNames) : ∀ c ∈ nm.cps.toList, c ≠ 60 ∧ c ≠ 62 ∧ c ≠ 47 := by
  have g : ∀ n ∈ fourNames, ∀ c ∈ n.cps.toList, c ≠ 60 ∧ c ≠ 62 ∧ c ≠ 47 := by decide +kernel
  exact g nm h
theorem tg_opn : ∀ (m : Nat) (t : Tr), okTr m t → ∀ k, Tg (wr true t) k → Opn t ((wr true t).take (k + 1)) ((wr true t).drop (k + 1))
  | m, .txt z, h, k, hk => by
    have hz : okText 5 z := by cases m <;> exact h
    have := List.mem_of_getElem? hk.1
    rw [wr] at this
    exact absurd this (esc_62 hz.2.2)
  | 0, .el _ _, h, _, _ => h.elim
  | m + 1, .el nm cs, h, k, hk => by
    obtain ⟨a1, a2, a3, a4⟩ := h
    have e0 := wr_el nm cs []
    rw [List.append_nil] at e0
    have hln := let_no a1
    by_cases h1 : k < 1 + nm.cps.toList.length
    · exfalso
      have g := hk.1
      rw [e0] at g
      cases k with
      | zero => cases g
      | succ k =>
        rw [List.getElem?_cons_succ, List.getElem?_append_left (by omega)] at g
        exact (hln _ (List.mem_of_getElem? g)).2.1 rfl
    by_cases h2 : k = 1 + nm.cps.toList.length
    · subst h2
      rw [e0]
      have t1 : (60 :: (nm.cps.toList ++ 62 :: (wrs true cs ++ 60 :: 47 :: (nm.cps.toList ++ [62])))).take (1 + nm.cps.toList.length + 1) = 60 :: (nm.cps.toList ++ [62]) := by
        rw [show 1 + nm.cps.toList.length + 1 = (nm.cps.toList.length + 1) + 1 by omega, List.take_succ_cons, List.take_length_add_append, List.take_succ_cons, List.take_zero]
      have t2 : (60 :: (nm.cps.toList ++ 62 :: (wrs true cs ++ 60 :: 47 :: (nm.cps.toList ++ [62])))).drop (1 + nm.cps.toList.length + 1) = wrs true cs ++ 60 :: 47 :: (nm.cps.toList ++ [62]) := by
        rw [show 1 + nm.cps.toList.length + 1 = (nm.cps.toList.length + 1) + 1 by omega, List.drop_succ_cons, List.drop_length_add_append, List.drop_succ_cons, List.drop_zero]
      rw [t1, t2]
      exact .here nm cs
    by_cases h3 : k < 2 + nm.cps.toList.length + (wrs true cs).length
    · obtain ⟨as, c, bs, rfl, b1, b2⟩ := kid_at cs (k - (2 + nm.cps.toList.length)) (by omega)
      have hc := a4 c (by simp)
      have e1 : wr true (.el nm (as ++ c :: bs)) = (60 :: (nm.cps.toList ++ 62 :: wrs true as)) ++ (wr true c ++ (wrs true bs ++ 60 :: 47 :: (nm.cps.toList ++ [62]))) := by
        rw [e0, wrs_app, wrs]
        simp
      have hl : (60 :: (nm.cps.toList ++ 62 :: wrs true as)).length = 2 + nm.cps.toList.length + (wrs true as).length := by
        simp only [List.length_cons, List.length_append]
        omega
      rw [e1] at hk ⊢
      have hy : (wr true c)[0]? = some 60 := by
        cases c with
        | txt z =>
          exfalso
          have hz : okText 5 z := by cases m <;> exact hc
          have g := hk.1
          rw [mid_get (by rw [hl]; omega) (by rw [hl]; omega)] at g
          have := List.mem_of_getElem? g
          rw [wr] at this
          exact esc_62 hz.2.2 this
        | el n ds =>
          have := wr_el n ds []
          rw [List.append_nil] at this
          rw [this]
          rfl
      have hs := tg_sub hk (by rw [hl]; omega) (by rw [hl]; omega) hy
      have ih := tg_opn m c hc _ hs
      have hT : k + 1 = (60 :: (nm.cps.toList ++ 62 :: wrs true as)).length + (k - (60 :: (nm.cps.toList ++ 62 :: wrs true as)).length + 1) := by rw [hl]; omega
      have hT2 : k - (60 :: (nm.cps.toList ++ 62 :: wrs true as)).length + 1 ≤ (wr true c).length := by rw [hl]; omega
      rw [hT, List.take_length_add_append, List.drop_length_add_append, List.take_append_of_le_length hT2, List.drop_append_of_le_length hT2]
      have := Opn.deep nm as bs c _ _ ih
      have e2 : (60 :: (nm.cps.toList ++ 62 :: wrs true as)) ++ (wr true c).take (k - (60 :: (nm.cps.toList ++ 62 :: wrs true as)).length + 1) = 60 :: (nm.cps.toList ++ 62 :: (wrs true as ++ (wr true c).take (k - (60 :: (nm.cps.toList ++ 62 :: wrs true as)).length + 1))) := by simp
      rw [e2]
      exact this
    · exfalso
      obtain ⟨g, a, c1, c2, c3⟩ := hk
      have e1 : wr true (.el nm cs) = (60 :: (nm.cps.toList ++ 62 :: wrs true cs)) ++ (60 :: 47 :: (nm.cps.toList ++ [62])) := by
        rw [e0]
        simp
      have hl : (60 :: (nm.cps.toList ++ 62 :: wrs true cs)).length = 2 + nm.cps.toList.length + (wrs true cs).length := by
        simp only [List.length_cons, List.length_append]
        omega
      rw [e1] at g c2 c3
      generalize 60 :: (nm.cps.toList ++ 62 :: wrs true cs) = X at g c2 c3 hl
      have at0 : (X ++ (60 :: 47 :: (nm.cps.toList ++ [62])))[X.length]? = some 60 := by rw [List.getElem?_append_right (Nat.le_refl _), Nat.sub_self]; rfl
      have at1 : (X ++ (60 :: 47 :: (nm.cps.toList ++ [62])))[X.length + 1]? = some 47 := by rw [List.getElem?_append_right (by omega), show X.length + 1 - X.length = 1 by omega]; rfl
      have hk2 : X.length + 2 ≤ k := by
        by_cases q : X.length + 2 ≤ k
        · exact q
        · exfalso
          rcases (show k = X.length ∨ k = X.length + 1 by omega) with e | e
          · rw [e, at0] at g
            cases g
          · rw [e, at1] at g
            cases g
      by_cases q : a < X.length
      · exact (c3 X.length q (by omega)).1 at0
      · by_cases q2 : a = X.length
        · exact (c3 (X.length + 1) (by omega) (by omega)).2 at1
        · rw [List.getElem?_append_right (by omega)] at c2
          obtain ⟨b, hb⟩ : ∃ b, a - X.length = b + 1 := ⟨a - X.length - 1, by omega⟩
          rw [hb, List.getElem?_cons_succ] at c2
          have := List.mem_of_getElem? c2
          rcases List.mem_cons.mp this with e | this
          · cases e
          rcases List.mem_append.mp this with this | this
          · exact (hln _ this).1 rfl
          · rw [List.mem_singleton] at this
            cases this
theorem run_esc : ∀ (z : List Nat) (v : List Nat), (∀ c ∈ z, c ∈ signCs) → runL letB (escL z ++ 60 :: v) ≤ z.length
  | [], v, _ => Nat.le_refl _
  | c :: z, v, h => by
    have hc := h c (List.mem_cons_self ..)
    have ih := run_esc z v fun x hx => h x (List.mem_cons_of_mem _ hx)
    have e : escL (c :: z) ++ 60 :: v = escC c ++ (escL z ++ 60 :: v) := by
      unfold escL
      rw [List.flatMap_cons, List.append_assoc]
    have g : ∀ (x : Nat) (l : List Nat), runL letB (x :: l) ≤ runL letB l + 1 := fun x l => by
      rw [runL]
      cases letB x with
      | true => exact Nat.le_refl _
      | false => exact Nat.zero_le _
    rw [e, List.length_cons]
    by_cases q : c = 60 ∨ c = 62 ∨ c = 38
    · have : runL letB (escC c ++ (escL z ++ 60 :: v)) = 0 := by
        rcases q with rfl | rfl | rfl <;> rfl
      omega
    · rw [not_or, not_or] at q
      have : escC c = [c] := by
        unfold escC
        rw [if_neg q.1, if_neg q.2.1, if_neg q.2.2]
      rw [this]
      exact Nat.le_trans (g c (escL z ++ 60 :: v)) (Nat.succ_le_succ ih)
/-- few letters stand behind a begin tag -/
theorem opn_rest {t : Tr} {pre rest : List Nat} (h : Opn t pre rest) : ∀ m, okTr m t → ∃ u v, rest = escL u ++ 60 :: v ∧ u.length ≤ 5 ∧ ∀ c ∈ u, c ∈ signCs := by
  induction h with
  | here nm cs =>
    intro m hm
    cases m with
    | zero => exact hm.elim
    | succ m =>
      obtain ⟨a1, a2, a3, a4⟩ := hm
      cases cs with
      | nil => exact ⟨[], _, by rw [wrs]; rfl, Nat.zero_le _, fun c hc => by cases hc⟩
      | cons c cs =>
        cases c with
        | el n ds =>
          have := wr_el n ds (wrs true cs ++ 60 :: 47 :: (nm.cps.toList ++ [62]))
          exact ⟨[], _, by rw [wrs, List.append_assoc, this]; rfl, Nat.zero_le _, fun c hc => by cases hc⟩
        | txt z =>
          have hz : okText 5 z := by
            have := a4 (.txt z) (List.mem_cons_self ..)
            cases m <;> exact this
          obtain ⟨l', e⟩ := behind_txt (b := true) a3 (47 :: (nm.cps.toList ++ [62]))
          have hl : z.cps.toList.length = z.cps.size := Array.length_toList
          exact ⟨z.cps.toList, l', by rw [wrs, List.append_assoc, e, wr], by rw [hl]; exact hz.2.1, hz.2.2⟩
  | deep nm as bs c pre rest h ih =>
    intro m hm
    cases m with
    | zero => exact hm.elim
    | succ m =>
      obtain ⟨u, v, e, h1, h2⟩ := ih m (hm.2.2.2 c (by simp))
      exact ⟨u, v ++ (wrs true bs ++ 60 :: 47 :: (nm.cps.toList ++ [62])), by rw [e, List.append_assoc]; rfl, h1, h2⟩
theorem opn_run {t : Tr} {pre rest : List Nat} (h : Opn t pre rest) {m : Nat} (hm : okTr m t) : runL letB rest ≤ 5 := by
  obtain ⟨u, v, rfl, h1, h2⟩ := opn_rest h m hm
  exact Nat.le_trans (run_esc u v h2) h1
/-- there is one -/
theorem tg_root {nm : Str} {cs : List Tr} (h : nm ∈ fourNames) : Tg (wr true (.el nm cs)) (1 + nm.cps.toList.length) := by
  have e0 := wr_el nm cs []
  rw [List.append_nil] at e0
  have hln := let_no h
  rw [e0]
  refine ⟨?_, 0, by omega, rfl, fun j h1 h2 => ?_⟩
  · rw [Nat.add_comm, List.getElem?_cons_succ, List.getElem?_append_right (Nat.le_refl _), Nat.sub_self]
    rfl
  · obtain ⟨j, rfl⟩ : ∃ j', j = j' + 1 := ⟨j - 1, by omega⟩
    rw [List.getElem?_cons_succ, List.getElem?_append_left (by omega)]
    have hj : j < nm.cps.toList.length := by omega
    rw [List.getElem?_eq_getElem hj]
    have := hln _ (List.getElem_mem hj)
    exact ⟨fun e => this.1 (Option.some.inj e), fun e => this.2.2 (Option.some.inj e)⟩
end Tp


set_option Elab.async false
set_option linter.all false
set_option maxRecDepth 100000
set_option maxHeartbeats 4000000
namespace Tp
open PySem PySem.Spec PyProof.Rows L2 Evl Builtin Builtin.Str StrLaws
/-! ### where text[:k].rfind('<') leads -/
theorem lt_is : ("<" : PySem.Str) = ⟨#[60]⟩ := by decide +kernel
theorem rf_lt (z : PySem.Str) : (Txt.rfind z "<" = -1 ∧ ∀ j : Nat, z.cps.toList[j]? ≠ some 60) ∨ ∃ a : Nat, Txt.rfind z "<" = (a : Int) ∧ z.cps.toList[a]? = some 60 ∧ ∀ j : Nat, a < j → z.cps.toList[j]? ≠ some 60 := by
  unfold Txt.rfind
  rw [lt_is]
  rcases last_spec z ⟨#[60]⟩ with ⟨h1, h2⟩ | ⟨a, h1, h2, h3⟩
  · rw [h1]
    exact .inl ⟨rfl, fun j e => h2 j ((subAt_one z 60 j).mpr e)⟩
  · rw [h1]
    exact .inr ⟨a, rfl, (subAt_one z 60 a).mp h2, fun j hj e => h3 j hj ((subAt_one z 60 j).mpr e)⟩
/-- the law's test at k -/
def tgB (z : PySem.Str) (k : Nat) : Bool := decide (z.cps.toList[k]? = some 62) && !decide (47 ∈ (cutS z (some (Txt.rfind (sL (z.cps.toList.take k)) "<")) (some (k : Int))).cps.toList)
theorem cut_mid {z : PySem.Str} {a k : Nat} (h : a ≤ k) (hk : k ≤ z.cps.size) : (cutS z (some (a : Int)) (some (k : Int))).cps.toList = (z.cps.toList.drop a).take (k - a) := by
  have hr : remS z a (z.cps.toList.drop a) := ⟨by omega, rfl⟩
  have := hr.cut (k := k - a)
  rw [show a + (k - a) = k by omega] at this
  rw [this, sL_list]
theorem mid_mem {l : List Nat} {a k c : Nat} : c ∈ (l.drop a).take (k - a) ↔ ∃ j, a ≤ j ∧ j < k ∧ l[j]? = some c := by
  constructor
  · intro h
    obtain ⟨i, hi, e⟩ := List.getElem_of_mem h
    rw [List.length_take] at hi
    have e2 : ((l.drop a).take (k - a))[i]? = some c := by rw [List.getElem?_eq_getElem (by rw [List.length_take]; exact hi), e]
    rw [List.getElem?_take, if_pos (by omega), List.getElem?_drop] at e2
    exact ⟨a + i, by omega, by omega, e2⟩
  · rintro ⟨j, h1, h2, h3⟩
    refine List.mem_of_getElem? (i := j - a) ?_
    rw [List.getElem?_take, if_pos (by omega), List.getElem?_drop, show a + (j - a) = j by omega]
    exact h3
theorem tgB_tg {z : PySem.Str} (h0 : z.cps.toList[0]? = some 60) {k : Nat} (h : tgB z k = true) : Tg z.cps.toList k := by
  unfold tgB at h
  rw [Bool.and_eq_true, decide_eq_true_eq] at h
  obtain ⟨h1, h2⟩ := h
  have hk : k < z.cps.size := by
    obtain ⟨g, _⟩ := List.getElem?_eq_some_iff.mp h1
    rw [Array.length_toList] at g
    exact g
  have hk0 : 0 < k := by
    cases k with
    | zero => rw [h0] at h1; cases h1
    | succ k => omega
  rcases rf_lt (sL (z.cps.toList.take k)) with ⟨_, g⟩ | ⟨a, ga, g1, g2⟩
  · exfalso
    refine g 0 ?_
    rw [sL_list, List.getElem?_take, if_pos hk0]
    exact h0
  · rw [sL_list] at g1 g2
    rw [List.getElem?_take] at g1
    split at g1
    · rename_i hak
      rw [ga, cut_mid (by omega) (by omega)] at h2
      have h2 : 47 ∉ (z.cps.toList.drop a).take (k - a) := by
        intro q
        rw [decide_eq_true q] at h2
        cases h2
      refine ⟨h1, a, hak, g1, fun j b1 b2 => ⟨fun e => g2 j b1 (by rw [List.getElem?_take, if_pos b2]; exact e), fun e => h2 (mid_mem.mpr ⟨j, by omega, b2, e⟩)⟩⟩
    · cases g1
theorem tg_tgB {z : PySem.Str} {k : Nat} (h : Tg z.cps.toList k) : tgB z k = true := by
  obtain ⟨h1, a, h2, h3, h4⟩ := h
  have hk : k < z.cps.size := by
    obtain ⟨g, _⟩ := List.getElem?_eq_some_iff.mp h1
    rw [Array.length_toList] at g
    exact g
  unfold tgB
  rw [decide_eq_true h1, Bool.true_and]
  rcases rf_lt (sL (z.cps.toList.take k)) with ⟨_, g⟩ | ⟨b, gb, g1, g2⟩
  · exfalso
    refine g a ?_
    rw [sL_list, List.getElem?_take, if_pos h2]
    exact h3
  · rw [sL_list] at g1 g2
    have hb : b = a := by
      rw [List.getElem?_take] at g1
      split at g1
      · rename_i hbk
        by_cases q : b < a
        · exact absurd (by rw [List.getElem?_take, if_pos h2]; exact h3) (g2 a q)
        · by_cases q2 : a < b
          · exact absurd g1 (h4 b q2 hbk).1
          · omega
      · cases g1
    subst hb
    rw [gb, cut_mid (by omega) (by omega)]
    have : 47 ∉ (z.cps.toList.drop b).take (k - b) := by
      intro q
      obtain ⟨j, c1, c2, c3⟩ := mid_mem.mp q
      by_cases e : j = b
      · rw [e, h3] at c3
        cases c3
      · exact (h4 j (by omega) c2).2 c3
    rw [decide_eq_false this]
    rfl
end Tp

namespace Tp
open PySem PySem.Spec PyProof.Rows L2 Evl
/-! ### the text by places, the facts -/
def top (i : Nat) : Stmt := PySem.Challenge.pw_topiary_k19_first_error_of_a_text.main.body.getD i (.Pass ⟨0, 0, 0, 0⟩)
abbrev s_TextError_init : Stmt := inClass (top 2) 0
abbrev N_TextError_init : List Str := ["self", "line", "column", "reason"]
abbrev ps_TextError_init : List Str := ["self", "line", "column", "reason"]
abbrev at_TextError_init : Str × Option Str := ("TextError", some "__init__")
theorem sc_TextError_init : FnScope N_TextError_init ps_TextError_init (defScope s_TextError_init) := ⟨rfl, rfl, rfl, by decide +kernel, rfl, by decide +kernel, by decide +kernel⟩
def d_TextError_init : He.DefD := ⟨at_TextError_init, "__init__", "TextError.__init__", defArgs s_TextError_init, defBody s_TextError_init, defScope s_TextError_init, [], []⟩
abbrev s_TooLarge_init : Stmt := inClass (top 3) 0
abbrev N_TooLarge_init : List Str := ["self", "limit"]
abbrev ps_TooLarge_init : List Str := ["self", "limit"]
abbrev at_TooLarge_init : Str × Option Str := ("TooLarge", some "__init__")
theorem sc_TooLarge_init : FnScope N_TooLarge_init ps_TooLarge_init (defScope s_TooLarge_init) := ⟨rfl, rfl, rfl, by decide +kernel, rfl, by decide +kernel, by decide +kernel⟩
def d_TooLarge_init : He.DefD := ⟨at_TooLarge_init, "__init__", "TooLarge.__init__", defArgs s_TooLarge_init, defBody s_TooLarge_init, defScope s_TooLarge_init, [], []⟩
abbrev s_is_sign : Stmt := top 5
abbrev N_is_sign : List Str := ["character"]
abbrev ps_is_sign : List Str := ["character"]
abbrev at_is_sign : Str × Option Str := ("is_sign", none)
theorem sc_is_sign : FnScope N_is_sign ps_is_sign (defScope s_is_sign) := ⟨rfl, rfl, rfl, by decide +kernel, rfl, by decide +kernel, by decide +kernel⟩
def d_is_sign : He.DefD := ⟨at_is_sign, "is_sign", "is_sign", defArgs s_is_sign, defBody s_is_sign, defScope s_is_sign, [], []⟩
abbrev s_is_letter : Stmt := top 6
abbrev N_is_letter : List Str := ["character"]
abbrev ps_is_letter : List Str := ["character"]
abbrev at_is_letter : Str × Option Str := ("is_letter", none)
theorem sc_is_letter : FnScope N_is_letter ps_is_letter (defScope s_is_letter) := ⟨rfl, rfl, rfl, by decide +kernel, rfl, by decide +kernel, by decide +kernel⟩
def d_is_letter : He.DefD := ⟨at_is_letter, "is_letter", "is_letter", defArgs s_is_letter, defBody s_is_letter, defScope s_is_letter, [], []⟩
abbrev s__refuse : Stmt := top 14
abbrev N__refuse : List Str := ["text", "place", "reason", "line", "column"]
abbrev ps__refuse : List Str := ["text", "place", "reason"]
abbrev at__refuse : Str × Option Str := ("_refuse", none)
theorem sc__refuse : FnScope N__refuse ps__refuse (defScope s__refuse) := ⟨rfl, rfl, rfl, by decide +kernel, rfl, by decide +kernel, by decide +kernel⟩
def d__refuse : He.DefD := ⟨at__refuse, "_refuse", "_refuse", defArgs s__refuse, defBody s__refuse, defScope s__refuse, [], []⟩
abbrev s_Reading_init : Stmt := inClass (top 15) 0
abbrev N_Reading_init : List Str := ["self", "source"]
abbrev ps_Reading_init : List Str := ["self", "source"]
abbrev at_Reading_init : Str × Option Str := ("Reading", some "__init__")
theorem sc_Reading_init : FnScope N_Reading_init ps_Reading_init (defScope s_Reading_init) := ⟨rfl, rfl, rfl, by decide +kernel, rfl, by decide +kernel, by decide +kernel⟩
def d_Reading_init : He.DefD := ⟨at_Reading_init, "__init__", "Reading.__init__", defArgs s_Reading_init, defBody s_Reading_init, defScope s_Reading_init, [], []⟩
abbrev s_Reading_begins : Stmt := inClass (top 15) 1
abbrev N_Reading_begins : List Str := ["self", "word"]
abbrev ps_Reading_begins : List Str := ["self", "word"]
abbrev at_Reading_begins : Str × Option Str := ("Reading", some "begins")
theorem sc_Reading_begins : FnScope N_Reading_begins ps_Reading_begins (defScope s_Reading_begins) := ⟨rfl, rfl, rfl, by decide +kernel, rfl, by decide +kernel, by decide +kernel⟩
def d_Reading_begins : He.DefD := ⟨at_Reading_begins, "begins", "Reading.begins", defArgs s_Reading_begins, defBody s_Reading_begins, defScope s_Reading_begins, [], []⟩
abbrev s_Reading_read_root : Stmt := inClass (top 15) 2
abbrev N_Reading_read_root : List Str := ["self"]
abbrev ps_Reading_read_root : List Str := ["self"]
abbrev at_Reading_read_root : Str × Option Str := ("Reading", some "read_root")
theorem sc_Reading_read_root : FnScope N_Reading_read_root ps_Reading_read_root (defScope s_Reading_read_root) := ⟨rfl, rfl, rfl, by decide +kernel, rfl, by decide +kernel, by decide +kernel⟩
def d_Reading_read_root : He.DefD := ⟨at_Reading_read_root, "read_root", "Reading.read_root", defArgs s_Reading_read_root, defBody s_Reading_read_root, defScope s_Reading_read_root, [], []⟩
abbrev s_Reading_read_part : Stmt := inClass (top 15) 3
abbrev N_Reading_read_part : List Str := ["self"]
abbrev ps_Reading_read_part : List Str := ["self"]
abbrev at_Reading_read_part : Str × Option Str := ("Reading", some "read_part")
theorem sc_Reading_read_part : FnScope N_Reading_read_part ps_Reading_read_part (defScope s_Reading_read_part) := ⟨rfl, rfl, rfl, by decide +kernel, rfl, by decide +kernel, by decide +kernel⟩
def d_Reading_read_part : He.DefD := ⟨at_Reading_read_part, "read_part", "Reading.read_part", defArgs s_Reading_read_part, defBody s_Reading_read_part, defScope s_Reading_read_part, [], []⟩
abbrev s_Reading_read_begin_tag : Stmt := inClass (top 15) 4
abbrev N_Reading_read_begin_tag : List Str := ["self", "element"]
abbrev ps_Reading_read_begin_tag : List Str := ["self"]
abbrev at_Reading_read_begin_tag : Str × Option Str := ("Reading", some "read_begin_tag")
theorem sc_Reading_read_begin_tag : FnScope N_Reading_read_begin_tag ps_Reading_read_begin_tag (defScope s_Reading_read_begin_tag) := ⟨rfl, rfl, rfl, by decide +kernel, rfl, by decide +kernel, by decide +kernel⟩
def d_Reading_read_begin_tag : He.DefD := ⟨at_Reading_read_begin_tag, "read_begin_tag", "Reading.read_begin_tag", defArgs s_Reading_read_begin_tag, defBody s_Reading_read_begin_tag, defScope s_Reading_read_begin_tag, [], []⟩
abbrev s_Reading_read_end_tag : Stmt := inClass (top 15) 5
abbrev N_Reading_read_end_tag : List Str := ["self", "start", "name", "due", "is_cut"]
abbrev ps_Reading_read_end_tag : List Str := ["self"]
abbrev at_Reading_read_end_tag : Str × Option Str := ("Reading", some "read_end_tag")
theorem sc_Reading_read_end_tag : FnScope N_Reading_read_end_tag ps_Reading_read_end_tag (defScope s_Reading_read_end_tag) := ⟨rfl, rfl, rfl, by decide +kernel, rfl, by decide +kernel, by decide +kernel⟩
def d_Reading_read_end_tag : He.DefD := ⟨at_Reading_read_end_tag, "read_end_tag", "Reading.read_end_tag", defArgs s_Reading_read_end_tag, defBody s_Reading_read_end_tag, defScope s_Reading_read_end_tag, [], []⟩
abbrev s_Reading_read_name : Stmt := inClass (top 15) 6
abbrev N_Reading_read_name : List Str := ["self", "start", "place"]
abbrev ps_Reading_read_name : List Str := ["self", "start"]
abbrev at_Reading_read_name : Str × Option Str := ("Reading", some "read_name")
theorem sc_Reading_read_name : FnScope N_Reading_read_name ps_Reading_read_name (defScope s_Reading_read_name) := ⟨rfl, rfl, rfl, by decide +kernel, rfl, by decide +kernel, by decide +kernel⟩
def d_Reading_read_name : He.DefD := ⟨at_Reading_read_name, "read_name", "Reading.read_name", defArgs s_Reading_read_name, defBody s_Reading_read_name, defScope s_Reading_read_name, [], []⟩
abbrev s_Reading_read_tag_end : Stmt := inClass (top 15) 7
abbrev N_Reading_read_tag_end : List Str := ["self"]
abbrev ps_Reading_read_tag_end : List Str := ["self"]
abbrev at_Reading_read_tag_end : Str × Option Str := ("Reading", some "read_tag_end")
theorem sc_Reading_read_tag_end : FnScope N_Reading_read_tag_end ps_Reading_read_tag_end (defScope s_Reading_read_tag_end) := ⟨rfl, rfl, rfl, by decide +kernel, rfl, by decide +kernel, by decide +kernel⟩
def d_Reading_read_tag_end : He.DefD := ⟨at_Reading_read_tag_end, "read_tag_end", "Reading.read_tag_end", defArgs s_Reading_read_tag_end, defBody s_Reading_read_tag_end, defScope s_Reading_read_tag_end, [], []⟩
abbrev s_Reading_read_text : Stmt := inClass (top 15) 8
abbrev N_Reading_read_text : List Str := ["self", "signs", "written", "sign"]
abbrev ps_Reading_read_text : List Str := ["self"]
abbrev at_Reading_read_text : Str × Option Str := ("Reading", some "read_text")
theorem sc_Reading_read_text : FnScope N_Reading_read_text ps_Reading_read_text (defScope s_Reading_read_text) := ⟨rfl, rfl, rfl, by decide +kernel, rfl, by decide +kernel, by decide +kernel⟩
def d_Reading_read_text : He.DefD := ⟨at_Reading_read_text, "read_text", "Reading.read_text", defArgs s_Reading_read_text, defBody s_Reading_read_text, defScope s_Reading_read_text, [], []⟩
abbrev s_Reading_next_sign : Stmt := inClass (top 15) 9
abbrev N_Reading_next_sign : List Str := ["self", "written", "sign", "place"]
abbrev ps_Reading_next_sign : List Str := ["self"]
abbrev at_Reading_next_sign : Str × Option Str := ("Reading", some "next_sign")
theorem sc_Reading_next_sign : FnScope N_Reading_next_sign ps_Reading_next_sign (defScope s_Reading_next_sign) := ⟨rfl, rfl, rfl, by decide +kernel, rfl, by decide +kernel, by decide +kernel⟩
def d_Reading_next_sign : He.DefD := ⟨at_Reading_next_sign, "next_sign", "Reading.next_sign", defArgs s_Reading_next_sign, defBody s_Reading_next_sign, defScope s_Reading_next_sign, [], []⟩
abbrev s_Reading_count_node : Stmt := inClass (top 15) 10
abbrev N_Reading_count_node : List Str := ["self"]
abbrev ps_Reading_count_node : List Str := ["self"]
abbrev at_Reading_count_node : Str × Option Str := ("Reading", some "count_node")
theorem sc_Reading_count_node : FnScope N_Reading_count_node ps_Reading_count_node (defScope s_Reading_count_node) := ⟨rfl, rfl, rfl, by decide +kernel, rfl, by decide +kernel, by decide +kernel⟩
def d_Reading_count_node : He.DefD := ⟨at_Reading_count_node, "count_node", "Reading.count_node", defArgs s_Reading_count_node, defBody s_Reading_count_node, defScope s_Reading_count_node, [], []⟩
abbrev s_read_document : Stmt := top 16
abbrev N_read_document : List Str := ["text", "reading"]
abbrev ps_read_document : List Str := ["text"]
abbrev at_read_document : Str × Option Str := ("read_document", none)
theorem sc_read_document : FnScope N_read_document ps_read_document (defScope s_read_document) := ⟨rfl, rfl, rfl, by decide +kernel, rfl, by decide +kernel, by decide +kernel⟩
def d_read_document : He.DefD := ⟨at_read_document, "read_document", "read_document", defArgs s_read_document, defBody s_read_document, defScope s_read_document, [], []⟩
abbrev s__law_draws : Stmt := top 18
abbrev N__law_draws : List Str := ["script", "draws", "cell", "seed", "k", "number", "first"]
abbrev ps__law_draws : List Str := ["script"]
abbrev at__law_draws : Str × Option Str := ("_law_draws", none)
theorem sc__law_draws : FnScope N__law_draws ps__law_draws (defScope s__law_draws) := ⟨rfl, rfl, rfl, by decide +kernel, rfl, by decide +kernel, by decide +kernel⟩
def d__law_draws : He.DefD := ⟨at__law_draws, "_law_draws", "_law_draws", defArgs s__law_draws, defBody s__law_draws, defScope s__law_draws, [], []⟩
abbrev s__law_take : Stmt := top 19
abbrev N__law_take : List Str := ["draws", "bound"]
abbrev ps__law_take : List Str := ["draws", "bound"]
abbrev at__law_take : Str × Option Str := ("_law_take", none)
theorem sc__law_take : FnScope N__law_take ps__law_take (defScope s__law_take) := ⟨rfl, rfl, rfl, by decide +kernel, rfl, by decide +kernel, by decide +kernel⟩
def d__law_take : He.DefD := ⟨at__law_take, "_law_take", "_law_take", defArgs s__law_take, defBody s__law_take, defScope s__law_take, [], []⟩
abbrev s__law_same : Stmt := top 20
abbrev N__law_same : List Str := ["actual", "due", "k"]
abbrev ps__law_same : List Str := ["actual", "due"]
abbrev at__law_same : Str × Option Str := ("_law_same", none)
theorem sc__law_same : FnScope N__law_same ps__law_same (defScope s__law_same) := ⟨rfl, rfl, rfl, by decide +kernel, rfl, by decide +kernel, by decide +kernel⟩
def d__law_same : He.DefD := ⟨at__law_same, "_law_same", "_law_same", defArgs s__law_same, defBody s__law_same, defScope s__law_same, [], []⟩
abbrev s__law_string : Stmt := top 21
abbrev N__law_string : List Str := ["draws", "most", "signs", "string", "k"]
abbrev ps__law_string : List Str := ["draws", "most"]
abbrev at__law_string : Str × Option Str := ("_law_string", none)
theorem sc__law_string : FnScope N__law_string ps__law_string (defScope s__law_string) := ⟨rfl, rfl, rfl, by decide +kernel, rfl, by decide +kernel, by decide +kernel⟩
def d__law_string : He.DefD := ⟨at__law_string, "_law_string", "_law_string", defArgs s__law_string, defBody s__law_string, defScope s__law_string, [], []⟩
abbrev s__law_tree : Stmt := top 22
abbrev N__law_tree : List Str := ["draws", "depth", "names", "children", "many", "k", "beside"]
abbrev ps__law_tree : List Str := ["draws", "depth", "names"]
abbrev at__law_tree : Str × Option Str := ("_law_tree", none)
theorem sc__law_tree : FnScope N__law_tree ps__law_tree (defScope s__law_tree) := ⟨rfl, rfl, rfl, by decide +kernel, rfl, by decide +kernel, by decide +kernel⟩
def d__law_tree : He.DefD := ⟨at__law_tree, "_law_tree", "_law_tree", defArgs s__law_tree, defBody s__law_tree, defScope s__law_tree, [], []⟩
abbrev s__law_names : Stmt := top 23
abbrev N__law_names : List Str := ["draws"]
abbrev ps__law_names : List Str := ["draws"]
abbrev at__law_names : Str × Option Str := ("_law_names", none)
theorem sc__law_names : FnScope N__law_names ps__law_names (defScope s__law_names) := ⟨rfl, rfl, rfl, by decide +kernel, rfl, by decide +kernel, by decide +kernel⟩
def d__law_names : He.DefD := ⟨at__law_names, "_law_names", "_law_names", defArgs s__law_names, defBody s__law_names, defScope s__law_names, [], []⟩
abbrev s__law_escaped : Stmt := top 24
abbrev N__law_escaped : List Str := ["string", "signs", "letter"]
abbrev ps__law_escaped : List Str := ["string"]
abbrev at__law_escaped : Str × Option Str := ("_law_escaped", none)
theorem sc__law_escaped : FnScope N__law_escaped ps__law_escaped (defScope s__law_escaped) := ⟨rfl, rfl, rfl, by decide +kernel, rfl, by decide +kernel, by decide +kernel⟩
def d__law_escaped : He.DefD := ⟨at__law_escaped, "_law_escaped", "_law_escaped", defArgs s__law_escaped, defBody s__law_escaped, defScope s__law_escaped, [], []⟩
abbrev s__law_written : Stmt := top 25
abbrev N__law_written : List Str := ["tree", "loose", "inner", "child"]
abbrev ps__law_written : List Str := ["tree", "loose"]
abbrev at__law_written : Str × Option Str := ("_law_written", none)
theorem sc__law_written : FnScope N__law_written ps__law_written (defScope s__law_written) := ⟨rfl, rfl, rfl, by decide +kernel, rfl, by decide +kernel, by decide +kernel⟩
def d__law_written : He.DefD := ⟨at__law_written, "_law_written", "_law_written", defArgs s__law_written, defBody s__law_written, defScope s__law_written, [], []⟩
abbrev s__law_error : Stmt := top 26
abbrev N__law_error : List Str := ["text", "e"]
abbrev ps__law_error : List Str := ["text"]
abbrev at__law_error : Str × Option Str := ("_law_error", none)
theorem sc__law_error : FnScope N__law_error ps__law_error (defScope s__law_error) := ⟨rfl, rfl, rfl, by decide +kernel, rfl, by decide +kernel, by decide +kernel⟩
def d__law_error : He.DefD := ⟨at__law_error, "_law_error", "_law_error", defArgs s__law_error, defBody s__law_error, defScope s__law_error, [], []⟩
abbrev s__law_place : Stmt := top 27
abbrev N__law_place : List Str := ["text", "at", "before", "line", "column", "k"]
abbrev ps__law_place : List Str := ["text", "at"]
abbrev at__law_place : Str × Option Str := ("_law_place", none)
theorem sc__law_place : FnScope N__law_place ps__law_place (defScope s__law_place) := ⟨rfl, rfl, rfl, by decide +kernel, rfl, by decide +kernel, by decide +kernel⟩
def d__law_place : He.DefD := ⟨at__law_place, "_law_place", "_law_place", defArgs s__law_place, defBody s__law_place, defScope s__law_place, [], []⟩
abbrev s__law_pieces : Stmt := top 28
abbrev N__law_pieces : List Str := ["rows"]
abbrev ps__law_pieces : List Str := []
abbrev at__law_pieces : Str × Option Str := ("_law_pieces", none)
theorem sc__law_pieces : FnScope N__law_pieces ps__law_pieces (defScope s__law_pieces) := ⟨rfl, rfl, rfl, by decide +kernel, rfl, by decide +kernel, by decide +kernel⟩
def d__law_pieces : He.DefD := ⟨at__law_pieces, "_law_pieces", "_law_pieces", defArgs s__law_pieces, defBody s__law_pieces, defScope s__law_pieces, [], []⟩
abbrev s_law : Stmt := top 29
abbrev N_law : List Str := ["script", "draws", "tree", "text", "places", "at", "rows", "row", "wrong", "more", "other", "cut", "told", "k"]
abbrev ps_law : List Str := ["script"]
abbrev at_law : Str × Option Str := ("law", none)
theorem sc_law : FnScope N_law ps_law (defScope s_law) := ⟨rfl, rfl, rfl, by decide +kernel, rfl, by decide +kernel, by decide +kernel⟩
def d_law : He.DefD := ⟨at_law, "law", "law", defArgs s_law, defBody s_law, defScope s_law, [], []⟩
def fn : List He.DefD := [d_TextError_init, d_TooLarge_init, d_is_sign, d_is_letter, d__refuse, d_Reading_init, d_Reading_begins, d_Reading_read_root, d_Reading_read_part, d_Reading_read_begin_tag, d_Reading_read_end_tag, d_Reading_read_name, d_Reading_read_tag_end, d_Reading_read_text, d_Reading_next_sign, d_Reading_count_node, d_read_document, d__law_draws, d__law_take, d__law_same, d__law_string, d__law_tree, d__law_names, d__law_escaped, d__law_written, d__law_error, d__law_place, d__law_pieces, d_law]
def fa : List He.Fa := [.free "len", .free "range", .free "int", .free "str", .free "list", .free "tuple", .free "bool", .free "reversed", .free "isinstance", .free "abs", .free "ValueError", .glo "TopiaryError", .glo "TextError", .noat "TextError" "line", .noat "TextError" "column", .noat "TextError" "reason", .glo "TooLarge", .noat "TooLarge" "limit", .glo "Reading", .noat "Reading" "source", .noat "Reading" "reached", .noat "Reading" "nodes", .noat "Reading" "stack", .cls "Reading", .mkr "Reading", .meth "Reading" "begins", .meth "Reading" "read_root", .meth "Reading" "read_part", .meth "Reading" "read_begin_tag", .meth "Reading" "read_end_tag", .meth "Reading" "read_name", .meth "Reading" "read_tag_end", .meth "Reading" "read_text", .meth "Reading" "next_sign", .meth "Reading" "count_node", .int "NAME_LETTERS" 12, .int "TEXT_CHARACTERS" 200, .int "MOST_NODES" 5000, .int "MOST_DEPTH" 60, .int "MOST_CHARACTERS" 200000, .glo "WRITTEN_SIGNS", .glo "is_sign", .glo "is_letter", .glo "_refuse", .glo "read_document", .glo "_law_draws", .glo "_law_take", .glo "_law_same", .glo "_law_string", .glo "_law_tree", .glo "_law_names", .glo "_law_escaped", .glo "_law_written", .glo "_law_error", .glo "_law_place", .glo "_law_pieces", .glo "law"]
def fx : List Fx := [.exc "TextError", .ini "TextError", .exc "TooLarge", .ini "TooLarge", .xf "TextError", .sub "TextError" "TextError" true, .tups "WRITTEN_SIGNS" [["&lt;", "<"], ["&gt;", ">"], ["&amp;", "&"]]]
def ts : List He.Tab := []
def tf : List He.Defn := []
abbrev TX (K : PySem.W.Frag) (mg : Str → Option Value) : Prop := Txt fa fn fx K mg
theorem TX.n_len {K : PySem.W.Frag} {mg : Str → Option Value} (T : TX K mg) : mg "len" = none := T.no 0 _ rfl
theorem TX.n_range {K : PySem.W.Frag} {mg : Str → Option Value} (T : TX K mg) : mg "range" = none := T.no 1 _ rfl
theorem TX.n_int {K : PySem.W.Frag} {mg : Str → Option Value} (T : TX K mg) : mg "int" = none := T.no 2 _ rfl
theorem TX.n_str {K : PySem.W.Frag} {mg : Str → Option Value} (T : TX K mg) : mg "str" = none := T.no 3 _ rfl
theorem TX.n_list {K : PySem.W.Frag} {mg : Str → Option Value} (T : TX K mg) : mg "list" = none := T.no 4 _ rfl
theorem TX.n_tuple {K : PySem.W.Frag} {mg : Str → Option Value} (T : TX K mg) : mg "tuple" = none := T.no 5 _ rfl
theorem TX.n_bool {K : PySem.W.Frag} {mg : Str → Option Value} (T : TX K mg) : mg "bool" = none := T.no 6 _ rfl
theorem TX.n_reversed {K : PySem.W.Frag} {mg : Str → Option Value} (T : TX K mg) : mg "reversed" = none := T.no 7 _ rfl
theorem TX.n_isinstance {K : PySem.W.Frag} {mg : Str → Option Value} (T : TX K mg) : mg "isinstance" = none := T.no 8 _ rfl
theorem TX.n_abs {K : PySem.W.Frag} {mg : Str → Option Value} (T : TX K mg) : mg "abs" = none := T.no 9 _ rfl
theorem TX.n_ValueError {K : PySem.W.Frag} {mg : Str → Option Value} (T : TX K mg) : mg "ValueError" = none := T.no 10 _ rfl
theorem TX.g_TopiaryError {K : PySem.W.Frag} {mg : Str → Option Value} (T : TX K mg) : mg "TopiaryError" = some (.ref (He.ga K "TopiaryError")) := T.gl 11 _ rfl
theorem TX.g_TextError {K : PySem.W.Frag} {mg : Str → Option Value} (T : TX K mg) : mg "TextError" = some (.ref (He.ga K "TextError")) := T.gl 12 _ rfl
theorem TX.na_TextError_line {K : PySem.W.Frag} {mg : Str → Option Value} (T : TX K mg) : NoAttr K (He.ga K "TextError") "line" := He.noat_ok (T.f 13 _ rfl)
theorem TX.na_TextError_column {K : PySem.W.Frag} {mg : Str → Option Value} (T : TX K mg) : NoAttr K (He.ga K "TextError") "column" := He.noat_ok (T.f 14 _ rfl)
theorem TX.na_TextError_reason {K : PySem.W.Frag} {mg : Str → Option Value} (T : TX K mg) : NoAttr K (He.ga K "TextError") "reason" := He.noat_ok (T.f 15 _ rfl)
theorem TX.ox_TextError {K : PySem.W.Frag} {mg : Str → Option Value} (T : TX K mg) : OexC K (He.ga K "TextError") := excB_ok (T.x 0 _ rfl)
theorem TX.oi_TextError {K : PySem.W.Frag} {mg : Str → Option Value} (T : TX K mg) : PySem.W.findIn K (.ref (He.ga K "TextError")) "__init__" = some (some (.ref (He.ma K (He.ga K "TextError") "__init__"))) := (iniB_ok (T.x 1 _ rfl)).1
theorem TX.ot_TextError {K : PySem.W.Frag} {mg : Str → Option Value} (T : TX K mg) : PySem.W.typeIn K (.ref (He.ma K (He.ga K "TextError") "__init__")) = some (.type "function") := (iniB_ok (T.x 1 _ rfl)).2
theorem TX.g_TooLarge {K : PySem.W.Frag} {mg : Str → Option Value} (T : TX K mg) : mg "TooLarge" = some (.ref (He.ga K "TooLarge")) := T.gl 16 _ rfl
theorem TX.na_TooLarge_limit {K : PySem.W.Frag} {mg : Str → Option Value} (T : TX K mg) : NoAttr K (He.ga K "TooLarge") "limit" := He.noat_ok (T.f 17 _ rfl)
theorem TX.ox_TooLarge {K : PySem.W.Frag} {mg : Str → Option Value} (T : TX K mg) : OexC K (He.ga K "TooLarge") := excB_ok (T.x 2 _ rfl)
theorem TX.oi_TooLarge {K : PySem.W.Frag} {mg : Str → Option Value} (T : TX K mg) : PySem.W.findIn K (.ref (He.ga K "TooLarge")) "__init__" = some (some (.ref (He.ma K (He.ga K "TooLarge") "__init__"))) := (iniB_ok (T.x 3 _ rfl)).1
theorem TX.ot_TooLarge {K : PySem.W.Frag} {mg : Str → Option Value} (T : TX K mg) : PySem.W.typeIn K (.ref (He.ma K (He.ga K "TooLarge") "__init__")) = some (.type "function") := (iniB_ok (T.x 3 _ rfl)).2
theorem TX.g_Reading {K : PySem.W.Frag} {mg : Str → Option Value} (T : TX K mg) : mg "Reading" = some (.ref (He.ga K "Reading")) := T.gl 18 _ rfl
theorem TX.na_Reading_source {K : PySem.W.Frag} {mg : Str → Option Value} (T : TX K mg) : NoAttr K (He.ga K "Reading") "source" := He.noat_ok (T.f 19 _ rfl)
theorem TX.na_Reading_reached {K : PySem.W.Frag} {mg : Str → Option Value} (T : TX K mg) : NoAttr K (He.ga K "Reading") "reached" := He.noat_ok (T.f 20 _ rfl)
theorem TX.na_Reading_nodes {K : PySem.W.Frag} {mg : Str → Option Value} (T : TX K mg) : NoAttr K (He.ga K "Reading") "nodes" := He.noat_ok (T.f 21 _ rfl)
theorem TX.na_Reading_stack {K : PySem.W.Frag} {mg : Str → Option Value} (T : TX K mg) : NoAttr K (He.ga K "Reading") "stack" := He.noat_ok (T.f 22 _ rfl)
abbrev flds_Reading (a0 a1 a2 a3 : V) : List (Str × V) := [("source", a0), ("reached", a1), ("nodes", a2), ("stack", a3)]
theorem fl_Reading_source (a0 a1 a2 a3 : V) : (flds_Reading a0 a1 a2 a3).lookup ("source" : Str) = some a0 := fld_at (ks := ["source", "reached", "nodes", "stack"]) 0 rfl rfl (by decide +kernel)
theorem pf_Reading_reached (a0 x : V) : putF "reached" x ([("source", a0)] : List (Str × V)) = ([("source", a0), ("reached", x)] : List (Str × V)) := putF_app (ks := ["source"]) rfl (by decide +kernel)
theorem fl_Reading_reached (a0 a1 a2 a3 : V) : (flds_Reading a0 a1 a2 a3).lookup ("reached" : Str) = some a1 := fld_at (ks := ["source", "reached", "nodes", "stack"]) 1 rfl rfl (by decide +kernel)
theorem pf_Reading_nodes (a0 a1 x : V) : putF "nodes" x ([("source", a0), ("reached", a1)] : List (Str × V)) = ([("source", a0), ("reached", a1), ("nodes", x)] : List (Str × V)) := putF_app (ks := ["source", "reached"]) rfl (by decide +kernel)
theorem fl_Reading_nodes (a0 a1 a2 a3 : V) : (flds_Reading a0 a1 a2 a3).lookup ("nodes" : Str) = some a2 := fld_at (ks := ["source", "reached", "nodes", "stack"]) 2 rfl rfl (by decide +kernel)
theorem pf_Reading_stack (a0 a1 a2 x : V) : putF "stack" x ([("source", a0), ("reached", a1), ("nodes", a2)] : List (Str × V)) = ([("source", a0), ("reached", a1), ("nodes", a2), ("stack", x)] : List (Str × V)) := putF_app (ks := ["source", "reached", "nodes"]) rfl (by decide +kernel)
theorem fl_Reading_stack (a0 a1 a2 a3 : V) : (flds_Reading a0 a1 a2 a3).lookup ("stack" : Str) = some a3 := fld_at (ks := ["source", "reached", "nodes", "stack"]) 3 rfl rfl (by decide +kernel)
theorem fn_Reading_begins (a0 a1 a2 a3 : V) : (flds_Reading a0 a1 a2 a3).lookup ("begins" : Str) = none := fld_no (ks := ["source", "reached", "nodes", "stack"]) rfl (by decide +kernel)
theorem fn_Reading_read_root (a0 a1 a2 a3 : V) : (flds_Reading a0 a1 a2 a3).lookup ("read_root" : Str) = none := fld_no (ks := ["source", "reached", "nodes", "stack"]) rfl (by decide +kernel)
theorem fn_Reading_read_part (a0 a1 a2 a3 : V) : (flds_Reading a0 a1 a2 a3).lookup ("read_part" : Str) = none := fld_no (ks := ["source", "reached", "nodes", "stack"]) rfl (by decide +kernel)
theorem fn_Reading_read_begin_tag (a0 a1 a2 a3 : V) : (flds_Reading a0 a1 a2 a3).lookup ("read_begin_tag" : Str) = none := fld_no (ks := ["source", "reached", "nodes", "stack"]) rfl (by decide +kernel)
theorem fn_Reading_read_end_tag (a0 a1 a2 a3 : V) : (flds_Reading a0 a1 a2 a3).lookup ("read_end_tag" : Str) = none := fld_no (ks := ["source", "reached", "nodes", "stack"]) rfl (by decide +kernel)
theorem fn_Reading_read_name (a0 a1 a2 a3 : V) : (flds_Reading a0 a1 a2 a3).lookup ("read_name" : Str) = none := fld_no (ks := ["source", "reached", "nodes", "stack"]) rfl (by decide +kernel)
theorem fn_Reading_read_tag_end (a0 a1 a2 a3 : V) : (flds_Reading a0 a1 a2 a3).lookup ("read_tag_end" : Str) = none := fld_no (ks := ["source", "reached", "nodes", "stack"]) rfl (by decide +kernel)
theorem fn_Reading_read_text (a0 a1 a2 a3 : V) : (flds_Reading a0 a1 a2 a3).lookup ("read_text" : Str) = none := fld_no (ks := ["source", "reached", "nodes", "stack"]) rfl (by decide +kernel)
theorem fn_Reading_next_sign (a0 a1 a2 a3 : V) : (flds_Reading a0 a1 a2 a3).lookup ("next_sign" : Str) = none := fld_no (ks := ["source", "reached", "nodes", "stack"]) rfl (by decide +kernel)
theorem fn_Reading_count_node (a0 a1 a2 a3 : V) : (flds_Reading a0 a1 a2 a3).lookup ("count_node" : Str) = none := fld_no (ks := ["source", "reached", "nodes", "stack"]) rfl (by decide +kernel)
theorem TX.cl_Reading {K : PySem.W.Frag} {mg : Str → Option Value} (T : TX K mg) : Cls K (He.ga K "Reading") := He.cls_ok (T.f 23 _ rfl)
theorem TX.m_Reading {K : PySem.W.Frag} {mg : Str → Option Value} (T : TX K mg) : Mk K (He.ga K "Reading") (He.ma K (He.ga K "Reading") "__init__") := He.mkr_ok (T.f 24 _ rfl)
theorem TX.me_Reading_begins {K : PySem.W.Frag} {mg : Str → Option Value} (T : TX K mg) : Meth K (He.ga K "Reading") "begins" (He.ma K (He.ga K "Reading") "begins") := He.meth_ok (T.f 25 _ rfl)
theorem TX.me_Reading_read_root {K : PySem.W.Frag} {mg : Str → Option Value} (T : TX K mg) : Meth K (He.ga K "Reading") "read_root" (He.ma K (He.ga K "Reading") "read_root") := He.meth_ok (T.f 26 _ rfl)
theorem TX.me_Reading_read_part {K : PySem.W.Frag} {mg : Str → Option Value} (T : TX K mg) : Meth K (He.ga K "Reading") "read_part" (He.ma K (He.ga K "Reading") "read_part") := He.meth_ok (T.f 27 _ rfl)
theorem TX.me_Reading_read_begin_tag {K : PySem.W.Frag} {mg : Str → Option Value} (T : TX K mg) : Meth K (He.ga K "Reading") "read_begin_tag" (He.ma K (He.ga K "Reading") "read_begin_tag") := He.meth_ok (T.f 28 _ rfl)
theorem TX.me_Reading_read_end_tag {K : PySem.W.Frag} {mg : Str → Option Value} (T : TX K mg) : Meth K (He.ga K "Reading") "read_end_tag" (He.ma K (He.ga K "Reading") "read_end_tag") := He.meth_ok (T.f 29 _ rfl)
theorem TX.me_Reading_read_name {K : PySem.W.Frag} {mg : Str → Option Value} (T : TX K mg) : Meth K (He.ga K "Reading") "read_name" (He.ma K (He.ga K "Reading") "read_name") := He.meth_ok (T.f 30 _ rfl)
theorem TX.me_Reading_read_tag_end {K : PySem.W.Frag} {mg : Str → Option Value} (T : TX K mg) : Meth K (He.ga K "Reading") "read_tag_end" (He.ma K (He.ga K "Reading") "read_tag_end") := He.meth_ok (T.f 31 _ rfl)
theorem TX.me_Reading_read_text {K : PySem.W.Frag} {mg : Str → Option Value} (T : TX K mg) : Meth K (He.ga K "Reading") "read_text" (He.ma K (He.ga K "Reading") "read_text") := He.meth_ok (T.f 32 _ rfl)
theorem TX.me_Reading_next_sign {K : PySem.W.Frag} {mg : Str → Option Value} (T : TX K mg) : Meth K (He.ga K "Reading") "next_sign" (He.ma K (He.ga K "Reading") "next_sign") := He.meth_ok (T.f 33 _ rfl)
theorem TX.me_Reading_count_node {K : PySem.W.Frag} {mg : Str → Option Value} (T : TX K mg) : Meth K (He.ga K "Reading") "count_node" (He.ma K (He.ga K "Reading") "count_node") := He.meth_ok (T.f 34 _ rfl)
theorem TX.xf_TextError {K : PySem.W.Frag} {mg : Str → Option Value} (T : TX K mg) : XfC K (He.ga K "TextError") := xfB_ok (T.x 4 _ rfl)
theorem TX.ex_TextError_TextError {K : PySem.W.Frag} {mg : Str → Option Value} (T : TX K mg) : PySem.W.exmOne K (.ref (He.ga K "TextError")) (.ref (He.ga K "TextError")) = some true := of_decide_eq_true (T.x 5 _ rfl)
theorem TX.c_NAME_LETTERS {K : PySem.W.Frag} {mg : Str → Option Value} (T : TX K mg) : ∃ t, mg "NAME_LETTERS" = some (.int 12 t) := T.int 35 _ _ rfl
theorem TX.c_TEXT_CHARACTERS {K : PySem.W.Frag} {mg : Str → Option Value} (T : TX K mg) : ∃ t, mg "TEXT_CHARACTERS" = some (.int 200 t) := T.int 36 _ _ rfl
theorem TX.c_MOST_NODES {K : PySem.W.Frag} {mg : Str → Option Value} (T : TX K mg) : ∃ t, mg "MOST_NODES" = some (.int 5000 t) := T.int 37 _ _ rfl
theorem TX.c_MOST_DEPTH {K : PySem.W.Frag} {mg : Str → Option Value} (T : TX K mg) : ∃ t, mg "MOST_DEPTH" = some (.int 60 t) := T.int 38 _ _ rfl
theorem TX.c_MOST_CHARACTERS {K : PySem.W.Frag} {mg : Str → Option Value} (T : TX K mg) : ∃ t, mg "MOST_CHARACTERS" = some (.int 200000 t) := T.int 39 _ _ rfl
theorem TX.g_WRITTEN_SIGNS {K : PySem.W.Frag} {mg : Str → Option Value} (T : TX K mg) : mg "WRITTEN_SIGNS" = some (.ref (He.ga K "WRITTEN_SIGNS")) := T.gl 40 _ rfl
theorem TX.tu_WRITTEN_SIGNS {K : PySem.W.Frag} {mg : Str → Option Value} (T : TX K mg) : TupsC K (He.ga K "WRITTEN_SIGNS") [["&lt;", "<"], ["&gt;", ">"], ["&amp;", "&"]] := tupsB_ok (T.x 6 _ rfl)
theorem TX.k_TextError_init {K : PySem.W.Frag} {mg : Str → Option Value} (T : TX K mg) : PySem.W.keepIn K (.ref (He.fAd K at_TextError_init)) = true := (T.d 0 _ rfl).choose_spec.kp
theorem TX.k_TooLarge_init {K : PySem.W.Frag} {mg : Str → Option Value} (T : TX K mg) : PySem.W.keepIn K (.ref (He.fAd K at_TooLarge_init)) = true := (T.d 1 _ rfl).choose_spec.kp
theorem TX.g_is_sign {K : PySem.W.Frag} {mg : Str → Option Value} (T : TX K mg) : mg "is_sign" = some (.ref (He.ga K "is_sign")) := T.gl 41 _ rfl
theorem TX.k_is_sign {K : PySem.W.Frag} {mg : Str → Option Value} (T : TX K mg) : PySem.W.keepIn K (.ref (He.fAd K at_is_sign)) = true := (T.d 2 _ rfl).choose_spec.kp
theorem TX.g_is_letter {K : PySem.W.Frag} {mg : Str → Option Value} (T : TX K mg) : mg "is_letter" = some (.ref (He.ga K "is_letter")) := T.gl 42 _ rfl
theorem TX.k_is_letter {K : PySem.W.Frag} {mg : Str → Option Value} (T : TX K mg) : PySem.W.keepIn K (.ref (He.fAd K at_is_letter)) = true := (T.d 3 _ rfl).choose_spec.kp
theorem TX.g__refuse {K : PySem.W.Frag} {mg : Str → Option Value} (T : TX K mg) : mg "_refuse" = some (.ref (He.ga K "_refuse")) := T.gl 43 _ rfl
theorem TX.k__refuse {K : PySem.W.Frag} {mg : Str → Option Value} (T : TX K mg) : PySem.W.keepIn K (.ref (He.fAd K at__refuse)) = true := (T.d 4 _ rfl).choose_spec.kp
theorem TX.k_Reading_init {K : PySem.W.Frag} {mg : Str → Option Value} (T : TX K mg) : PySem.W.keepIn K (.ref (He.fAd K at_Reading_init)) = true := (T.d 5 _ rfl).choose_spec.kp
theorem TX.k_Reading_begins {K : PySem.W.Frag} {mg : Str → Option Value} (T : TX K mg) : PySem.W.keepIn K (.ref (He.fAd K at_Reading_begins)) = true := (T.d 6 _ rfl).choose_spec.kp
theorem TX.k_Reading_read_root {K : PySem.W.Frag} {mg : Str → Option Value} (T : TX K mg) : PySem.W.keepIn K (.ref (He.fAd K at_Reading_read_root)) = true := (T.d 7 _ rfl).choose_spec.kp
theorem TX.k_Reading_read_part {K : PySem.W.Frag} {mg : Str → Option Value} (T : TX K mg) : PySem.W.keepIn K (.ref (He.fAd K at_Reading_read_part)) = true := (T.d 8 _ rfl).choose_spec.kp
theorem TX.k_Reading_read_begin_tag {K : PySem.W.Frag} {mg : Str → Option Value} (T : TX K mg) : PySem.W.keepIn K (.ref (He.fAd K at_Reading_read_begin_tag)) = true := (T.d 9 _ rfl).choose_spec.kp
theorem TX.k_Reading_read_end_tag {K : PySem.W.Frag} {mg : Str → Option Value} (T : TX K mg) : PySem.W.keepIn K (.ref (He.fAd K at_Reading_read_end_tag)) = true := (T.d 10 _ rfl).choose_spec.kp
theorem TX.k_Reading_read_name {K : PySem.W.Frag} {mg : Str → Option Value} (T : TX K mg) : PySem.W.keepIn K (.ref (He.fAd K at_Reading_read_name)) = true := (T.d 11 _ rfl).choose_spec.kp
theorem TX.k_Reading_read_tag_end {K : PySem.W.Frag} {mg : Str → Option Value} (T : TX K mg) : PySem.W.keepIn K (.ref (He.fAd K at_Reading_read_tag_end)) = true := (T.d 12 _ rfl).choose_spec.kp
theorem TX.k_Reading_read_text {K : PySem.W.Frag} {mg : Str → Option Value} (T : TX K mg) : PySem.W.keepIn K (.ref (He.fAd K at_Reading_read_text)) = true := (T.d 13 _ rfl).choose_spec.kp
theorem TX.k_Reading_next_sign {K : PySem.W.Frag} {mg : Str → Option Value} (T : TX K mg) : PySem.W.keepIn K (.ref (He.fAd K at_Reading_next_sign)) = true := (T.d 14 _ rfl).choose_spec.kp
theorem TX.k_Reading_count_node {K : PySem.W.Frag} {mg : Str → Option Value} (T : TX K mg) : PySem.W.keepIn K (.ref (He.fAd K at_Reading_count_node)) = true := (T.d 15 _ rfl).choose_spec.kp
theorem TX.g_read_document {K : PySem.W.Frag} {mg : Str → Option Value} (T : TX K mg) : mg "read_document" = some (.ref (He.ga K "read_document")) := T.gl 44 _ rfl
theorem TX.k_read_document {K : PySem.W.Frag} {mg : Str → Option Value} (T : TX K mg) : PySem.W.keepIn K (.ref (He.fAd K at_read_document)) = true := (T.d 16 _ rfl).choose_spec.kp
theorem TX.g__law_draws {K : PySem.W.Frag} {mg : Str → Option Value} (T : TX K mg) : mg "_law_draws" = some (.ref (He.ga K "_law_draws")) := T.gl 45 _ rfl
theorem TX.k__law_draws {K : PySem.W.Frag} {mg : Str → Option Value} (T : TX K mg) : PySem.W.keepIn K (.ref (He.fAd K at__law_draws)) = true := (T.d 17 _ rfl).choose_spec.kp
theorem TX.g__law_take {K : PySem.W.Frag} {mg : Str → Option Value} (T : TX K mg) : mg "_law_take" = some (.ref (He.ga K "_law_take")) := T.gl 46 _ rfl
theorem TX.k__law_take {K : PySem.W.Frag} {mg : Str → Option Value} (T : TX K mg) : PySem.W.keepIn K (.ref (He.fAd K at__law_take)) = true := (T.d 18 _ rfl).choose_spec.kp
theorem TX.g__law_same {K : PySem.W.Frag} {mg : Str → Option Value} (T : TX K mg) : mg "_law_same" = some (.ref (He.ga K "_law_same")) := T.gl 47 _ rfl
theorem TX.k__law_same {K : PySem.W.Frag} {mg : Str → Option Value} (T : TX K mg) : PySem.W.keepIn K (.ref (He.fAd K at__law_same)) = true := (T.d 19 _ rfl).choose_spec.kp
theorem TX.g__law_string {K : PySem.W.Frag} {mg : Str → Option Value} (T : TX K mg) : mg "_law_string" = some (.ref (He.ga K "_law_string")) := T.gl 48 _ rfl
theorem TX.k__law_string {K : PySem.W.Frag} {mg : Str → Option Value} (T : TX K mg) : PySem.W.keepIn K (.ref (He.fAd K at__law_string)) = true := (T.d 20 _ rfl).choose_spec.kp
theorem TX.g__law_tree {K : PySem.W.Frag} {mg : Str → Option Value} (T : TX K mg) : mg "_law_tree" = some (.ref (He.ga K "_law_tree")) := T.gl 49 _ rfl
theorem TX.k__law_tree {K : PySem.W.Frag} {mg : Str → Option Value} (T : TX K mg) : PySem.W.keepIn K (.ref (He.fAd K at__law_tree)) = true := (T.d 21 _ rfl).choose_spec.kp
theorem TX.g__law_names {K : PySem.W.Frag} {mg : Str → Option Value} (T : TX K mg) : mg "_law_names" = some (.ref (He.ga K "_law_names")) := T.gl 50 _ rfl
theorem TX.k__law_names {K : PySem.W.Frag} {mg : Str → Option Value} (T : TX K mg) : PySem.W.keepIn K (.ref (He.fAd K at__law_names)) = true := (T.d 22 _ rfl).choose_spec.kp
theorem TX.g__law_escaped {K : PySem.W.Frag} {mg : Str → Option Value} (T : TX K mg) : mg "_law_escaped" = some (.ref (He.ga K "_law_escaped")) := T.gl 51 _ rfl
theorem TX.k__law_escaped {K : PySem.W.Frag} {mg : Str → Option Value} (T : TX K mg) : PySem.W.keepIn K (.ref (He.fAd K at__law_escaped)) = true := (T.d 23 _ rfl).choose_spec.kp
theorem TX.g__law_written {K : PySem.W.Frag} {mg : Str → Option Value} (T : TX K mg) : mg "_law_written" = some (.ref (He.ga K "_law_written")) := T.gl 52 _ rfl
theorem TX.k__law_written {K : PySem.W.Frag} {mg : Str → Option Value} (T : TX K mg) : PySem.W.keepIn K (.ref (He.fAd K at__law_written)) = true := (T.d 24 _ rfl).choose_spec.kp
theorem TX.g__law_error {K : PySem.W.Frag} {mg : Str → Option Value} (T : TX K mg) : mg "_law_error" = some (.ref (He.ga K "_law_error")) := T.gl 53 _ rfl
theorem TX.k__law_error {K : PySem.W.Frag} {mg : Str → Option Value} (T : TX K mg) : PySem.W.keepIn K (.ref (He.fAd K at__law_error)) = true := (T.d 25 _ rfl).choose_spec.kp
theorem TX.g__law_place {K : PySem.W.Frag} {mg : Str → Option Value} (T : TX K mg) : mg "_law_place" = some (.ref (He.ga K "_law_place")) := T.gl 54 _ rfl
theorem TX.k__law_place {K : PySem.W.Frag} {mg : Str → Option Value} (T : TX K mg) : PySem.W.keepIn K (.ref (He.fAd K at__law_place)) = true := (T.d 26 _ rfl).choose_spec.kp
theorem TX.g__law_pieces {K : PySem.W.Frag} {mg : Str → Option Value} (T : TX K mg) : mg "_law_pieces" = some (.ref (He.ga K "_law_pieces")) := T.gl 55 _ rfl
theorem TX.k__law_pieces {K : PySem.W.Frag} {mg : Str → Option Value} (T : TX K mg) : PySem.W.keepIn K (.ref (He.fAd K at__law_pieces)) = true := (T.d 27 _ rfl).choose_spec.kp
theorem TX.g_law {K : PySem.W.Frag} {mg : Str → Option Value} (T : TX K mg) : mg "law" = some (.ref (He.ga K "law")) := T.gl 56 _ rfl
theorem TX.k_law {K : PySem.W.Frag} {mg : Str → Option Value} (T : TX K mg) : PySem.W.keepIn K (.ref (He.fAd K at_law)) = true := (T.d 28 _ rfl).choose_spec.kp
theorem mk_TextError_init {P : Program} {w : World} {K : PySem.W.Frag} {mg : Str → Option Value} {base : Heap} {CX : CXT} {k : Nat} {sp : Sp} (T : TX K mg) (h : ∀ fd, FunD K "__init__" "TextError.__init__" (defArgs s_TextError_init) (defBody s_TextError_init) (defScope s_TextError_init) [] [] (He.fAd K at_TextError_init) fd → FnOk P w K mg base CX k (He.fAd K at_TextError_init) fd ps_TextError_init sp) :
    Can P w K mg base CX k (He.fAd K at_TextError_init) ps_TextError_init [] sp := by
  obtain ⟨fd, F⟩ := T.d 0 _ rfl
  exact ⟨fd, h fd F, [], .nil, FunD.bindsN F fun _ _ _ _ _ _ us hl => match us, hl with | [_, _, _, _], _ => rfl⟩
theorem mk_TooLarge_init {P : Program} {w : World} {K : PySem.W.Frag} {mg : Str → Option Value} {base : Heap} {CX : CXT} {k : Nat} {sp : Sp} (T : TX K mg) (h : ∀ fd, FunD K "__init__" "TooLarge.__init__" (defArgs s_TooLarge_init) (defBody s_TooLarge_init) (defScope s_TooLarge_init) [] [] (He.fAd K at_TooLarge_init) fd → FnOk P w K mg base CX k (He.fAd K at_TooLarge_init) fd ps_TooLarge_init sp) :
    Can P w K mg base CX k (He.fAd K at_TooLarge_init) ps_TooLarge_init [] sp := by
  obtain ⟨fd, F⟩ := T.d 1 _ rfl
  exact ⟨fd, h fd F, [], .nil, FunD.bindsN F fun _ _ _ _ _ _ us hl => match us, hl with | [_, _], _ => rfl⟩
theorem mk_is_sign {P : Program} {w : World} {K : PySem.W.Frag} {mg : Str → Option Value} {base : Heap} {CX : CXT} {k : Nat} {sp : Sp} (T : TX K mg) (h : ∀ fd, FunD K "is_sign" "is_sign" (defArgs s_is_sign) (defBody s_is_sign) (defScope s_is_sign) [] [] (He.fAd K at_is_sign) fd → FnOk P w K mg base CX k (He.fAd K at_is_sign) fd ps_is_sign sp) :
    Can P w K mg base CX k (He.fAd K at_is_sign) ps_is_sign [] sp := by
  obtain ⟨fd, F⟩ := T.d 2 _ rfl
  exact ⟨fd, h fd F, [], .nil, FunD.bindsN F fun _ _ _ _ _ _ us hl => match us, hl with | [_], _ => rfl⟩
theorem mk_is_letter {P : Program} {w : World} {K : PySem.W.Frag} {mg : Str → Option Value} {base : Heap} {CX : CXT} {k : Nat} {sp : Sp} (T : TX K mg) (h : ∀ fd, FunD K "is_letter" "is_letter" (defArgs s_is_letter) (defBody s_is_letter) (defScope s_is_letter) [] [] (He.fAd K at_is_letter) fd → FnOk P w K mg base CX k (He.fAd K at_is_letter) fd ps_is_letter sp) :
    Can P w K mg base CX k (He.fAd K at_is_letter) ps_is_letter [] sp := by
  obtain ⟨fd, F⟩ := T.d 3 _ rfl
  exact ⟨fd, h fd F, [], .nil, FunD.bindsN F fun _ _ _ _ _ _ us hl => match us, hl with | [_], _ => rfl⟩
theorem mk__refuse {P : Program} {w : World} {K : PySem.W.Frag} {mg : Str → Option Value} {base : Heap} {CX : CXT} {k : Nat} {sp : Sp} (T : TX K mg) (h : ∀ fd, FunD K "_refuse" "_refuse" (defArgs s__refuse) (defBody s__refuse) (defScope s__refuse) [] [] (He.fAd K at__refuse) fd → FnOk P w K mg base CX k (He.fAd K at__refuse) fd ps__refuse sp) :
    Can P w K mg base CX k (He.fAd K at__refuse) ps__refuse [] sp := by
  obtain ⟨fd, F⟩ := T.d 4 _ rfl
  exact ⟨fd, h fd F, [], .nil, FunD.bindsN F fun _ _ _ _ _ _ us hl => match us, hl with | [_, _, _], _ => rfl⟩
theorem mk_Reading_init {P : Program} {w : World} {K : PySem.W.Frag} {mg : Str → Option Value} {base : Heap} {CX : CXT} {k : Nat} {sp : Sp} (T : TX K mg) (h : ∀ fd, FunD K "__init__" "Reading.__init__" (defArgs s_Reading_init) (defBody s_Reading_init) (defScope s_Reading_init) [] [] (He.fAd K at_Reading_init) fd → FnOk P w K mg base CX k (He.fAd K at_Reading_init) fd ps_Reading_init sp) :
    Can P w K mg base CX k (He.fAd K at_Reading_init) ps_Reading_init [] sp := by
  obtain ⟨fd, F⟩ := T.d 5 _ rfl
  exact ⟨fd, h fd F, [], .nil, FunD.bindsN F fun _ _ _ _ _ _ us hl => match us, hl with | [_, _], _ => rfl⟩
theorem mk_Reading_begins {P : Program} {w : World} {K : PySem.W.Frag} {mg : Str → Option Value} {base : Heap} {CX : CXT} {k : Nat} {sp : Sp} (T : TX K mg) (h : ∀ fd, FunD K "begins" "Reading.begins" (defArgs s_Reading_begins) (defBody s_Reading_begins) (defScope s_Reading_begins) [] [] (He.fAd K at_Reading_begins) fd → FnOk P w K mg base CX k (He.fAd K at_Reading_begins) fd ps_Reading_begins sp) :
    Can P w K mg base CX k (He.fAd K at_Reading_begins) ps_Reading_begins [] sp := by
  obtain ⟨fd, F⟩ := T.d 6 _ rfl
  exact ⟨fd, h fd F, [], .nil, FunD.bindsN F fun _ _ _ _ _ _ us hl => match us, hl with | [_, _], _ => rfl⟩
theorem mk_Reading_read_root {P : Program} {w : World} {K : PySem.W.Frag} {mg : Str → Option Value} {base : Heap} {CX : CXT} {k : Nat} {sp : Sp} (T : TX K mg) (h : ∀ fd, FunD K "read_root" "Reading.read_root" (defArgs s_Reading_read_root) (defBody s_Reading_read_root) (defScope s_Reading_read_root) [] [] (He.fAd K at_Reading_read_root) fd → FnOk P w K mg base CX k (He.fAd K at_Reading_read_root) fd ps_Reading_read_root sp) :
    Can P w K mg base CX k (He.fAd K at_Reading_read_root) ps_Reading_read_root [] sp := by
  obtain ⟨fd, F⟩ := T.d 7 _ rfl
  exact ⟨fd, h fd F, [], .nil, FunD.bindsN F fun _ _ _ _ _ _ us hl => match us, hl with | [_], _ => rfl⟩
theorem mk_Reading_read_part {P : Program} {w : World} {K : PySem.W.Frag} {mg : Str → Option Value} {base : Heap} {CX : CXT} {k : Nat} {sp : Sp} (T : TX K mg) (h : ∀ fd, FunD K "read_part" "Reading.read_part" (defArgs s_Reading_read_part) (defBody s_Reading_read_part) (defScope s_Reading_read_part) [] [] (He.fAd K at_Reading_read_part) fd → FnOk P w K mg base CX k (He.fAd K at_Reading_read_part) fd ps_Reading_read_part sp) :
    Can P w K mg base CX k (He.fAd K at_Reading_read_part) ps_Reading_read_part [] sp := by
  obtain ⟨fd, F⟩ := T.d 8 _ rfl
  exact ⟨fd, h fd F, [], .nil, FunD.bindsN F fun _ _ _ _ _ _ us hl => match us, hl with | [_], _ => rfl⟩
theorem mk_Reading_read_begin_tag {P : Program} {w : World} {K : PySem.W.Frag} {mg : Str → Option Value} {base : Heap} {CX : CXT} {k : Nat} {sp : Sp} (T : TX K mg) (h : ∀ fd, FunD K "read_begin_tag" "Reading.read_begin_tag" (defArgs s_Reading_read_begin_tag) (defBody s_Reading_read_begin_tag) (defScope s_Reading_read_begin_tag) [] [] (He.fAd K at_Reading_read_begin_tag) fd → FnOk P w K mg base CX k (He.fAd K at_Reading_read_begin_tag) fd ps_Reading_read_begin_tag sp) :
    Can P w K mg base CX k (He.fAd K at_Reading_read_begin_tag) ps_Reading_read_begin_tag [] sp := by
  obtain ⟨fd, F⟩ := T.d 9 _ rfl
  exact ⟨fd, h fd F, [], .nil, FunD.bindsN F fun _ _ _ _ _ _ us hl => match us, hl with | [_], _ => rfl⟩
theorem mk_Reading_read_end_tag {P : Program} {w : World} {K : PySem.W.Frag} {mg : Str → Option Value} {base : Heap} {CX : CXT} {k : Nat} {sp : Sp} (T : TX K mg) (h : ∀ fd, FunD K "read_end_tag" "Reading.read_end_tag" (defArgs s_Reading_read_end_tag) (defBody s_Reading_read_end_tag) (defScope s_Reading_read_end_tag) [] [] (He.fAd K at_Reading_read_end_tag) fd → FnOk P w K mg base CX k (He.fAd K at_Reading_read_end_tag) fd ps_Reading_read_end_tag sp) :
    Can P w K mg base CX k (He.fAd K at_Reading_read_end_tag) ps_Reading_read_end_tag [] sp := by
  obtain ⟨fd, F⟩ := T.d 10 _ rfl
  exact ⟨fd, h fd F, [], .nil, FunD.bindsN F fun _ _ _ _ _ _ us hl => match us, hl with | [_], _ => rfl⟩
theorem mk_Reading_read_name {P : Program} {w : World} {K : PySem.W.Frag} {mg : Str → Option Value} {base : Heap} {CX : CXT} {k : Nat} {sp : Sp} (T : TX K mg) (h : ∀ fd, FunD K "read_name" "Reading.read_name" (defArgs s_Reading_read_name) (defBody s_Reading_read_name) (defScope s_Reading_read_name) [] [] (He.fAd K at_Reading_read_name) fd → FnOk P w K mg base CX k (He.fAd K at_Reading_read_name) fd ps_Reading_read_name sp) :
    Can P w K mg base CX k (He.fAd K at_Reading_read_name) ps_Reading_read_name [] sp := by
  obtain ⟨fd, F⟩ := T.d 11 _ rfl
  exact ⟨fd, h fd F, [], .nil, FunD.bindsN F fun _ _ _ _ _ _ us hl => match us, hl with | [_, _], _ => rfl⟩
theorem mk_Reading_read_tag_end {P : Program} {w : World} {K : PySem.W.Frag} {mg : Str → Option Value} {base : Heap} {CX : CXT} {k : Nat} {sp : Sp} (T : TX K mg) (h : ∀ fd, FunD K "read_tag_end" "Reading.read_tag_end" (defArgs s_Reading_read_tag_end) (defBody s_Reading_read_tag_end) (defScope s_Reading_read_tag_end) [] [] (He.fAd K at_Reading_read_tag_end) fd → FnOk P w K mg base CX k (He.fAd K at_Reading_read_tag_end) fd ps_Reading_read_tag_end sp) :
    Can P w K mg base CX k (He.fAd K at_Reading_read_tag_end) ps_Reading_read_tag_end [] sp := by
  obtain ⟨fd, F⟩ := T.d 12 _ rfl
  exact ⟨fd, h fd F, [], .nil, FunD.bindsN F fun _ _ _ _ _ _ us hl => match us, hl with | [_], _ => rfl⟩
theorem mk_Reading_read_text {P : Program} {w : World} {K : PySem.W.Frag} {mg : Str → Option Value} {base : Heap} {CX : CXT} {k : Nat} {sp : Sp} (T : TX K mg) (h : ∀ fd, FunD K "read_text" "Reading.read_text" (defArgs s_Reading_read_text) (defBody s_Reading_read_text) (defScope s_Reading_read_text) [] [] (He.fAd K at_Reading_read_text) fd → FnOk P w K mg base CX k (He.fAd K at_Reading_read_text) fd ps_Reading_read_text sp) :
    Can P w K mg base CX k (He.fAd K at_Reading_read_text) ps_Reading_read_text [] sp := by
  obtain ⟨fd, F⟩ := T.d 13 _ rfl
  exact ⟨fd, h fd F, [], .nil, FunD.bindsN F fun _ _ _ _ _ _ us hl => match us, hl with | [_], _ => rfl⟩
theorem mk_Reading_next_sign {P : Program} {w : World} {K : PySem.W.Frag} {mg : Str → Option Value} {base : Heap} {CX : CXT} {k : Nat} {sp : Sp} (T : TX K mg) (h : ∀ fd, FunD K "next_sign" "Reading.next_sign" (defArgs s_Reading_next_sign) (defBody s_Reading_next_sign) (defScope s_Reading_next_sign) [] [] (He.fAd K at_Reading_next_sign) fd → FnOk P w K mg base CX k (He.fAd K at_Reading_next_sign) fd ps_Reading_next_sign sp) :
    Can P w K mg base CX k (He.fAd K at_Reading_next_sign) ps_Reading_next_sign [] sp := by
  obtain ⟨fd, F⟩ := T.d 14 _ rfl
  exact ⟨fd, h fd F, [], .nil, FunD.bindsN F fun _ _ _ _ _ _ us hl => match us, hl with | [_], _ => rfl⟩
theorem mk_Reading_count_node {P : Program} {w : World} {K : PySem.W.Frag} {mg : Str → Option Value} {base : Heap} {CX : CXT} {k : Nat} {sp : Sp} (T : TX K mg) (h : ∀ fd, FunD K "count_node" "Reading.count_node" (defArgs s_Reading_count_node) (defBody s_Reading_count_node) (defScope s_Reading_count_node) [] [] (He.fAd K at_Reading_count_node) fd → FnOk P w K mg base CX k (He.fAd K at_Reading_count_node) fd ps_Reading_count_node sp) :
    Can P w K mg base CX k (He.fAd K at_Reading_count_node) ps_Reading_count_node [] sp := by
  obtain ⟨fd, F⟩ := T.d 15 _ rfl
  exact ⟨fd, h fd F, [], .nil, FunD.bindsN F fun _ _ _ _ _ _ us hl => match us, hl with | [_], _ => rfl⟩
theorem mk_read_document {P : Program} {w : World} {K : PySem.W.Frag} {mg : Str → Option Value} {base : Heap} {CX : CXT} {k : Nat} {sp : Sp} (T : TX K mg) (h : ∀ fd, FunD K "read_document" "read_document" (defArgs s_read_document) (defBody s_read_document) (defScope s_read_document) [] [] (He.fAd K at_read_document) fd → FnOk P w K mg base CX k (He.fAd K at_read_document) fd ps_read_document sp) :
    Can P w K mg base CX k (He.fAd K at_read_document) ps_read_document [] sp := by
  obtain ⟨fd, F⟩ := T.d 16 _ rfl
  exact ⟨fd, h fd F, [], .nil, FunD.bindsN F fun _ _ _ _ _ _ us hl => match us, hl with | [_], _ => rfl⟩
theorem mk__law_draws {P : Program} {w : World} {K : PySem.W.Frag} {mg : Str → Option Value} {base : Heap} {CX : CXT} {k : Nat} {sp : Sp} (T : TX K mg) (h : ∀ fd, FunD K "_law_draws" "_law_draws" (defArgs s__law_draws) (defBody s__law_draws) (defScope s__law_draws) [] [] (He.fAd K at__law_draws) fd → FnOk P w K mg base CX k (He.fAd K at__law_draws) fd ps__law_draws sp) :
    Can P w K mg base CX k (He.fAd K at__law_draws) ps__law_draws [] sp := by
  obtain ⟨fd, F⟩ := T.d 17 _ rfl
  exact ⟨fd, h fd F, [], .nil, FunD.bindsN F fun _ _ _ _ _ _ us hl => match us, hl with | [_], _ => rfl⟩
theorem mk__law_take {P : Program} {w : World} {K : PySem.W.Frag} {mg : Str → Option Value} {base : Heap} {CX : CXT} {k : Nat} {sp : Sp} (T : TX K mg) (h : ∀ fd, FunD K "_law_take" "_law_take" (defArgs s__law_take) (defBody s__law_take) (defScope s__law_take) [] [] (He.fAd K at__law_take) fd → FnOk P w K mg base CX k (He.fAd K at__law_take) fd ps__law_take sp) :
    Can P w K mg base CX k (He.fAd K at__law_take) ps__law_take [] sp := by
  obtain ⟨fd, F⟩ := T.d 18 _ rfl
  exact ⟨fd, h fd F, [], .nil, FunD.bindsN F fun _ _ _ _ _ _ us hl => match us, hl with | [_, _], _ => rfl⟩
theorem mk__law_same {P : Program} {w : World} {K : PySem.W.Frag} {mg : Str → Option Value} {base : Heap} {CX : CXT} {k : Nat} {sp : Sp} (T : TX K mg) (h : ∀ fd, FunD K "_law_same" "_law_same" (defArgs s__law_same) (defBody s__law_same) (defScope s__law_same) [] [] (He.fAd K at__law_same) fd → FnOk P w K mg base CX k (He.fAd K at__law_same) fd ps__law_same sp) :
    Can P w K mg base CX k (He.fAd K at__law_same) ps__law_same [] sp := by
  obtain ⟨fd, F⟩ := T.d 19 _ rfl
  exact ⟨fd, h fd F, [], .nil, FunD.bindsN F fun _ _ _ _ _ _ us hl => match us, hl with | [_, _], _ => rfl⟩
theorem mk__law_string {P : Program} {w : World} {K : PySem.W.Frag} {mg : Str → Option Value} {base : Heap} {CX : CXT} {k : Nat} {sp : Sp} (T : TX K mg) (h : ∀ fd, FunD K "_law_string" "_law_string" (defArgs s__law_string) (defBody s__law_string) (defScope s__law_string) [] [] (He.fAd K at__law_string) fd → FnOk P w K mg base CX k (He.fAd K at__law_string) fd ps__law_string sp) :
    Can P w K mg base CX k (He.fAd K at__law_string) ps__law_string [] sp := by
  obtain ⟨fd, F⟩ := T.d 20 _ rfl
  exact ⟨fd, h fd F, [], .nil, FunD.bindsN F fun _ _ _ _ _ _ us hl => match us, hl with | [_, _], _ => rfl⟩
theorem mk__law_tree {P : Program} {w : World} {K : PySem.W.Frag} {mg : Str → Option Value} {base : Heap} {CX : CXT} {k : Nat} {sp : Sp} (T : TX K mg) (h : ∀ fd, FunD K "_law_tree" "_law_tree" (defArgs s__law_tree) (defBody s__law_tree) (defScope s__law_tree) [] [] (He.fAd K at__law_tree) fd → FnOk P w K mg base CX k (He.fAd K at__law_tree) fd ps__law_tree sp) :
    Can P w K mg base CX k (He.fAd K at__law_tree) ps__law_tree [] sp := by
  obtain ⟨fd, F⟩ := T.d 21 _ rfl
  exact ⟨fd, h fd F, [], .nil, FunD.bindsN F fun _ _ _ _ _ _ us hl => match us, hl with | [_, _, _], _ => rfl⟩
theorem mk__law_names {P : Program} {w : World} {K : PySem.W.Frag} {mg : Str → Option Value} {base : Heap} {CX : CXT} {k : Nat} {sp : Sp} (T : TX K mg) (h : ∀ fd, FunD K "_law_names" "_law_names" (defArgs s__law_names) (defBody s__law_names) (defScope s__law_names) [] [] (He.fAd K at__law_names) fd → FnOk P w K mg base CX k (He.fAd K at__law_names) fd ps__law_names sp) :
    Can P w K mg base CX k (He.fAd K at__law_names) ps__law_names [] sp := by
  obtain ⟨fd, F⟩ := T.d 22 _ rfl
  exact ⟨fd, h fd F, [], .nil, FunD.bindsN F fun _ _ _ _ _ _ us hl => match us, hl with | [_], _ => rfl⟩
theorem mk__law_escaped {P : Program} {w : World} {K : PySem.W.Frag} {mg : Str → Option Value} {base : Heap} {CX : CXT} {k : Nat} {sp : Sp} (T : TX K mg) (h : ∀ fd, FunD K "_law_escaped" "_law_escaped" (defArgs s__law_escaped) (defBody s__law_escaped) (defScope s__law_escaped) [] [] (He.fAd K at__law_escaped) fd → FnOk P w K mg base CX k (He.fAd K at__law_escaped) fd ps__law_escaped sp) :
    Can P w K mg base CX k (He.fAd K at__law_escaped) ps__law_escaped [] sp := by
  obtain ⟨fd, F⟩ := T.d 23 _ rfl
  exact ⟨fd, h fd F, [], .nil, FunD.bindsN F fun _ _ _ _ _ _ us hl => match us, hl with | [_], _ => rfl⟩
theorem mk__law_written {P : Program} {w : World} {K : PySem.W.Frag} {mg : Str → Option Value} {base : Heap} {CX : CXT} {k : Nat} {sp : Sp} (T : TX K mg) (h : ∀ fd, FunD K "_law_written" "_law_written" (defArgs s__law_written) (defBody s__law_written) (defScope s__law_written) [] [] (He.fAd K at__law_written) fd → FnOk P w K mg base CX k (He.fAd K at__law_written) fd ps__law_written sp) :
    Can P w K mg base CX k (He.fAd K at__law_written) ps__law_written [] sp := by
  obtain ⟨fd, F⟩ := T.d 24 _ rfl
  exact ⟨fd, h fd F, [], .nil, FunD.bindsN F fun _ _ _ _ _ _ us hl => match us, hl with | [_, _], _ => rfl⟩
theorem mk__law_error {P : Program} {w : World} {K : PySem.W.Frag} {mg : Str → Option Value} {base : Heap} {CX : CXT} {k : Nat} {sp : Sp} (T : TX K mg) (h : ∀ fd, FunD K "_law_error" "_law_error" (defArgs s__law_error) (defBody s__law_error) (defScope s__law_error) [] [] (He.fAd K at__law_error) fd → FnOk P w K mg base CX k (He.fAd K at__law_error) fd ps__law_error sp) :
    Can P w K mg base CX k (He.fAd K at__law_error) ps__law_error [] sp := by
  obtain ⟨fd, F⟩ := T.d 25 _ rfl
  exact ⟨fd, h fd F, [], .nil, FunD.bindsN F fun _ _ _ _ _ _ us hl => match us, hl with | [_], _ => rfl⟩
theorem mk__law_place {P : Program} {w : World} {K : PySem.W.Frag} {mg : Str → Option Value} {base : Heap} {CX : CXT} {k : Nat} {sp : Sp} (T : TX K mg) (h : ∀ fd, FunD K "_law_place" "_law_place" (defArgs s__law_place) (defBody s__law_place) (defScope s__law_place) [] [] (He.fAd K at__law_place) fd → FnOk P w K mg base CX k (He.fAd K at__law_place) fd ps__law_place sp) :
    Can P w K mg base CX k (He.fAd K at__law_place) ps__law_place [] sp := by
  obtain ⟨fd, F⟩ := T.d 26 _ rfl
  exact ⟨fd, h fd F, [], .nil, FunD.bindsN F fun _ _ _ _ _ _ us hl => match us, hl with | [_, _], _ => rfl⟩
theorem mk__law_pieces {P : Program} {w : World} {K : PySem.W.Frag} {mg : Str → Option Value} {base : Heap} {CX : CXT} {k : Nat} {sp : Sp} (T : TX K mg) (h : ∀ fd, FunD K "_law_pieces" "_law_pieces" (defArgs s__law_pieces) (defBody s__law_pieces) (defScope s__law_pieces) [] [] (He.fAd K at__law_pieces) fd → FnOk P w K mg base CX k (He.fAd K at__law_pieces) fd ps__law_pieces sp) :
    Can P w K mg base CX k (He.fAd K at__law_pieces) ps__law_pieces [] sp := by
  obtain ⟨fd, F⟩ := T.d 27 _ rfl
  exact ⟨fd, h fd F, [], .nil, FunD.bindsN F fun _ _ _ _ _ _ us hl => match us, hl with | [], _ => rfl⟩
theorem mk_law {P : Program} {w : World} {K : PySem.W.Frag} {mg : Str → Option Value} {base : Heap} {CX : CXT} {k : Nat} {sp : Sp} (T : TX K mg) (h : ∀ fd, FunD K "law" "law" (defArgs s_law) (defBody s_law) (defScope s_law) [] [] (He.fAd K at_law) fd → FnOk P w K mg base CX k (He.fAd K at_law) fd ps_law sp) :
    Can P w K mg base CX k (He.fAd K at_law) ps_law [] sp := by
  obtain ⟨fd, F⟩ := T.d 28 _ rfl
  exact ⟨fd, h fd F, [], .nil, FunD.bindsN F fun _ _ _ _ _ _ us hl => match us, hl with | [_], _ => rfl⟩
/-! ### values that are data -/
theorem dp_ex {K : PySem.W.Frag} {H H' : Hp} (e : Ex H H') : ∀ {d : PyData} {v : V}, Dp K H v d → Dp K H' v d := by
  intro d v h
  refine Dp.rec (motive_1 := fun v d _ => Dp K H' v d) (motive_2 := fun vs ds _ => DpAll K H' vs ds) .non .bl .int .str (fun h _ ih => .lst (ex_l e h) ih) (fun h _ ih => .tup (ex_t e h) ih) .nil (fun _ _ a b => .cons a b) h
theorem dpAll_ex {K : PySem.W.Frag} {H H' : Hp} (e : Ex H H') : ∀ {ds : List PyData} {vs : List V}, DpAll K H vs ds → DpAll K H' vs ds
  | [], _, h => by
    cases h
    exact .nil
  | d :: ds, _, h => by
    cases h with
    | cons a b => exact .cons (dp_ex e a) (dpAll_ex e b)
theorem dpAll_snoc {K : PySem.W.Frag} {H : Hp} {v : V} {d : PyData} : ∀ {ds : List PyData} {vs : List V}, DpAll K H vs ds → Dp K H v d → DpAll K H (vs ++ [v]) (ds ++ [d])
  | [], _, h, h2 => by
    cases h
    exact .cons h2 .nil
  | c :: ds, _, h, h2 => by
    cases h with
    | cons a b => exact .cons a (dpAll_snoc b h2)
theorem dpa_at {K : PySem.W.Frag} {H : Hp} : ∀ {ds : List PyData} {xs : List V} {i : Nat} {x : V}, DpAll K H xs ds → xs[i]? = some x → ∃ d, ds[i]? = some d ∧ Dp K H x d
  | [], _, _, _, h, e => by
    cases h
    cases e
  | c :: ds, _, 0, _, h, e => by
    cases h with
    | cons a b =>
      cases e
      exact ⟨c, rfl, a⟩
  | c :: ds, _, i + 1, _, h, e => by
    cases h with
    | cons a b => exact dpa_at (i := i) b e
theorem dpa_len {K : PySem.W.Frag} {H : Hp} : ∀ {ds : List PyData} {xs : List V}, DpAll K H xs ds → xs.length = ds.length
  | [], _, h => by
    cases h
    rfl
  | c :: ds, _, h => by
    cases h with
    | cons a b => rw [List.length_cons, List.length_cons, dpa_len b]
/-! ### the draws -/
/-- a list of numbers stands at d -/
def Dr (H : Hp) (d : Addr) : Prop := ∃ ns : List Int, H d = some (.lst (ns.map V.int))
theorem Dr.kp {S : List Addr} {H H' : Hp} {d : Addr} (D : Dr H d) (e : Kp S H H') (h : d ∉ S) : Dr H' d := D.imp fun _ g => e.at g h
theorem Dr.keep {H H' : Hp} {d : Addr} (D : Dr H d) (e : Ex H H') : Dr H' d := D.imp fun _ g => e _ _ g
theorem Dr.on {H : Hp} {d : Addr} (D : Dr H d) : H d ≠ none := by
  obtain ⟨ns, h⟩ := D
  rw [h]
  intro z
  cases z
theorem Dr.ne {H : Hp} {d p : Addr} (D : Dr H d) (h : H p = none) : p ≠ d := fun e => D.on (e ▸ h)
theorem Dr.put {H : Hp} {d p : Addr} {o : HO} (D : Dr H d) (h : H p = none) : Dr (upd H p o) d := D.keep (Ex.new h)
theorem Dr.mut {H : Hp} {d p : Addr} {o : HO} (D : Dr H d) (h : p ≠ d) : Dr (upd H p o) d := D.kp (Kp.up (p := p)) fun z => h (List.mem_singleton.mp z).symm
def spTake : Sp := fun vs H Q _ => ∃ (d : Addr) (m : Int), vs = [.ref d, .int m] ∧ 0 < m ∧ Dr H d ∧ ∀ (v : Int) (H' : Hp), 0 ≤ v → v < m → Dr H' d → Kp [d] H H' → Q (.int v) H'
theorem fmod_in {i m : Int} (h : 0 < m) : 0 ≤ i.fmod m ∧ i.fmod m < m := by
  rw [Int.fmod_eq_emod_of_nonneg i (Int.le_of_lt h)]
  exact ⟨Int.emod_nonneg _ (by omega), Int.emod_lt_of_pos _ h⟩
theorem rd_take {σ : L2.St} {H : Hp} {i : Nat} {te : TE} {d : Addr} {m : Int} {Q : VK} {E : XK} (hσ : σ[i]? = some (some (.ref d))) (hm : Val te σ H (.int m)) (m0 : 0 < m) (D : Dr H d)
    (k : ∀ (v : Int) (H' : Hp), 0 ≤ v → v < m → Dr H' d → Kp [d] H H' → Q (.int v) H') : tCall spTake [] E (tCons (tVar i) (tCons te tNil)) σ H Q := ⟨_, hσ, hm _ ⟨d, m, rfl, m0, D, k⟩⟩
def spDraws (K : PySem.W.Frag) : Sp := fun vs H Q _ => ∃ (a : Addr) (ns : List Int), vs = [.ref a] ∧ SqL K H a (ns.map V.int) ∧ ns.length ≤ 63 ∧ ∀ (d : Addr) (H' : Hp), H d = none → Dr H' d → Ex H H' → Q (.ref d) H'
section
variable {P : Program} {w : World} {K : PySem.W.Frag} {mg : Str → Option Value} {base : Heap}
theorem ok__law_take (T : TX K mg) : Can P w K mg base CX0 1 (He.fAd K at__law_take) ps__law_take [] spTake := mk__law_take T fun fd F => def0 F sc__law_take (fun vs H Q E h => by
  obtain ⟨d, m, rfl, _⟩ := h
  rfl) fun cdv A outer s H vs Q E hr h => by
  obtain ⟨d, m, rfl, m0, ⟨ns, hd⟩, k⟩ := h
  refine ⟨_, (pss_cons (ps_if (pt_cmpR op_eq (pe_callB (cLen K rfl) (by rfl) T.n_len PySem.boot_len (pa_cons (pv 0) pa_nil)) pe_int (nomark _)) (pss_one (ps_ret pe_int)) pss_nil)
  (pss_one (ps_ret (pe_op op_modN (pe_callTy call_int1 (by rfl) T.n_int (by decide +kernel) (pa_cons (eBm0 K rfl PySem.F.plainAttrs_list PySem.F.slot_list_pop PySem.F.type_list_pop mt_pop (pv 0)) pa_nil)) (pv 1))))), ?_⟩
  refine st_seq (st_if (ans_v (val_eq (val_lenL (val_var rfl) (SqL.of hd)) val_c rfl)) (fun h0 => ?_) (fun h0 => ?_))
  · exact go_ret (k 0 H (Int.le_refl _) m0 ⟨ns, hd⟩ Kp.refl)
  · have hl : ns ≠ [] := fun z => by
      subst z
      simp at h0
    have hlast : (ns.map V.int)[(ns.map V.int).length - 1]? = some (.int (ns.getLast hl)) := by
      rw [List.length_map]
      refine at_int ?_
      rw [← List.getLast?_eq_getElem?, List.getLast?_eq_some_getLast hl]
    have hdrop : (ns.map V.int).dropLast = (ns.dropLast).map V.int := (List.map_dropLast ..).symm
    refine ⟨_, rfl, .inl ⟨rfl, _, SqL.of hd⟩, d, _, _, rfl, rfl, hd, hlast, .inl ⟨_, rfl, _, rfl, _, _, rfl, rfl, (by omega), ?_⟩⟩
    exact k _ _ (fmod_in m0).1 (fmod_in m0).2 ⟨ns.dropLast, by rw [upd_same, hdrop]⟩ (Kp.put (by simp))
theorem ok__law_draws (T : TX K mg) : Can P w K mg base CX0 1 (He.fAd K at__law_draws) ps__law_draws [] (spDraws K) := mk__law_draws T fun fd F => def0 F sc__law_draws (fun vs H Q E h => by
  obtain ⟨a, ns, rfl, _⟩ := h
  rfl) fun cdv A outer s H vs Q E hr h => by
  obtain ⟨a, ns, rfl, hS, hz, k⟩ := h
  refine ⟨_, (pss_cons (ps_set (i := 1) sc__law_draws.nd rfl (Or.inl rfl) (pe_lst pa_nil))
  (pss_cons (ps_for PassesOwn.never rfl (iLst K rfl (pv 0)) (pg_name (i := 2) sc__law_draws.nd rfl (Or.inl rfl))
  (pss_cons (ps_set (i := 5) sc__law_draws.nd rfl (Or.inl rfl) (pe_callB call_abs (by rfl) T.n_abs (by decide +kernel) (pa_cons (pv 2) pa_nil)))
  (Evl.pss_cut (ps_if (pt_cmpR op_lt (pv 5) (pe_op op_pow pe_int pe_int) (nomark _)) (pss_cons (ps_set (i := 6) sc__law_draws.nd rfl (Or.inl rfl) (pe_op op_modN (pe_callTy call_int1 (by rfl) T.n_int (by decide +kernel) (pa_cons (pe_op op_add (pe_op op_mul (pv 5) pe_int) pe_int) pa_nil)) pe_int))
  (pss_cons (ps_expr (eBm K rfl PySem.F.plainAttrs_list PySem.F.slot_list_append PySem.F.type_list_append mt_append (pv 1) (pa_cons (pe_op op_modN (pe_callTy call_int1 (by rfl) T.n_int (by decide +kernel) (pa_cons (pe_op op_add (pe_op op_mul (pv 6) pe_int) (pv 5)) pa_nil)) pe_int) pa_nil)))
  (pss_cons (ps_expr (eBm K rfl PySem.F.plainAttrs_list PySem.F.slot_list_append PySem.F.type_list_append mt_append (pv 1) (pa_cons (pe_op op_modN (pe_callTy call_int1 (by rfl) T.n_int (by decide +kernel) (pa_cons (pe_op op_add (pv 6) (pe_op op_fdivN (pv 5) pe_int)) pa_nil)) pe_int) pa_nil)))
  (pss_one (ps_set (i := 5) sc__law_draws.nd rfl (Or.inl rfl) pe_int))))) pss_nil)
  (pss_one (ps_for PassesOwn.never rfl (pi_range1 rfl T.n_range (pa_cons pe_int pa_nil)) (pg_name (i := 4) sc__law_draws.nd rfl (Or.inl rfl))
  (pss_one (ps_if (pt_cmpR op_gt (pv 5) pe_int (nomark _)) (pss_cons (ps_expr (eBm K rfl PySem.F.plainAttrs_list PySem.F.slot_list_append PySem.F.type_list_append mt_append (pv 1) (pa_cons (pe_op op_modN (pe_callTy call_int1 (by rfl) T.n_int (by decide +kernel) (pa_cons (pv 5) pa_nil)) pe_int) pa_nil)))
  (pss_one (ps_set (i := 5) sc__law_draws.nd rfl (Or.inl rfl) (pe_op op_fdivN (pv 5) pe_int)))) pss_nil)))))))
  (pss_cons (ps_set (i := 3) sc__law_draws.nd rfl (Or.inl rfl) pe_int)
  (Evl.pss_cut (ps_if (pt_cmpR op_gt (pe_callB (cLen K rfl) (by rfl) T.n_len PySem.boot_len (pa_cons (pv 0) pa_nil)) pe_int (nomark _)) (pss_one (ps_set (i := 3) sc__law_draws.nd rfl (Or.inl rfl) (pe_op op_add pe_int (pe_callB call_abs (by rfl) T.n_abs (by decide +kernel) (pa_cons (pe_ix (ixL K rfl) (pv 0) pe_int (fun _ _ => rfl)) pa_nil))))) pss_nil)
  (pss_cons (ps_for PassesOwn.never rfl (pi_range1 rfl T.n_range (pa_cons pe_int pa_nil)) (pg_name (i := 4) sc__law_draws.nd rfl (Or.inl rfl))
  (pss_cons (ps_set (i := 3) sc__law_draws.nd rfl (Or.inl rfl) (pe_op op_modN (pe_callTy call_int1 (by rfl) T.n_int (by decide +kernel) (pa_cons (pe_op op_add (pe_op op_mul (pv 3) pe_int) pe_int) pa_nil)) pe_int))
  (pss_one (ps_expr (eBm K rfl PySem.F.plainAttrs_list PySem.F.slot_list_append PySem.F.type_list_append mt_append (pv 1) (pa_cons (pe_op op_fdivN (pv 3) pe_int) pa_nil))))))
  (pss_one (ps_ret (pe_lstRev K rfl rfl (by rfl) T.n_list (by rfl) T.n_reversed (pv 1))))))))), ?_⟩
  refine ⟨by show 0 ≤ sizeLine; decide, fun p hp => ?_⟩
  dsimp only [gName]
  have vi : ∀ {te : TE} {σ : L2.St} {G : Hp} {i : Int}, Val te σ G (.int i) → Val (tCB (fun xs H Q => (∃ i, xs = [V.int i] ∧ Q (V.int i) H) ∨ ∃ k, xs = [V.bl k] ∧ Q (V.int (if k = true then 1 else 0)) H) (tCons te tNil)) σ G (.int i) := fun h => val_cb (va_one h) fun _ q => .inl ⟨_, rfl, q⟩
  have va : ∀ {te : TE} {σ : L2.St} {G : Hp} {i : Int}, Val te σ G (.int i) → Val (tCB (fun xs H Q => ∃ i, xs = [V.int i] ∧ Q (V.int (if i < 0 then -i else i)) H) (tCons te tNil)) σ G (.int (if i < 0 then -i else i)) := fun h => val_cb (va_one h) fun _ q => ⟨_, rfl, q⟩
  have app : ∀ {D : Ends} {σ : L2.St} {G : Hp} {te : TE} {ms : List Int} {v : Int}, σ[1]? = some (some (.ref p)) → G p = some (.lst (ms.map V.int)) → ms.length ≤ 10000 → Val te σ G (.int v) → D.nx σ (upd G p (.lst ((ms ++ [v]).map V.int))) → tDrop (tBM K "list" rAppend (tVar 1) (tCons te tNil)) D σ G := fun {D σ G te ms v} hσ hG hl hv k => st_app hG (val_var hσ) hv (small9 (by rw [List.length_map]; omega)) (by
    rw [List.map_append] at k
    exact k)
  refine st_seq (st_forL (val_var rfl) (ex_l (Ex.new hp) hS) (fun i σ G => ∃ v2 v4 v5 v6, ∃ ms : List Int, σ = [some (.ref a), some (.ref p), v2, none, v4, v5, v6] ∧ Ex H G ∧ G p = some (.lst (ms.map V.int)) ∧ ms.length ≤ 62 * i) ⟨_, _, _, _, [], rfl, Ex.new hp, upd_same, Nat.zero_le _⟩ (fun i σ G _ ⟨_, _, _, _, _, _, e, _⟩ => ex_l e hS) ?_ ?_)
  · rintro i x σ G hi ⟨v2, v4, v5, v6, ms, rfl, e, hG, hl⟩
    obtain ⟨z, hz', rfl⟩ := int_at hi
    have hi63 := lt_of_at hz'
    refine st_seq (go_asg (va (val_var rfl) _ ?_))
    generalize (if z < 0 then -z else z) = y
    dsimp only [gName]
    refine ⟨fun σ' G' => ∃ (y' : Int) (v6' : Option V) (ms' : List Int), σ' = [some (.ref a), some (.ref p), some (.int z), none, v4, some (.int y'), v6'] ∧ Ex H G' ∧ G' p = some (.lst (ms'.map V.int)) ∧ ms'.length ≤ 62 * i + 2, ?_, ?_⟩
    · refine st_if (ans_v (val_I (g := fun i j => .bl (decide (i < j))) (val_var rfl) (val_IC (g := fun i j => .int (i ^ j.toNat)) val_c val_c ⟨by decide, by decide, by decide⟩))) (fun _ => ?_) (fun _ => ⟨y, v6, ms, rfl, e, hG, by omega⟩)
      refine st_seq (go_asg (val_IC (g := fun i j => .int (i.fmod j)) (vi (val_I (g := fun i j => .int (i + j)) (val_IC (g := fun i j => .int (i * j)) (val_var rfl) val_c (.inr ⟨by decide, by decide⟩)) val_c)) val_c (by decide) _ ?_))
      dsimp only [gName]
      refine st_seq (app rfl hG (by omega) (val_IC (g := fun i j => .int (i.fmod j)) (vi (val_I (g := fun i j => .int (i + j)) (val_IC (g := fun i j => .int (i * j)) (val_var rfl) val_c (.inr ⟨by decide, by decide⟩)) (val_var rfl))) val_c (by decide)) ?_)
      refine st_seq (app rfl upd_same (by rw [List.length_append]; show _ + 1 ≤ _; omega) (val_IC (g := fun i j => .int (i.fmod j)) (vi (val_I (g := fun i j => .int (i + j)) (val_var rfl) (val_IC (g := fun i j => .int (i.fdiv j)) (val_var rfl) val_c ⟨by decide, by decide⟩))) val_c (by decide)) ?_)
      rw [upd_upd]
      exact ⟨0, _, _, rfl, e.mut hp, upd_same, by rw [List.length_append, List.length_append]; show _ + 1 + 1 ≤ _; omega⟩
    · rintro σ' G' ⟨y', v6', ms', rfl, e', hG', hl'⟩
      refine ⟨60, rfl, by decide, by decide, for_range (lo := 0) (n := 60) (fun k σ G => ∃ v4 v6, ∃ (y : Int) (ms : List Int), σ = [some (.ref a), some (.ref p), some (.int z), none, v4, some (.int y), v6] ∧ Ex H G ∧ G p = some (.lst (ms.map V.int)) ∧ ms.length ≤ 62 * i + 2 + k) ⟨_, _, y', ms', rfl, e', hG', hl'⟩ ?_ ?_⟩
      · rintro k σ G hk ⟨v4, v6, y, ms, rfl, e, hG, hl⟩
        refine st_if (ans_v (val_I (g := fun i j => .bl (decide (i > j))) (val_var rfl) val_c)) (fun _ => ?_) (fun _ => ⟨_, _, y, ms, rfl, e, hG, by omega⟩)
        refine st_seq (app rfl hG (by omega) (val_IC (g := fun i j => .int (i.fmod j)) (vi (val_var rfl)) val_c (by decide)) ?_)
        exact go_asg (val_IC (g := fun i j => .int (i.fdiv j)) (val_var rfl) val_c ⟨by decide, by decide⟩ _ ⟨_, _, _, _, rfl, e.mut hp, upd_same, by rw [List.length_append]; show _ + 1 ≤ _; omega⟩)
      · rintro σ G ⟨v4, v6, y, ms, rfl, e, hG, hl⟩
        exact ⟨_, _, _, _, ms, rfl, e, hG, by omega⟩
  · rintro σ G ⟨v2, v4, v5, v6, ms, rfl, e, hG, hl⟩
    rw [List.length_map] at hl
    dsimp only [gName]
    refine st_seq (go_asg ?_)
    dsimp only [gName]
    refine ⟨fun σ' G' => ∃ y : Int, σ' = [some (.ref a), some (.ref p), v2, some (.int y), v4, v5, v6] ∧ G' = G, ?_, ?_⟩
    · refine st_if (ans_v (val_I (g := fun i j => .bl (decide (i > j))) (val_lenL (val_var rfl) (ex_l e hS)) val_c)) (fun h0 => ?_) (fun _ => ⟨1, rfl, rfl⟩)
      cases ns with
      | nil => cases h0
      | cons z r => exact go_asg (val_I (g := fun i j => .int (i + j)) val_c (va (val_ixL (val_var rfl) val_c (ex_l e hS) (atI_nat (j := 0) rfl))) _ ⟨_, rfl, rfl⟩)
    · rintro σ' G' ⟨y, rfl, rfl⟩
      refine ⟨240, rfl, by decide, by decide, for_range (lo := 0) (n := 240) (fun k σ G => ∃ v4, ∃ (y : Int) (ms : List Int), σ = [some (.ref a), some (.ref p), v2, some (.int y), v4, v5, v6] ∧ Ex H G ∧ G p = some (.lst (ms.map V.int)) ∧ ms.length ≤ 62 * 63 + k) ⟨_, y, ms, rfl, e, hG, by omega⟩ ?_ ?_⟩
      · rintro k σ G hk ⟨v4, y, ms, rfl, e, hG, hl⟩
        refine st_seq (go_asg (val_IC (g := fun i j => .int (i.fmod j)) (vi (val_I (g := fun i j => .int (i + j)) (val_IC (g := fun i j => .int (i * j)) (val_var rfl) val_c (.inr ⟨by decide, by decide⟩)) val_c)) val_c (by decide) _ ?_))
        dsimp only [gName]
        exact app rfl hG (by omega) (val_IC (g := fun i j => .int (i.fdiv j)) (val_var rfl) val_c ⟨by decide, by decide⟩) ⟨_, _, _, rfl, e.mut hp, upd_same, by rw [List.length_append]; show _ + 1 ≤ _; omega⟩
      · rintro σ G ⟨v4, y, ms, rfl, e, hG, hl⟩
        exact ⟨_, rfl, p, _, rfl, SqL.of hG, fun q hq => k q _ (fresh_back e hq) ⟨ms.reverse, by rw [upd_same, List.map_reverse]⟩ (e.trans (Ex.new hq))⟩
end
/-! ### the same data -/
/-- a value's class, by the data that it is -/
def nameD : PyData → String
  | .none => "NoneType"
  | .bool _ => "bool"
  | .int _ => "int"
  | .str _ => "str"
  | .list _ => "list"
  | .tuple _ => "tuple"
  | .dict _ => "dict"
theorem ty_sqL {K : PySem.W.Frag} {H : Hp} {a : Addr} {xs : List V} (h : SqL K H a xs) : TyX K H (.ref a) (.type "list") := by
  rcases h with (h | ⟨o, h⟩) | ⟨o, its, n, hk, hc, _⟩
  · exact .base (.lst h)
  · exact .base (.frz h)
  · exact .kList hk hc
theorem ty_sqT {K : PySem.W.Frag} {H : Hp} {a : Addr} {xs : List V} (h : SqT K H a xs) : TyX K H (.ref a) (.type "tuple") := by
  rcases h with (h | ⟨o, h⟩) | ⟨o, its, n, hk, hc, _⟩
  · exact .base (.tup h)
  · exact .fTuple h
  · exact .kTuple hk hc
theorem ty_dp {K : PySem.W.Frag} {H : Hp} {x : V} {d : PyData} (h : Dp K H x d) : TyX K H x (.type (nameD d)) := by
  cases h with
  | non => exact .base .non
  | bl b => exact .base (.bl b)
  | int i => exact .base (.int i)
  | str z => exact .base (.str z)
  | lst h _ => exact ty_sqL h
  | tup h _ => exact ty_sqT h
theorem dpAll_len {K : PySem.W.Frag} {H : Hp} {xs : List V} {ds : List PyData} (h : DpAll K H xs ds) : xs.length = ds.length := by
  induction ds generalizing xs with
  | nil => cases h; rfl
  | cons d ds ih =>
    cases h with
    | cons a b => rw [List.length_cons, List.length_cons, ih b]
theorem dpAll_at {K : PySem.W.Frag} {H : Hp} {xs : List V} {ds : List PyData} (h : DpAll K H xs ds) {i : Nat} {d : PyData} (e : ds[i]? = some d) : ∃ x, xs[i]? = some x ∧ Dp K H x d := by
  induction ds generalizing xs i with
  | nil => cases e
  | cons c ds ih =>
    cases h with
    | cons a b =>
      cases i with
      | zero =>
        have e' : c = d := Option.some.inj e
        exact ⟨_, rfl, e' ▸ a⟩
      | succ i => exact ih b e
theorem depth_at {ds : List PyData} {i : Nat} {d : PyData} (e : ds[i]? = some d) : d.depth ≤ PyData.depthAll ds := by
  induction ds generalizing i with
  | nil => cases e
  | cons c ds ih =>
    rw [PyData.depthAll]
    cases i with
    | zero =>
      have e' : c = d := Option.some.inj e
      subst e'
      exact Nat.le_max_left _ _
    | succ i => exact Nat.le_trans (ih e) (Nat.le_max_right _ _)
theorem dpAll_ints {K : PySem.W.Frag} {H : Hp} : ∀ ns : List Int, DpAll K H (ns.map V.int) (ns.map PyData.int)
  | [] => .nil
  | n :: r => .cons (.int n) (dpAll_ints r)
theorem depth_ints : ∀ ns : List Int, PyData.depthAll (ns.map PyData.int) = 0
  | [] => rfl
  | n :: r => by rw [List.map_cons, PyData.depthAll, depth_ints r, PyData.depth]; rfl
mutual
def lenD : PyData → Nat
  | .list xs => lenAll xs
  | .tuple xs => lenAll xs
  | .dict _ => 0
  | .none => 0
  | .bool _ => 0
  | .int _ => 0
  | .str _ => 0
def lenAll : List PyData → Nat
  | [] => 0
  | x :: xs => lenD x + 1 + lenAll xs
end
theorem len_le : ∀ ds : List PyData, ds.length ≤ lenAll ds
  | [] => Nat.le_refl _
  | d :: ds => by
    have := len_le ds
    rw [lenAll, List.length_cons]
    omega
theorem len_at : ∀ {ds : List PyData} {i : Nat} {d : PyData}, ds[i]? = some d → lenD d ≤ lenAll ds
  | [], _, _, e => by cases e
  | c :: ds, 0, d, e => by
    have e' : c = d := Option.some.inj e
    subst e'
    rw [lenAll]
    omega
  | c :: ds, i + 1, d, e => by
    have := len_at (ds := ds) (i := i) e
    rw [lenAll]
    omega
theorem lenAll_ints : ∀ ns : List Int, lenAll (ns.map PyData.int) = ns.length
  | [] => rfl
  | n :: r => by rw [List.map_cons, lenAll, lenAll_ints r, lenD, List.length_cons]; omega
/-- two values that are the same data, less than n deep: True -/
def spSame (K : PySem.W.Frag) (n : Nat) : Sp := fun vs H Q _ => ∃ (x y : V) (d : PyData), vs = [x, y] ∧ Dp K H x d ∧ Dp K H y d ∧ d.depth < n ∧ lenD d < 2 ^ 62 ∧ Q (.bl true) H
section
variable {P : Program} {w : World} {K : PySem.W.Frag} {mg : Str → Option Value} {base : Heap}
theorem ok_same (T : TX K mg) : ∀ n, Can P w K mg base CX0 n (He.fAd K at__law_same) ps__law_same [] (spSame K n)
  | 0 => by
    obtain ⟨fd, _, b⟩ := mk__law_same (P := P) (w := w) (base := base) (CX := CX0) (k := 0) (sp := fun _ _ _ _ => False) T fun fd F => ⟨fun _ _ _ _ h => h.elim, fun _ _ _ _ _ _ _ _ _ _ _ _ _ h => h.elim⟩
    exact ⟨fd, ⟨fun _ _ _ _ ⟨_, _, _, _, _, _, h, _⟩ => absurd h (Nat.not_lt_zero _), fun _ _ _ _ _ _ _ _ _ _ _ _ _ ⟨_, _, _, _, _, _, h, _⟩ => absurd h (Nat.not_lt_zero _)⟩, b⟩
  | n + 1 => by
    obtain ⟨fd_s, G__law_same, ds_s, v__law_same, b__law_same⟩ := ok_same T n
    exact mk__law_same T fun fd F => def0 F sc__law_same (fun vs H Q E h => by
      obtain ⟨x, y, d, rfl, _⟩ := h
      rfl) fun cdv A outer s H vs Q E hr h => by
      obtain ⟨x, y, d, rfl, hx, hy, hd, hz0, k⟩ := h
      refine ⟨_, (pss_cons (ps_if (PW.pt (pw_or (pt_val (pe_callB (cIsi K rfl) (by rfl) T.n_isinstance (by decide +kernel) (pa_cons (pv 1) (pa_cons (pe_bltn (v := .ty "tuple") rfl T.n_tuple (by decide +kernel) rfl) pa_nil)))) (pw_or1 (pt_val (pe_callB (cIsi K rfl) (by rfl) T.n_isinstance (by decide +kernel) (pa_cons (pv 1) (pa_cons (pe_bltn (v := .ty "list") rfl T.n_list (by decide +kernel) rfl) pa_nil))))))) (pss_cons (ps_if (PW.pt (pw_or (pt_cmpR op_ne (pe_callB (cIsi K rfl) (by rfl) T.n_isinstance (by decide +kernel) (pa_cons (pv 1) (pa_cons (pe_bltn (v := .ty "tuple") rfl T.n_tuple (by decide +kernel) rfl) pa_nil))) (pe_callB (cIsi K rfl) (by rfl) T.n_isinstance (by decide +kernel) (pa_cons (pv 0) (pa_cons (pe_bltn (v := .ty "tuple") rfl T.n_tuple (by decide +kernel) rfl) pa_nil))) (nomark _)) (pw_or1 (pt_cmpR op_ne (pe_callB (cIsi K rfl) (by rfl) T.n_isinstance (by decide +kernel) (pa_cons (pv 1) (pa_cons (pe_bltn (v := .ty "list") rfl T.n_list (by decide +kernel) rfl) pa_nil))) (pe_callB (cIsi K rfl) (by rfl) T.n_isinstance (by decide +kernel) (pa_cons (pv 0) (pa_cons (pe_bltn (v := .ty "list") rfl T.n_list (by decide +kernel) rfl) pa_nil))) (nomark _))))) (pss_one (ps_ret pe_bl)) pss_nil)
  (pss_cons (ps_if (pt_cmpR op_ne (pe_callB (cLen K rfl) (by rfl) T.n_len PySem.boot_len (pa_cons (pv 0) pa_nil)) (pe_callB (cLen K rfl) (by rfl) T.n_len PySem.boot_len (pa_cons (pv 1) pa_nil)) (nomark _)) (pss_one (ps_ret pe_bl)) pss_nil)
  (pss_cons (ps_for PassesOwn.never rfl (pi_range1 rfl T.n_range (pa_cons (pe_callB (cLen K rfl) (by rfl) T.n_len PySem.boot_len (pa_cons (pv 1) pa_nil)) pa_nil)) (pg_name (i := 2) sc__law_same.nd rfl (Or.inl rfl))
  (pss_one (ps_if (pt_not (pt_val (pe_call G__law_same (hr.mono (by first | decide | omega)) rfl T.g__law_same T.k__law_same b__law_same v__law_same pass0 (pa_cons (pe_ix (ixS K rfl) (pv 0) (pv 2) (fun _ _ => rfl)) (pa_cons (pe_ix (ixS K rfl) (pv 1) (pv 2) (fun _ _ => rfl)) pa_nil))))) (pss_one (ps_ret pe_bl)) pss_nil)))
  (pss_one (ps_ret pe_bl))))) pss_nil)
  (pss_cons (ps_if (pt_cmpR op_ne (pe_callB (cIsi K rfl) (by rfl) T.n_isinstance (by decide +kernel) (pa_cons (pv 1) (pa_cons (pe_bltn (v := .ty "bool") rfl T.n_bool (by decide +kernel) rfl) pa_nil))) (pe_callB (cIsi K rfl) (by rfl) T.n_isinstance (by decide +kernel) (pa_cons (pv 0) (pa_cons (pe_bltn (v := .ty "bool") rfl T.n_bool (by decide +kernel) rfl) pa_nil))) (nomark _)) (pss_one (ps_ret pe_bl)) pss_nil)
  (pss_cons (ps_if (PW.pt (pw_or (pt_cmpR op_ne (pe_callB (cIsi K rfl) (by rfl) T.n_isinstance (by decide +kernel) (pa_cons (pv 1) (pa_cons (pe_bltn (v := .ty "int") rfl T.n_int (by decide +kernel) rfl) pa_nil))) (pe_callB (cIsi K rfl) (by rfl) T.n_isinstance (by decide +kernel) (pa_cons (pv 0) (pa_cons (pe_bltn (v := .ty "int") rfl T.n_int (by decide +kernel) rfl) pa_nil))) (nomark _)) (pw_or1 (pt_cmpR op_ne (pe_callB (cIsi K rfl) (by rfl) T.n_isinstance (by decide +kernel) (pa_cons (pv 1) (pa_cons (pe_bltn (v := .ty "str") rfl T.n_str (by decide +kernel) rfl) pa_nil))) (pe_callB (cIsi K rfl) (by rfl) T.n_isinstance (by decide +kernel) (pa_cons (pv 0) (pa_cons (pe_bltn (v := .ty "str") rfl T.n_str (by decide +kernel) rfl) pa_nil))) (nomark _))))) (pss_one (ps_ret pe_bl)) pss_nil)
  (pss_one (ps_ret (pe_cmpR op_eq (pv 0) (pv 1) (nomark _))))))), ?_⟩
      have tx := ty_dp hx
      have ty := ty_dp hy
      cases hx with
      | non =>
        cases hy
        replace tx : TyX K H .non (.type "NoneType") := tx
        replace ty : TyX K H .non (.type "NoneType") := ty
        refine st_seq (st_no (ans_or (ans_val (val_isi (val_var rfl) ty (by decide +kernel))) (ans_val (val_isi (val_var rfl) ty (by decide +kernel)))) ?_)
        refine st_seq (st_no (ans_v (val_is (w := .bl false) (val_ne (val_isi (b := false) (val_var rfl) ty (by decide +kernel)) (val_isi (b := false) (val_var rfl) tx (by decide +kernel)) rfl) rfl)) ?_)
        refine st_seq (st_no (ans_or (ans_v (val_is (w := .bl false) (val_ne (val_isi (b := false) (val_var rfl) ty (by decide +kernel)) (val_isi (b := false) (val_var rfl) tx (by decide +kernel)) rfl) rfl)) (ans_v (val_is (w := .bl false) (val_ne (val_isi (b := false) (val_var rfl) ty (by decide +kernel)) (val_isi (b := false) (val_var rfl) tx (by decide +kernel)) rfl) rfl))) ?_)
        exact st_ret (v := .bl true) (val_is (val_eq (val_var rfl) (val_var rfl) rfl) (by simp)) k
      | bl b =>
        cases hy
        replace tx : TyX K H (.bl b) (.type "bool") := tx
        replace ty : TyX K H (.bl b) (.type "bool") := ty
        refine st_seq (st_no (ans_or (ans_val (val_isi (val_var rfl) ty (by decide +kernel))) (ans_val (val_isi (val_var rfl) ty (by decide +kernel)))) ?_)
        refine st_seq (st_no (ans_v (val_is (w := .bl false) (val_ne (val_isi (b := true) (val_var rfl) ty (by decide +kernel)) (val_isi (b := true) (val_var rfl) tx (by decide +kernel)) rfl) rfl)) ?_)
        refine st_seq (st_no (ans_or (ans_v (val_is (w := .bl false) (val_ne (val_isi (b := true) (val_var rfl) ty (by decide +kernel)) (val_isi (b := true) (val_var rfl) tx (by decide +kernel)) rfl) rfl)) (ans_v (val_is (w := .bl false) (val_ne (val_isi (b := false) (val_var rfl) ty (by decide +kernel)) (val_isi (b := false) (val_var rfl) tx (by decide +kernel)) rfl) rfl))) ?_)
        exact st_ret (v := .bl true) (val_is (val_eq (val_var rfl) (val_var rfl) rfl) (by simp)) k
      | int i =>
        cases hy
        replace tx : TyX K H (.int i) (.type "int") := tx
        replace ty : TyX K H (.int i) (.type "int") := ty
        refine st_seq (st_no (ans_or (ans_val (val_isi (val_var rfl) ty (by decide +kernel))) (ans_val (val_isi (val_var rfl) ty (by decide +kernel)))) ?_)
        refine st_seq (st_no (ans_v (val_is (w := .bl false) (val_ne (val_isi (b := false) (val_var rfl) ty (by decide +kernel)) (val_isi (b := false) (val_var rfl) tx (by decide +kernel)) rfl) rfl)) ?_)
        refine st_seq (st_no (ans_or (ans_v (val_is (w := .bl false) (val_ne (val_isi (b := true) (val_var rfl) ty (by decide +kernel)) (val_isi (b := true) (val_var rfl) tx (by decide +kernel)) rfl) rfl)) (ans_v (val_is (w := .bl false) (val_ne (val_isi (b := false) (val_var rfl) ty (by decide +kernel)) (val_isi (b := false) (val_var rfl) tx (by decide +kernel)) rfl) rfl))) ?_)
        exact st_ret (v := .bl true) (val_is (val_eq (val_var rfl) (val_var rfl) rfl) (by simp)) k
      | str z =>
        cases hy
        replace tx : TyX K H (.str z) (.type "str") := tx
        replace ty : TyX K H (.str z) (.type "str") := ty
        refine st_seq (st_no (ans_or (ans_val (val_isi (val_var rfl) ty (by decide +kernel))) (ans_val (val_isi (val_var rfl) ty (by decide +kernel)))) ?_)
        refine st_seq (st_no (ans_v (val_is (w := .bl false) (val_ne (val_isi (b := false) (val_var rfl) ty (by decide +kernel)) (val_isi (b := false) (val_var rfl) tx (by decide +kernel)) rfl) rfl)) ?_)
        refine st_seq (st_no (ans_or (ans_v (val_is (w := .bl false) (val_ne (val_isi (b := false) (val_var rfl) ty (by decide +kernel)) (val_isi (b := false) (val_var rfl) tx (by decide +kernel)) rfl) rfl)) (ans_v (val_is (w := .bl false) (val_ne (val_isi (b := true) (val_var rfl) ty (by decide +kernel)) (val_isi (b := true) (val_var rfl) tx (by decide +kernel)) rfl) rfl))) ?_)
        exact st_ret (v := .bl true) (val_is (val_eq (val_var rfl) (val_var rfl) rfl) (by simp)) k
      | @lst a xs ds sx ax =>
        cases hy with
        | @lst b ys _ sy ay =>
          replace tx : TyX K H (.ref a) (.type "list") := tx
          replace ty : TyX K H (.ref b) (.type "list") := ty
          have hd' : PyData.depthAll ds < n := by
            rw [PyData.depth] at hd
            omega
          have ex := dpAll_len ax
          have ey := dpAll_len ay
          rw [lenD] at hz0
          have hz := Nat.lt_of_le_of_lt (len_le ds) hz0
          refine st_seq (st_yes (ans_or (ans_val (val_isi (val_var rfl) ty (by decide +kernel))) (ans_val (val_isi (val_var rfl) ty (by decide +kernel)))) ?_)
          refine st_seq (st_no (ans_or (ans_v (val_is (w := .bl false) (val_ne (val_isi (b := false) (val_var rfl) ty (by decide +kernel)) (val_isi (b := false) (val_var rfl) tx (by decide +kernel)) rfl) rfl)) (ans_v (val_is (w := .bl false) (val_ne (val_isi (b := true) (val_var rfl) ty (by decide +kernel)) (val_isi (b := true) (val_var rfl) tx (by decide +kernel)) rfl) rfl))) ?_)
          refine st_seq (st_no (ans_v (val_is (w := .bl false) (val_ne (val_lenL (val_var rfl) sx) (val_lenL (val_var rfl) sy) rfl) (by rw [ex, ey]; simp))) ?_)
          refine st_seq (st_forR (n := ds.length) (va_one (val_is (val_lenL (val_var rfl) sy) (by rw [ey]))) hz (fun i σ H' => ∃ v, σ = [some (.ref a), some (.ref b), v] ∧ H' = H) ⟨none, rfl, rfl⟩ ?_ ?_)
          · rintro i σ H' hi ⟨v, rfl, rfl⟩
            obtain ⟨u1, g1, g2⟩ := dpAll_at ax (List.getElem?_eq_getElem hi)
            obtain ⟨u2, g3, g4⟩ := dpAll_at ay (List.getElem?_eq_getElem hi)
            have h3 := depth_at (List.getElem?_eq_getElem hi)
            have h4 := len_at (List.getElem?_eq_getElem hi)
            exact st_no (ans_is (ans_not (ans_val (val_call (va_two (val_ixSL (val_var rfl) (val_var rfl) sx (atI_nat g1)) (val_ixSL (val_var rfl) (val_var rfl) sy (atI_nat g3))) fun Q q => ⟨_, _, _, rfl, g2, g4, by omega, by omega, q⟩))) rfl) ⟨_, rfl, rfl⟩
          · rintro σ H' ⟨v, rfl, rfl⟩
            exact k
      | @tup a xs ds sx ax =>
        cases hy with
        | @tup b ys _ sy ay =>
          replace tx : TyX K H (.ref a) (.type "tuple") := tx
          replace ty : TyX K H (.ref b) (.type "tuple") := ty
          have hd' : PyData.depthAll ds < n := by
            rw [PyData.depth] at hd
            omega
          have ex := dpAll_len ax
          have ey := dpAll_len ay
          rw [lenD] at hz0
          have hz := Nat.lt_of_le_of_lt (len_le ds) hz0
          refine st_seq (st_yes (ans_or1 (ans_val (val_isi (val_var rfl) ty (by decide +kernel)))) ?_)
          refine st_seq (st_no (ans_or (ans_v (val_is (w := .bl false) (val_ne (val_isi (b := true) (val_var rfl) ty (by decide +kernel)) (val_isi (b := true) (val_var rfl) tx (by decide +kernel)) rfl) rfl)) (ans_v (val_is (w := .bl false) (val_ne (val_isi (b := false) (val_var rfl) ty (by decide +kernel)) (val_isi (b := false) (val_var rfl) tx (by decide +kernel)) rfl) rfl))) ?_)
          refine st_seq (st_no (ans_v (val_is (w := .bl false) (val_ne (val_lenT (val_var rfl) sx) (val_lenT (val_var rfl) sy) rfl) (by rw [ex, ey]; simp))) ?_)
          refine st_seq (st_forR (n := ds.length) (va_one (val_is (val_lenT (val_var rfl) sy) (by rw [ey]))) hz (fun i σ H' => ∃ v, σ = [some (.ref a), some (.ref b), v] ∧ H' = H) ⟨none, rfl, rfl⟩ ?_ ?_)
          · rintro i σ H' hi ⟨v, rfl, rfl⟩
            obtain ⟨u1, g1, g2⟩ := dpAll_at ax (List.getElem?_eq_getElem hi)
            obtain ⟨u2, g3, g4⟩ := dpAll_at ay (List.getElem?_eq_getElem hi)
            have h3 := depth_at (List.getElem?_eq_getElem hi)
            have h4 := len_at (List.getElem?_eq_getElem hi)
            exact st_no (ans_is (ans_not (ans_val (val_call (va_two (val_ixST (val_var rfl) (val_var rfl) sx (atI_nat g1)) (val_ixST (val_var rfl) (val_var rfl) sy (atI_nat g3))) fun Q q => ⟨_, _, _, rfl, g2, g4, by omega, by omega, q⟩))) rfl) ⟨_, rfl, rfl⟩
          · rintro σ H' ⟨v, rfl, rfl⟩
            exact k
end
/-! ### the draws of trees -/
def spString : Sp := fun vs H Q _ => ∃ (d : Addr) (m : Nat), vs = [.ref d, .int (m : Int)] ∧ 1 ≤ m ∧ m ≤ 1000 ∧ Dr H d ∧ ∀ (z : Str) (H' : Hp), okText m z → Dr H' d → Kp [d] H H' → Q (.str z) H'
def spNames : Sp := fun vs H Q _ => ∃ d : Addr, vs = [.ref d] ∧ Dr H d ∧ ∀ (p : Addr) (ns : List Str) (H' : Hp), H p = none → ns ≠ [] → ns.length ≤ 4 → (∀ n ∈ ns, n ∈ fourNames) → Dr H' d → Kp [d] H H' → H' p = some (.lst (ns.map V.str)) → Q (.ref p) H'
section
variable {P : Program} {w : World} {K : PySem.W.Frag} {mg : Str → Option Value} {base : Heap}
theorem ok__law_string (T : TX K mg) : Can P w K mg base CX0 2 (He.fAd K at__law_string) ps__law_string [] spString := by
  obtain ⟨fd__law_take, G__law_take, ds__law_take, v__law_take, b__law_take⟩ := ok__law_take (P := P) (w := w) (base := base) T
  exact mk__law_string T fun fd F => def0 F sc__law_string (fun vs H Q E h => by
    obtain ⟨d, m, rfl, _⟩ := h
    rfl) fun cdv A outer s H vs Q E hr h => by
    obtain ⟨d, m, rfl, m0, m1, D, k⟩ := h
    refine ⟨_, (pss_cons (ps_set (i := 2) sc__law_string.nd rfl (Or.inl rfl) pe_str)
  (pss_cons (ps_set (i := 3) sc__law_string.nd rfl (Or.inl rfl) pe_str)
  (pss_cons (ps_for PassesOwn.never rfl (pi_range1 rfl T.n_range (pa_cons (pe_op op_add pe_int (pe_call G__law_take (hr.mono (by first | decide | omega)) rfl T.g__law_take T.k__law_take b__law_take v__law_take pass0 (pa_cons (pv 0) (pa_cons (pv 1) pa_nil)))) pa_nil)) (pg_name (i := 4) sc__law_string.nd rfl (Or.inl rfl))
  (pss_one (ps_set (i := 3) sc__law_string.nd rfl (Or.inl rfl) (pe_op op_add_str (pv 3) (pe_ix ix_str (pv 2) (pe_call G__law_take (hr.mono (by first | decide | omega)) rfl T.g__law_take T.k__law_take b__law_take v__law_take pass0 (pa_cons (pv 0) (pa_cons (pe_callB call_len_str (by rfl) T.n_len PySem.boot_len (pa_cons (pv 2) pa_nil)) pa_nil))) (fun _ _ => rfl))))))
  (pss_one (ps_ret (pv 3)))))), ?_⟩
    refine st_seq (go_asg ?_)
    dsimp only [gName]
    refine st_seq (go_asg ?_)
    dsimp only [gName]
    refine st_seq ?_
    refine rd_take rfl (val_var rfl) (by omega) D fun n H1 n0 n1 D1 e1 => ?_
    refine ⟨1, n, rfl, rfl, 1 + n, rfl, by omega, by omega, for_range (lo := 0) (n := (1 + n).toNat) (fun i σ G => ∃ (v4 : Option V) (z : Str), σ = [some (.ref d), some (.int (m : Int)), some (.str twelve), some (.str z), v4] ∧ Kp [d] H G ∧ Dr G d ∧ z.cps.size = i ∧ ∀ c ∈ z.cps.toList, c ∈ signCs) ⟨none, Str.ofString "", rfl, e1, D1, rfl, fun c hc => by cases hc⟩ ?_ ?_⟩
    · rintro i σ G hi ⟨v4, z, rfl, e, DG, hz, hc⟩
      refine go_asg ?_
      refine ⟨_, rfl, _, rfl, ?_⟩
      refine rd_take rfl (val_cb (va_one (val_var rfl)) fun Q q => ⟨twelve, rfl, by decide +kernel, q⟩) (by decide +kernel) DG fun v G2 v0 v1 D2 e2 => ?_
      have hv : v.toNat < signCs.length := by
        have : (twelve.length : Int) = 12 := by decide +kernel
        show v.toNat < 12
        omega
      have hcs : twelve.cps.toList = signCs := by decide +kernel
      have hat : atI twelve.cps.toList v = some signCs[v.toNat] := by
        have hn : (v.toNat : Int) = v := Int.toNat_of_nonneg v0
        have q := atI_nat (xs := twelve.cps.toList) (j := v.toNat) (v := signCs[v.toNat]) (by rw [hcs]; exact List.getElem?_eq_getElem hv)
        rwa [hn] at q
      refine ⟨twelve, v, signCs[v.toNat], rfl, rfl, by decide +kernel, hat, z, ⟨#[signCs[v.toNat]]⟩, rfl, rfl, sz_of (by show z.cps.size + 1 ≤ _; omega), ?_⟩
      have ec : (z ++ (⟨#[signCs[v.toNat]]⟩ : Str)).cps = z.cps ++ #[signCs[v.toNat]] := rfl
      refine ⟨_, _, rfl, e.trans e2, D2, by rw [ec, Array.size_append, hz] <;> rfl, fun c hc' => ?_⟩
      rw [ec, Array.toList_append, List.mem_append] at hc'
      rcases hc' with q | q
      · exact hc c q
      · have : c ∈ [signCs[v.toNat]] := q
        rw [List.mem_singleton.mp this]
        exact List.getElem_mem hv
    · rintro σ G ⟨v4, z, rfl, e, DG, hz, hc⟩
      exact st_ret (val_var rfl) (k z G ⟨by omega, by omega, hc⟩ DG e)
theorem ok__law_names (T : TX K mg) : Can P w K mg base CX0 2 (He.fAd K at__law_names) ps__law_names [] spNames := by
  obtain ⟨fd__law_take, G__law_take, ds__law_take, v__law_take, b__law_take⟩ := ok__law_take (P := P) (w := w) (base := base) T
  exact mk__law_names T fun fd F => def0 F sc__law_names (fun vs H Q E h => by
    obtain ⟨d, rfl, _⟩ := h
    rfl) fun cdv A outer s H vs Q E hr h => by
    obtain ⟨d, rfl, D, k⟩ := h
    refine ⟨_, (pss_one (ps_ret (pe_slice (slL K rfl) (pe_lst (pa_cons pe_str (pa_cons pe_str (pa_cons pe_str (pa_cons pe_str pa_nil))))) po_none (po_some (pe_op op_add pe_int (pe_call G__law_take (hr.mono (by first | decide | omega)) rfl T.g__law_take T.k__law_take b__law_take v__law_take pass0 (pa_cons (pv 0) (pa_cons pe_int pa_nil)))))))), ?_⟩
    refine ⟨by show 4 ≤ sizeLine; decide, fun l hl => ?_⟩
    have nld : l ∉ [d] := by simpa using D.ne hl
    refine rd_take rfl val_c (by decide) (D.put hl) fun v H1 v0 v1 D1 e1 => ?_
    refine ⟨1, v, rfl, rfl, 1 + v, rfl, l, _, rfl, SqL.of (e1.at upd_same nld), fun p hp => ?_⟩
    obtain ⟨j, hj⟩ : ∃ j : Nat, 1 + v = (j : Int) := ⟨(1 + v).toNat, by omega⟩
    rw [hj, cut_to (by show j ≤ 4; omega)]
    have hf : [V.str "a", V.str "b", V.str "abcdefghijkl", V.str "c"].take j = (fourNames.take j).map V.str := by rw [List.map_take] <;> rfl
    have k1 : Kp [d] H H1 := (Kp.of (Ex.new hl)).trans e1
    show Q (.ref p) (upd H1 p (.lst ([V.str "a", V.str "b", V.str "abcdefghijkl", V.str "c"].take j)))
    rw [hf]
    refine k p (fourNames.take j) _ (k1.back (fun a ha => by rw [List.mem_singleton.mp ha]; exact D1.on) hp) (fun z => ?_) (by rw [List.length_take]; omega) (fun n hn => List.mem_of_mem_take hn) (D1.put hp) (k1.trans (Kp.new hp)) upd_same
    have := congrArg List.length z
    rw [List.length_take] at this
    have h4 : fourNames.length = 4 := rfl
    rw [h4] at this
    have : 1 ≤ j := by omega
    simp at *
    omega
/-- new data: v is d by what is new in H' -/
def NewD (K : PySem.W.Frag) (H H' : Hp) (v : V) (d : PyData) : Prop := ∀ H'' : Hp, (∀ a o, H a = none → H' a = some o → H'' a = some o) → Dp K H'' v d
def NewC (K : PySem.W.Frag) (H G : Hp) (p : Addr) (acc : List V) (ds : List PyData) : Prop := ∀ H'' : Hp, (∀ a o, H a = none → a ≠ p → G a = some o → H'' a = some o) → DpAll K H'' acc ds
theorem NewC.snoc {H G G' : Hp} {d p : Addr} {acc : List V} {ds : List PyData} {v : V} {x : PyData} (N : NewC K H G p acc ds) (D : Dr H d) (DG : Dr G d) (hp : G p ≠ none) (e : Kp [d] H G) (e' : Kp [d] G G') (M : NewD K G G' v x) : NewC K H (upd G' p (.lst (acc ++ [v]))) p (acc ++ [v]) (ds ++ [x]) := fun H'' h =>
  dpAll_snoc (N H'' fun a o ha hne hG => h a o ha hne (by
    rw [upd_ne hne]
    exact e'.at hG (by simpa using D.ne ha))) (M H'' fun a o hGa hG' => by
    have hne : a ≠ p := fun z => hp (z ▸ hGa)
    refine h a o (e.back (fun b hb => by rw [List.mem_singleton.mp hb]; exact DG.on) hGa) hne ?_
    rw [upd_ne hne]
    exact hG')
theorem ds_snoc (cs : List Tr) (t : Tr) : Tr.ds (cs ++ [t]) = Tr.ds cs ++ [t.d] := by rw [ds_map, ds_map, List.map_append] <;> rfl
def lastT (cs : List Tr) : Bool := match cs.getLast? with
  | some t => t.isT
  | none => false
theorem apart_snoc : ∀ {cs : List Tr} {t : Tr}, apartT cs → ¬ (lastT cs = true ∧ t.isT = true) → apartT (cs ++ [t])
  | [], _, _, _ => trivial
  | [_], _, _, h => ⟨h, trivial⟩
  | _ :: b :: r, _, ⟨h1, h2⟩, h => ⟨h1, apart_snoc (cs := b :: r) h2 fun z => h ⟨by rw [lastT, List.getLast?_cons_cons]; exact z.1, z.2⟩⟩
theorem isT_type {H : Hp} {x : V} {t : Tr} (h : Dp K H x t.d) : ∃ c, TyX K H x (.type c) ∧ kitB c "str" = some t.isT := by
  cases t with
  | txt z => exact ⟨"str", ty_dp h, (by decide +kernel : kitB "str" "str" = some true)⟩
  | el n cs => exact ⟨"tuple", ty_dp h, (by decide +kernel : kitB "tuple" "str" = some false)⟩
theorem or_any {t u : TT} {σ : L2.St} {H : Hp} {Q : Bool → Hp → Prop} {a : Bool} {R : Bool → Hp → Prop} (h : Ans t σ H a) (hu : a = false → ∀ Q : Bool → Hp → Prop, (∀ b G, R b G → Q b G) → u σ H Q) (ha : a = true → R true H) (k : ∀ b G, R b G → Q b G) : tOr t u σ H Q := by
  refine h _ ?_
  cases a with
  | true => exact iteT (k _ _ (ha rfl))
  | false => exact iteF (hu rfl Q k)
def spTree (K : PySem.W.Frag) (n : Nat) : Sp := fun vs H Q _ => ∃ (d p : Addr) (k : Nat) (ns : List Str), vs = [.ref d, .int (k : Int), .ref p] ∧ k < n ∧ Dr H d ∧ p ≠ d ∧ H p = some (.lst (ns.map V.str)) ∧ ns ≠ [] ∧ ns.length ≤ 4 ∧ (∀ n ∈ ns, n ∈ fourNames) ∧ ∀ (v : V) (nm : Str) (cs : List Tr) (H' : Hp), okTr (k + 1) (.el nm cs) → Dr H' d → Kp [d] H H' → NewD K H H' v (Tr.el nm cs).d → Q v H'
theorem ok__law_tree (T : TX K mg) : ∀ n, Can P w K mg base CX0 (n + 3) (He.fAd K at__law_tree) ps__law_tree [] (spTree K n)
  | 0 => by
    obtain ⟨fd, _, b⟩ := mk__law_tree (P := P) (w := w) (base := base) (CX := CX0) (k := 0) (sp := fun _ _ _ _ => False) T fun fd F => ⟨fun _ _ _ _ h => h.elim, fun _ _ _ _ _ _ _ _ _ _ _ _ _ h => h.elim⟩
    exact ⟨fd, ⟨fun _ _ _ _ ⟨_, _, _, _, _, h, _⟩ => absurd h (Nat.not_lt_zero _), fun _ _ _ _ _ _ _ _ _ _ _ _ _ ⟨_, _, _, _, _, h, _⟩ => absurd h (Nat.not_lt_zero _)⟩, b⟩
  | n + 1 => by
    obtain ⟨fd_s, G__law_tree, ds_s, v__law_tree, b__law_tree⟩ := ok__law_tree T n
    obtain ⟨fd__law_take, G__law_take, ds__law_take, v__law_take, b__law_take⟩ := ok__law_take (P := P) (w := w) (base := base) T
    obtain ⟨fd__law_string, G__law_string, ds__law_string, v__law_string, b__law_string⟩ := ok__law_string (P := P) (w := w) (base := base) T
    exact mk__law_tree T fun fd F => def0 F sc__law_tree (fun vs H Q E h => by
      obtain ⟨d, p, k, ns, rfl, _⟩ := h
      rfl) fun cdv A outer s H vs Q E hr h => by
      obtain ⟨d, p, k, ns, rfl, hk, D, hpd, hp, hn0, hn4, hns, kk⟩ := h
      refine ⟨_, (pss_cons (ps_set (i := 3) sc__law_tree.nd rfl (Or.inl rfl) (pe_lst pa_nil))
  (pss_cons (ps_set (i := 4) sc__law_tree.nd rfl (Or.inl rfl) (pe_call G__law_take (hr.mono (by first | decide | omega)) rfl T.g__law_take T.k__law_take b__law_take v__law_take pass0 (pa_cons (pv 0) (pa_cons pe_int pa_nil))))
  (Evl.pss_cut (ps_if (pt_cmpR op_eq (pv 1) pe_int (nomark _)) (pss_one (ps_set (i := 4) sc__law_tree.nd rfl (Or.inl rfl) (pe_call G__law_take (hr.mono (by first | decide | omega)) rfl T.g__law_take T.k__law_take b__law_take v__law_take pass0 (pa_cons (pv 0) (pa_cons pe_int pa_nil))))) pss_nil)
  (pss_cons (ps_for PassesOwn.never rfl (pi_range1 rfl T.n_range (pa_cons (pv 4) pa_nil)) (pg_name (i := 5) sc__law_tree.nd rfl (Or.inl rfl))
  (pss_cons (ps_set (i := 6) sc__law_tree.nd rfl (Or.inl rfl) (pe_and (pe_cmpR op_gt (pe_callB (cLen K rfl) (by rfl) T.n_len PySem.boot_len (pa_cons (pv 3) pa_nil)) pe_int (nomark _)) (pe_one (pe_callB (cIsi K rfl) (by rfl) T.n_isinstance (by decide +kernel) (pa_cons (pe_ix (ixL K rfl) (pv 3) (pe_op op_sub (pe_callB (cLen K rfl) (by rfl) T.n_len PySem.boot_len (pa_cons (pv 3) pa_nil)) pe_int) (fun _ _ => rfl)) (pa_cons (pe_bltn (v := .ty "str") rfl T.n_str (by decide +kernel) rfl) pa_nil))))))
  (pss_one (ps_if (PW.pt (pw_or (pt_cmpR op_eq (pv 1) pe_int (nomark _)) (pw_or1 (pt_cmpR op_eq (pe_call G__law_take (hr.mono (by first | decide | omega)) rfl T.g__law_take T.k__law_take b__law_take v__law_take pass0 (pa_cons (pv 0) (pa_cons pe_int pa_nil))) pe_int (nomark _))))) (pss_one (ps_if (pt_not (pt_val (pv 6))) (pss_one (ps_expr (eBm K rfl PySem.F.plainAttrs_list PySem.F.slot_list_append PySem.F.type_list_append mt_append (pv 3) (pa_cons (pe_call G__law_string (hr.mono (by first | decide | omega)) rfl T.g__law_string T.k__law_string b__law_string v__law_string pass0 (pa_cons (pv 0) (pa_cons pe_int pa_nil))) pa_nil)))) pss_nil)) (pss_one (ps_expr (eBm K rfl PySem.F.plainAttrs_list PySem.F.slot_list_append PySem.F.type_list_append mt_append (pv 3) (pa_cons (pe_call G__law_tree (hr.mono (by first | decide | omega)) rfl T.g__law_tree T.k__law_tree b__law_tree v__law_tree pass0 (pa_cons (pv 0) (pa_cons (pe_op op_sub (pv 1) pe_int) (pa_cons (pv 2) pa_nil)))) pa_nil))))))))
  (pss_one (ps_ret (pe_tup (pa_cons (pe_ix (ixL K rfl) (pv 2) (pe_call G__law_take (hr.mono (by first | decide | omega)) rfl T.g__law_take T.k__law_take b__law_take v__law_take pass0 (pa_cons (pv 0) (pa_cons (pe_callB (cLen K rfl) (by rfl) T.n_len PySem.boot_len (pa_cons (pv 2) pa_nil)) pa_nil))) (fun _ _ => rfl)) (pa_cons (pv 3) pa_nil))))))))), ?_⟩
      refine st_seq ⟨by show 0 ≤ sizeLine; decide, fun c hc => ?_⟩
      dsimp only [gName]
      have ncd : c ≠ d := D.ne hc
      have ncp : c ≠ p := fun z => by rw [z, hp] at hc; cases hc
      refine st_seq (go_asg ?_)
      refine rd_take rfl val_c (by decide) (D.put hc) fun m1 H1 a0 a1 D1 e1 => ?_
      dsimp only [gName]
      have hc1 : H1 c = some (.lst []) := e1.at upd_same (by simpa using ncd)
      have k1 : Kp [d] H H1 := (Kp.new hc).trans e1
      refine ⟨fun σ G => ∃ m : Int, σ = [some (.ref d), some (.int (k : Int)), some (.ref p), some (.ref c), some (.int m), none, none] ∧ Kp [d] H G ∧ Dr G d ∧ G c = some (.lst []) ∧ 0 ≤ m ∧ m < 4, ?_, ?_⟩
      · refine st_if (ans_v (val_eq (val_var rfl) val_c rfl)) (fun _ => ?_) (fun _ => ⟨m1, rfl, k1, D1, hc1, a0, a1⟩)
        refine go_asg ?_
        refine rd_take rfl val_c (by decide) D1 fun m2 H2 b0 b1 D2 e2 => ?_
        exact ⟨m2, rfl, k1.trans e2, D2, e2.at hc1 (by simpa using ncd), b0, by omega⟩
      · rintro σ G ⟨m, rfl, eG, DG, hcG, m0, m4⟩
        refine st_seq ?_
        refine ⟨_, rfl, m, rfl, by omega, by omega, for_range (lo := 0) (n := m.toNat) (fun i σ G => ∃ (v5 v6 : Option V) (acc : List V) (cs : List Tr), σ = [some (.ref d), some (.int (k : Int)), some (.ref p), some (.ref c), some (.int m), v5, v6] ∧ Kp [d] H G ∧ Dr G d ∧ G c = some (.lst acc) ∧ NewC K H G c acc (Tr.ds cs) ∧ cs.length ≤ i ∧ apartT cs ∧ ∀ t ∈ cs, okTr k t) ⟨_, _, [], [], rfl, eG, DG, hcG, fun _ _ => .nil, Nat.le_refl _, trivial, fun t ht => by cases ht⟩ ?_ ?_⟩
        · rintro i σ G hi ⟨v5, v6, acc, cs, rfl, eG, DG, hcG, N, hl, hap, hok⟩
          have hdp := N G fun _ _ _ _ h => h
          have hlen : acc.length = cs.length := by rw [dpa_len hdp, ds_map, List.length_map]
          have hS : SqL K G c acc := SqL.of hcG
          have hbig : acc.length < sizeLine := by
            have : m.toNat < 4 := by omega
            exact sz_lt (by omega)
          have stp : ∀ (v : V) (t : Tr) (σ' : L2.St) (G2 : Hp) (v5' v6' : Option V), σ' = [some (.ref d), some (.int (k : Int)), some (.ref p), some (.ref c), some (.int m), v5', v6'] → Kp [d] G G2 → Dr G2 d → NewD K G G2 v t.d → okTr k t → ¬ (lastT cs = true ∧ t.isT = true) → ∃ (v5 v6 : Option V) (acc' : List V) (cs : List Tr), σ' = [some (.ref d), some (.int (k : Int)), some (.ref p), some (.ref c), some (.int m), v5, v6] ∧ Kp [d] H (upd G2 c (.lst (acc ++ [v]))) ∧ Dr (upd G2 c (.lst (acc ++ [v]))) d ∧ upd G2 c (.lst (acc ++ [v])) c = some (.lst acc') ∧ NewC K H (upd G2 c (.lst (acc ++ [v]))) c acc' (Tr.ds cs) ∧ cs.length ≤ i + 1 ∧ apartT cs ∧ ∀ t ∈ cs, okTr k t := fun v t σ' G2 v5' v6' hσ e2 D2 M ht hlast => ⟨v5', v6', acc ++ [v], cs ++ [t], hσ, (eG.trans e2).mut hc, D2.mut ncd, upd_same, by
              rw [ds_snoc]
              exact N.snoc D DG (by rw [hcG]; exact nofun) eG e2 M, by rw [List.length_append]; show _ + 1 ≤ _; omega, apart_snoc hap hlast, fun u hu => (List.mem_append.mp hu).elim (hok u) fun z => by rw [List.mem_singleton.mp z]; exact ht⟩
          have hb : Val (tAndV (tOp (rI0 fun i j => V.bl (decide (j < i))) (tCB (rLn K) (tCons (tVar 3) tNil)) (tC (V.int 0))) (tCB (rIsi K) (tCons (tOp (rIxL K) (tVar 3) (tOp (rI0 fun i j => V.int (i - j)) (tCB (rLn K) (tCons (tVar 3) tNil)) (tC (V.int 1)))) (tCons (tC (V.ty "str")) tNil)))) [some (.ref d), some (.int (k : Int)), some (.ref p), some (.ref c), some (.int m), some (.int (0 + (i : Int))), v6] G (.bl (lastT cs)) := by
            cases hq : cs.getLast? with
            | none =>
              have hnil : cs = [] := List.getLast?_eq_none_iff.mp hq
              rw [hnil] at hlen
              exact val_is (val_and (a := false) (b := false) (val_is (val_I (val_lenL (val_var rfl) hS) val_c) (by rw [hlen]; rfl)) nofun) (by rw [lastT, hq]; rfl)
            | some t =>
              have hpos : 0 < cs.length := by
                cases cs with
                | nil => cases hq
                | cons _ _ => exact Nat.succ_pos _
              obtain ⟨x, hx, hxd⟩ := dpAll_at hdp (i := cs.length - 1) (d := t.d) (by
                rw [ds_map, List.getElem?_map, ← List.getLast?_eq_getElem?, hq] <;> rfl)
              obtain ⟨ty, h1, h2⟩ := isT_type hxd
              have hat : atI acc ((acc.length : Int) - 1) = some x := by
                have e1 : (acc.length : Int) - 1 = ((cs.length - 1 : Nat) : Int) := by omega
                rw [e1]
                exact atI_nat hx
              exact val_is (val_and (a := true) (b := t.isT) (val_is (val_I (val_lenL (val_var rfl) hS) val_c) (by rw [decide_eq_true (by omega)])) fun _ => val_isi (val_ixL (val_var rfl) (val_I (val_lenL (val_var rfl) hS) val_c) hS hat) h1 h2) (by rw [lastT, hq]; rfl)
          refine st_seq (go_asg (hb _ ?_))
          dsimp only [gName]
          show tOr _ _ _ _ _
          refine or_any (R := fun b G2 => Kp [d] G G2 ∧ Dr G2 d ∧ (k = 0 → b = true)) (ans_v (val_eq (val_var rfl) val_c rfl)) (fun h0 Q' q' => ?_) (fun _ => ⟨Kp.refl, DG, fun _ => rfl⟩) ?_
          · refine rd_take rfl val_c (by decide) DG fun w G2 w0 w1 D2 e2 => ?_
            exact ⟨rfl, _, rfl, q' _ _ ⟨e2, D2, fun z => by subst z; simp at h0⟩⟩
          · rintro b G2 ⟨e2, D2, hb0⟩
            have hc2 : G2 c = some (.lst acc) := e2.at hcG (by simpa using ncd)
            cases b with
            | true =>
              refine iteT (st_if (ans_not (ans_val (val_var rfl))) (fun hn => ?_) (fun hn => ?_))
              · refine ⟨_, rfl, .inl ⟨rfl, acc, SqL.of hc2⟩, _, rfl, d, 5, rfl, by omega, by omega, D2, fun z G3 hz D3 e3 => ?_⟩
                refine ⟨c, acc, _, rfl, rfl, e3.at hc2 (by simpa using ncd), hbig, ?_⟩
                exact stp (.str z) (.txt z) _ G3 _ _ rfl (e2.trans e3) D3 (fun _ _ => .str z) (by cases k <;> exact hz) fun h => by
                  rw [h.1] at hn
                  cases hn
              · exact ⟨_, _, acc, cs, rfl, eG.trans e2, D2, hc2, fun H'' h => N H'' fun a o ha hne hG => h a o ha hne (e2.at hG (by simpa using D.ne ha)), by omega, hap, hok⟩
            | false =>
              refine iteF ?_
              obtain ⟨k', rfl⟩ : ∃ k', k = k' + 1 := ⟨k - 1, by
                have : k ≠ 0 := fun z => by cases hb0 z
                omega⟩
              refine ⟨_, rfl, .inl ⟨rfl, acc, SqL.of hc2⟩, _, rfl, _, rfl, _, 1, rfl, rfl, _, rfl, d, p, k', ns, ?_, by omega, D2, hpd, (eG.trans e2).at hp (by simpa using hpd), hn0, hn4, hns, fun v nm cs' G3 hok' D3 e3 M => ?_⟩
              · have e1 : ((k' + 1 : Nat) : Int) - 1 = (k' : Int) := by omega
                show [V.ref d, V.int (((k' + 1 : Nat) : Int) - 1), V.ref p] = _
                rw [e1]
              · refine ⟨c, acc, _, rfl, rfl, e3.at hc2 (by simpa using ncd), hbig, ?_⟩
                exact stp v (.el nm cs') _ G3 _ _ rfl (e2.trans e3) D3 (fun H'' h => M H'' fun a o hGa hG' => h a o (e2.back (fun b hb => by rw [List.mem_singleton.mp hb]; exact D2.on) hGa) hG') hok' fun h => by cases h.2
        · rintro σ G ⟨v5, v6, acc, cs, rfl, eG, DG, hcG, N, hl, hap, hok⟩
          have hSp : SqL K G p (ns.map V.str) := SqL.of (eG.at hp (by simpa using hpd))
          have hln : ((ns.map V.str).length : Int) = (ns.length : Int) := by rw [List.length_map]
          have hpos : 0 < ns.length := List.length_pos_iff.mpr hn0
          refine ⟨_, rfl, ?_⟩
          refine rd_take rfl (val_lenL (val_var rfl) hSp) (by omega) DG fun j G2 j0 j1 D2 e2 => ?_
          have hj : j.toNat < ns.length := by omega
          have hat : atI (ns.map V.str) j = some (.str ns[j.toNat]) := by
            have q := atI_nat (xs := ns.map V.str) (j := j.toNat) (v := .str ns[j.toNat]) (by rw [List.getElem?_map, List.getElem?_eq_getElem hj] <;> rfl)
            rwa [Int.toNat_of_nonneg j0] at q
          have hc2 : G2 c = some (.lst acc) := e2.at hcG (by simpa using ncd)
          refine ⟨p, _, j, _, rfl, rfl, SqL.of (e2.at (eG.at hp (by simpa using hpd)) (by simpa using hpd)), hat, _, rfl, by show 2 ≤ sizeLine; decide, fun q hq => ?_⟩
          have nqd : q ≠ d := D2.ne hq
          have hqH : H q = none := (eG.trans e2).back (fun b hb => by rw [List.mem_singleton.mp hb]; exact D2.on) hq
          refine kk (.ref q) ns[j.toNat] cs _ ⟨hns _ (List.getElem_mem hj), by omega, hap, hok⟩ (D2.put hq) ((eG.trans e2).trans (Kp.new hq)) fun H'' h => ?_
          refine .tup (SqT.of (h q _ hqH upd_same)) (.cons (.str _) (.cons (.lst (SqL.of (h c _ hc (by rw [upd_ne (fun z => by rw [z, hq] at hc2; cases hc2)]; exact hc2))) (N H'' fun a o ha hne hG => h a o ha ?_)) .nil))
          have h2 : G2 a = some o := e2.at hG (by simpa using D.ne ha)
          rw [upd_ne (fun z => by rw [z, hq] at h2; cases h2)]
          exact h2
end
/-! ### documents as texts, by the law -/
theorem at_cons {x : V} {xs : List V} : atI (x :: xs) 0 = some x := atI_nat (j := 0) rfl
theorem at_one {x y : V} {xs : List V} : atI (x :: y :: xs) 1 = some y := atI_nat (j := 1) rfl
theorem sum_len : ∀ ys : List Str, (ys.map (·.length)).sum = (ys.map (·.cps.toList)).flatten.length
  | [] => rfl
  | y :: ys => by
    rw [List.map_cons, List.map_cons, List.flatten_cons, List.length_append, List.sum_cons, sum_len ys, Array.length_toList]
    rfl
theorem nosign : ("" : Str) = ⟨#[]⟩ := by decide +kernel
def sg : List (Key × V) := [(.inr "<", .str "&lt;"), (.inr ">", .str "&gt;"), (.inr "&", .str "&amp;")]
theorem sL_inj {a b : List Nat} (h : sL a = sL b) : a = b := by
  have := congrArg (fun z : Str => z.cps.toList) h
  exact this
theorem sg_get (c : Nat) : (valV sg (.inr (sL [c]))).getD (.str (sL [c])) = .str (sL (escC c)) := by
  have a1 : ("<" : Str) = sL [60] := by decide +kernel
  have a2 : (">" : Str) = sL [62] := by decide +kernel
  have a3 : ("&" : Str) = sL [38] := by decide +kernel
  have b1 : ("&lt;" : Str) = sL [38, 108, 116, 59] := by decide +kernel
  have b2 : ("&gt;" : Str) = sL [38, 103, 116, 59] := by decide +kernel
  have b3 : ("&amp;" : Str) = sL [38, 97, 109, 112, 59] := by decide +kernel
  have key : ∀ d : Nat, decide ((Sum.inr (sL [d]) : Key) = .inr (sL [c])) = decide (d = c) := fun d => by
    by_cases e : d = c
    · subst e
      simp
    · rw [decide_eq_false e, decide_eq_false fun z => e (by
        have := sL_inj (Sum.inr.inj z)
        exact (List.cons.inj this).1)]
  unfold sg valV escC
  rw [a1, a2, a3, b1, b2, b3]
  by_cases h1 : c = 60
  · subst h1
    simp
  by_cases h2 : c = 62
  · subst h2
    simp [sL]
  by_cases h3 : c = 38
  · subst h3
    simp [sL]
  rw [if_neg h1, if_neg h2, if_neg h3]
  simp only [List.find?, key]
  rw [decide_eq_false fun z => h1 z.symm, decide_eq_false fun z => h2 z.symm, decide_eq_false fun z => h3 z.symm]
  rfl
def spEscaped : Sp := fun vs H Q _ => ∃ z : Str, vs = [.str z] ∧ z.cps.size ≤ 1000 ∧ ∀ H', Ex H H' → Q (.str (esc z)) H'
theorem val_sL {σ : L2.St} {H : Hp} {ta tb : TE} {a b : List Nat} (h : Val ta σ H (.str (sL a))) (h' : Val tb σ H (.str (sL b))) (hz : a.length + b.length ≤ 100000) :
    Val (tOp (fun x y H Q => ∃ i j, x = .str i ∧ y = .str j ∧ i.length + j.length ≤ sizeLine ∧ Q (.str (i ++ j)) H) ta tb) σ H (.str (sL (a ++ b))) :=
  val_op h h' fun _ q => ⟨_, _, rfl, rfl, sz_of (by rw [sL_len, sL_len]; exact hz), by rw [sL_app]; exact q⟩
section
variable {P : Program} {w : World} {K : PySem.W.Frag} {mg : Str → Option Value} {base : Heap}
theorem ok__law_escaped (T : TX K mg) : Can P w K mg base CX0 1 (He.fAd K at__law_escaped) ps__law_escaped [] spEscaped := mk__law_escaped T fun fd F => def0 F sc__law_escaped (fun vs H Q E h => by
  obtain ⟨z, rfl, _⟩ := h
  rfl) fun cdv A outer s H vs Q E hr h => by
  obtain ⟨z, rfl, hz, k⟩ := h
  refine ⟨_, (pss_cons (ps_set (i := 1) sc__law_escaped.nd rfl (Or.inr rfl) (pe_disp (pps_cons pe_str pe_str (pps_cons pe_str pe_str (pps_cons pe_str pe_str pps_nil))) (by rfl) (by rfl) (fun z => by cases z) (by decide)))
  (pss_one (ps_ret (pe_join pe_str (by exact (pe_lc (own := [("letter", 2)]) (g := gName 2) (tt := tYes) rfl sc__law_escaped.nd (pi_str (pv 0)) (blkOk_by (own := [("letter", 2)]) (N := N__law_escaped) (sc := defScope s__law_escaped) (by decide +kernel)) (fun _ _ _ _ _ => by exact (pg_name (i := 2) sc__law_escaped.nd rfl (Or.inl rfl))) (fun _ _ _ _ _ => by exact pts_nil) (fun _ _ _ _ _ => by exact (pe_dget2 (hu_of hr) (pv 1) (pv 2) (pv 2) ⟨rfl, rfl, rfl, rfl⟩)))))))), ?_⟩
  refine st_seq fun p hp => ?_
  simp only [tPairs, tC]
  refine ⟨upd_same, sg, rfl, by decide, ?_⟩
  dsimp only [gName]
  rw [upd_upd, show mergeK [] sg = sg by decide +kernel]
  have e0 : Ex H (upd H p (.dK sg)) := Ex.new hp
  have h0 : upd H p (.dK sg) p = some (.dK sg) := upd_same
  revert e0 h0
  generalize upd H p (.dK sg) = H0
  intro e0 h0
  refine ⟨⟨_, rfl⟩, ?_⟩
  refine ⟨_, rfl, z, rfl, fun D hD => lc_it walk_str (fun i G => Ex H0 G ∧ ∃ ys : List Str, G D = some (.lst (ys.map V.str)) ∧ ys.length = i ∧ ys.map (·.cps.toList) = (z.cps.toList.take i).map escC) ⟨Ex.new hD, [], upd_same, rfl, rfl⟩ (fun _ _ _ _ => trivial) ?_ ?_⟩
  · rintro i x G G' hi ⟨e, ys, hG, hl, hm⟩ ⟨rfl, c, hc, rfl⟩
    refine ⟨rfl, ?_⟩
    refine ⟨_, rfl, p, rfl, .inl ⟨_, .inl (e _ _ h0)⟩, _, rfl, _, rfl, _, DGet.k (k := .inr ⟨#[c]⟩) (e _ _ h0), _, hG, sz_lt (by rw [List.length_map]; omega), e.mut hD, ys ++ [sL (escC c)], ?_, by rw [List.length_append, hl]; rfl, ?_⟩
    · rw [upd_same, List.map_append]
      show some (HO.lst (ys.map V.str ++ [(valV sg (.inr (sL [c]))).getD (.str (sL [c]))])) = _
      rw [sg_get]
      rfl
    · have hc' : z.cps.toList[i]? = some c := by rw [← hc, Array.getElem?_toList]
      rw [List.map_append, hm, List.take_succ, hc', List.map_append]
      rfl
  · rintro G ⟨e, ys, hG, hl, hm⟩
    rw [← Array.length_toList, List.take_length] at hm
    refine ⟨_, D, ys, rfl, rfl, .inl (SqL.of hG), ?_, ?_⟩
    · rw [sum_len, hm]
      have h5 := escL_len z.cps.toList
      have h6 : z.cps.toList.length = z.cps.size := Array.length_toList
      have h7 : (escL z.cps.toList) = (z.cps.toList.map escC).flatten := List.flatMap_def ..
      rw [h7] at h5
      show _ + ys.length * 0 ≤ _
      omega
    · rw [nosign, join0, hm, ← List.flatMap_def]
      exact k G (e0.trans e)
def spWritten (K : PySem.W.Frag) (n : Nat) : Sp := fun vs H Q _ => ∃ (x : V) (b : Bool) (t : Tr) (k : Nat), vs = [x, .bl b] ∧ k < n ∧ k ≤ 5 ∧ okTr k t ∧ Dp K H x t.d ∧ ∀ H', Ex H H' → Q (.str (sL (wr b t))) H'
/-- the parts of an element, as values -/
theorem el_parts {H : Hp} {x : V} {n : Str} {cs : List Tr} (h : Dp K H x (Tr.el n cs).d) : ∃ (a l : Addr) (ys : List V), x = .ref a ∧ SqT K H a [.str n, .ref l] ∧ SqL K H l ys ∧ DpAll K H ys (Tr.ds cs) := by
  cases h with
  | @tup a xs _ sx ax =>
    cases ax with
    | cons h1 r =>
      cases h1
      cases r with
      | cons h2 r2 =>
        cases r2
        cases h2 with
        | @lst l ys _ sl al => exact ⟨a, l, ys, rfl, sx, sl, al⟩
theorem dsAt {H : Hp} {ys : List V} {cs : List Tr} {i : Nat} {x : V} (h : DpAll K H ys (Tr.ds cs)) (e : ys[i]? = some x) : ∃ c, cs[i]? = some c ∧ Dp K H x c.d := by
  obtain ⟨d, hd, hx⟩ := dpa_at h e
  rw [ds_map, List.getElem?_map] at hd
  cases hc : cs[i]? with
  | none => rw [hc] at hd; cases hd
  | some c =>
    rw [hc] at hd
    cases hd
    exact ⟨c, rfl, hx⟩
theorem ok__law_written (T : TX K mg) : ∀ n, Can P w K mg base CX0 (n + 2) (He.fAd K at__law_written) ps__law_written [] (spWritten K n)
  | 0 => by
    obtain ⟨fd, _, b⟩ := mk__law_written (P := P) (w := w) (base := base) (CX := CX0) (k := 0) (sp := fun _ _ _ _ => False) T fun fd F => ⟨fun _ _ _ _ h => h.elim, fun _ _ _ _ _ _ _ _ _ _ _ _ _ h => h.elim⟩
    exact ⟨fd, ⟨fun _ _ _ _ ⟨_, _, _, _, _, h, _⟩ => absurd h (Nat.not_lt_zero _), fun _ _ _ _ _ _ _ _ _ _ _ _ _ ⟨_, _, _, _, _, h, _⟩ => absurd h (Nat.not_lt_zero _)⟩, b⟩
  | n + 1 => by
    obtain ⟨fd_s, G__law_written, ds_s, v__law_written, b__law_written⟩ := ok__law_written T n
    obtain ⟨fd__law_escaped, G__law_escaped, ds__law_escaped, v__law_escaped, b__law_escaped⟩ := ok__law_escaped (P := P) (w := w) (base := base) T
    exact mk__law_written T fun fd F => def0 F sc__law_written (fun vs H Q E h => by
      obtain ⟨x, b, t, k, rfl, _⟩ := h
      rfl) fun cdv A outer s H vs Q E hr h => by
      obtain ⟨x, b, t, k, rfl, hk, h5, hok, hx, kk⟩ := h
      refine ⟨_, (pss_cons (ps_if (pt_val (pe_callB (cIsi K rfl) (by rfl) T.n_isinstance (by decide +kernel) (pa_cons (pv 0) (pa_cons (pe_bltn (v := .ty "str") rfl T.n_str (by decide +kernel) rfl) pa_nil)))) (pss_one (ps_ret (pe_call G__law_escaped (hr.mono (by first | decide | omega)) rfl T.g__law_escaped T.k__law_escaped b__law_escaped v__law_escaped pass0 (pa_cons (pv 0) pa_nil)))) pss_nil)
  (pss_cons (ps_if (PW.pt (pw_and (pt_cmpR op_eq (pe_callB (cLen K rfl) (by rfl) T.n_len PySem.boot_len (pa_cons (pe_ix (ixT K rfl) (pv 0) pe_int (fun _ _ => rfl)) pa_nil)) pe_int (nomark _)) (pw_and1 (pt_not (pt_val (pv 1)))))) (pss_one (ps_ret (pe_op op_add_str (pe_op op_add_str pe_str (pe_ix (ixT K rfl) (pv 0) pe_int (fun _ _ => rfl))) pe_str))) pss_nil)
  (pss_cons (ps_set (i := 2) sc__law_written.nd rfl (Or.inl rfl) (pe_join pe_str (by exact (pe_lc (own := [("child", 3)]) (g := gName 3) (tt := tYes) rfl sc__law_written.nd (iLst K rfl (pe_ix (ixT K rfl) (pv 0) pe_int (fun _ _ => rfl))) (blkOk_by (own := [("child", 3)]) (N := N__law_written) (sc := defScope s__law_written) (by decide +kernel)) (fun _ _ _ _ _ => by exact (pg_name (i := 3) sc__law_written.nd rfl (Or.inl rfl))) (fun _ _ _ _ _ => by exact pts_nil) (fun _ _ _ _ _ => by exact (pe_call G__law_written (hr.mono (by first | decide | omega)) rfl T.g__law_written T.k__law_written b__law_written v__law_written pass0 (pa_cons (pv 3) (pa_cons (pv 1) pa_nil))))))))
  (pss_one (ps_ret (pe_op op_add_str (pe_op op_add_str (pe_op op_add_str (pe_op op_add_str (pe_op op_add_str (pe_op op_add_str pe_str (pe_ix (ixT K rfl) (pv 0) pe_int (fun _ _ => rfl))) pe_str) (pv 2)) pe_str) (pe_ix (ixT K rfl) (pv 0) pe_int (fun _ _ => rfl))) pe_str)))))), ?_⟩
      have tx := ty_dp hx
      have hlen := wr_len b hok
      have hb5 := bnd_le h5
      cases t with
      | txt z =>
        have hz : okText 5 z := by cases k <;> exact hok
        cases hx
        replace tx : TyX K H (.str z) (.type "str") := tx
        refine st_seq (st_yes (ans_val (val_isi (b := true) (val_var rfl) tx (by decide +kernel))) ?_)
        refine go_ret ?_
        refine ⟨_, rfl, z, rfl, by have := hz.2.1; omega, fun H' e => ?_⟩
        have := kk H' e
        rw [wr] at this
        exact this
      | el nm cs =>
        obtain ⟨k', rfl⟩ : ∃ k', k = k' + 1 := by
          cases k with
          | zero => exact hok.elim
          | succ k' => exact ⟨k', rfl⟩
        obtain ⟨hn, hc3, _, hcs⟩ := hok
        replace tx : TyX K H x (.type "tuple") := tx
        obtain ⟨a, l, ys, rfl, sx, sl, al⟩ := el_parts hx
        have hyl : ys.length = cs.length := by rw [dpa_len al, ds_map, List.length_map]
        have hnl := name_len hn
        have nmv : ∀ {σ : L2.St} {G : Hp}, σ[0]? = some (some (.ref a)) → Ex H G → Val (tOp (rIxT K) (tVar 0) (tC (.int 0))) σ G (.str (sL nm.cps.toList)) := fun hσ e => val_is (val_ixT (val_var hσ) val_c (ex_t e sx) at_cons) (by rw [sL_of])
        have c1 : ∀ {σ : L2.St} {G : Hp} (z : Str) (q : List Nat), z.cps.toList = q → Val (tC (.str z)) σ G (.str (sL q)) := fun z q e => val_is val_c (by rw [← e, sL_of])
        refine st_seq (st_no (ans_val (val_isi (b := false) (val_var rfl) tx (by decide +kernel))) ?_)
        refine st_seq (st_if (ans_and3 (ans_v (val_eq (val_lenL (val_ixT (val_var rfl) val_c sx at_one) sl) val_c rfl)) fun _ => ans_not (ans_val (val_var rfl))) (fun h => ?_) (fun h => ?_))
        · have h0 : cs = [] ∧ b = false := by
            have h1 := Bool.and_eq_true_iff.mp h
            have h2 := V.int.inj (of_decide_eq_true h1.1)
            refine ⟨List.length_eq_zero_iff.mp (by omega), ?_⟩
            cases b with
            | true => cases h1.2
            | false => rfl
          obtain ⟨rfl, rfl⟩ := h0
          refine st_ret (val_is (val_sL (val_sL (c1 "<" [60] (by decide +kernel)) (nmv rfl (Ex.refl _)) (by simp only [List.length_append, List.length_cons, List.length_nil]; omega)) (c1 "/>" [47, 62] (by decide +kernel)) (by simp only [List.length_append, List.length_cons, List.length_nil]; omega)) ?_) (kk H (Ex.refl _))
          rw [wr]
          rfl
        · have hw : wr b (.el nm cs) = [60] ++ nm.cps.toList ++ [62] ++ wrs b cs ++ [60, 47] ++ nm.cps.toList ++ [62] := by
            rw [wr, if_neg]
            intro z
            rw [hyl] at h
            cases cs with
            | nil =>
              cases b with
              | true => cases z
              | false => cases h
            | cons _ _ => cases z
          dsimp only [tNext]
          refine st_seq (go_asg ?_)
          refine ⟨⟨_, rfl⟩, ?_⟩
          refine ⟨_, rfl, a, _, 1, _, rfl, rfl, sx, at_one, l, rfl, ⟨_, sl⟩, fun D hD => lc_list (xs := ys) (fun i G => Ex H G ∧ ∃ zs : List Str, G D = some (.lst (zs.map V.str)) ∧ zs.length = i ∧ zs.map (·.cps.toList) = (cs.take i).map (wr b)) ⟨Ex.new hD, [], upd_same, rfl, rfl⟩ (fun i G _ ⟨e, _⟩ => ex_l e sl) ?_ ?_⟩
          · rintro i y G hy ⟨e, zs, hG, hl, hm⟩
            obtain ⟨c, hc, hyc⟩ := dsAt al hy
            have hi := lt_of_at hc
            refine ⟨rfl, ?_⟩
            refine ⟨_, rfl, _, rfl, y, b, c, k', rfl, by omega, by omega, hcs c (List.mem_of_getElem? hc), dp_ex e hyc, fun G2 e2 => ?_⟩
            refine ⟨_, e2 _ _ hG, sz_lt (by rw [List.length_map]; omega), (e.trans e2).mut hD, zs ++ [sL (wr b c)], by rw [upd_same, List.map_append]; rfl, by rw [List.length_append, hl]; rfl, ?_⟩
            rw [List.map_append, hm, List.take_succ, hc, List.map_append]
            rfl
          · rintro G ⟨e, zs, hG, hl, hm⟩
            rw [hyl, List.take_length] at hm
            have hwl : (wrs b cs).length ≤ 10000 := by
              rw [hw] at hlen
              simp only [List.length_append] at hlen
              omega
            refine ⟨_, D, zs, rfl, rfl, .inl (SqL.of hG), ?_, ?_⟩
            · rw [sum_len]
              have : (zs.map (·.cps.toList)).flatten.length ≤ 10000 := by rw [hm, ← wrs_flat]; exact hwl
              show _ + zs.length * 0 ≤ _
              omega
            · rw [nosign, join0, hm, ← wrs_flat]
              dsimp only [gName]
              refine st_ret (val_is (val_sL (val_sL (val_sL (val_sL (val_sL (val_sL (c1 "<" [60] (by decide +kernel)) (nmv rfl e) (by simp only [List.length_append, List.length_cons, List.length_nil]; omega)) (c1 ">" [62] (by decide +kernel)) (by simp only [List.length_append, List.length_cons, List.length_nil]; omega)) (val_var rfl) (by simp only [List.length_append, List.length_cons, List.length_nil]; omega)) (c1 "</" [60, 47] (by decide +kernel)) (by simp only [List.length_append, List.length_cons, List.length_nil]; omega)) (nmv rfl e) (by simp only [List.length_append, List.length_cons, List.length_nil]; omega)) (c1 ">" [62] (by decide +kernel)) (by simp only [List.length_append, List.length_cons, List.length_nil]; omega)) ?_) (kk G e)
              rw [hw]
end
/-! ### the program's reader, on every text -/
section
variable {P : Program} {w : World} {K : PySem.W.Frag} {mg : Str → Option Value} {base : Heap}
theorem ok_TextError_init (T : TX K mg) : Can P w K mg base CX0 1 (He.fAd K at_TextError_init) ps_TextError_init [] (spX3 K (He.ga K "TextError") "line" "column" "reason") := mk_TextError_init T fun fd F => def0 F sc_TextError_init (fun vs H Q E h => by
  obtain ⟨a, y, z, u, rfl, _⟩ := h
  rfl) fun cdv A outer s H vs Q E hr h => by
  obtain ⟨a, y, z, u, rfl, O, hf, hg, hh, ha, k⟩ := h
  refine ⟨_, (pss_cons (ps_ost (pv 0) (pv 1))
  (pss_cons (ps_ost (pv 0) (pv 2))
  (pss_one (ps_ost (pv 0) (pv 3))))), ?_⟩
  refine ⟨_, rfl, _, rfl, a, _, rfl, O, hf, .inl ⟨ha, fun dx n1 n2 => ⟨_, rfl, _, rfl, a, _, rfl, O, hg, .inr ⟨dx, _, upd_same, by rw [upd_ne n2, upd_same], by show 1 ≤ 900; decide, ⟨_, rfl, _, rfl, a, _, rfl, O, hh, .inr ⟨dx, _, by rw [upd_ne (Ne.symm n2), upd_same], upd_same, by show 2 ≤ 900; decide, ?_⟩⟩⟩⟩⟩⟩
  rw [upd_upd]
  exact k dx n1 n2
theorem ok_TooLarge_init (T : TX K mg) : Can P w K mg base CX0 1 (He.fAd K at_TooLarge_init) ps_TooLarge_init [] (spX1 K (He.ga K "TooLarge") "limit") := mk_TooLarge_init T fun fd F => def0 F sc_TooLarge_init (fun vs H Q E h => by
  obtain ⟨a, y, rfl, _⟩ := h
  rfl) fun cdv A outer s H vs Q E hr h => by
  obtain ⟨a, y, rfl, O, hno, ha, k⟩ := h
  refine ⟨_, (pss_one (ps_ost (pv 0) (pv 1))), ?_⟩
  exact ⟨_, rfl, _, rfl, a, _, rfl, O, hno, .inl ⟨ha, fun dx n1 n2 => k dx n1 n2⟩⟩
end
theorem szB {n : Nat} (h : n ≤ 200001) : n ≤ sizeLine := Nat.le_trans h (by decide)
/-- the reading at o: its text, where it is, how many nodes, the stack -/
def RdO (K : PySem.W.Frag) (H : Hp) (o : Addr) (z : Str) (i n : Nat) (st : Addr) : Prop := ∃ dx, H o = some (.ins (He.ga K "Reading") dx (flds_Reading (.str z) (.int (i : Int)) (.int (n : Int)) (.ref st)))
theorem RdO.on {K : PySem.W.Frag} {H : Hp} {o : Addr} {z : Str} {i n : Nat} {st : Addr} (h : RdO K H o z i n st) : H o ≠ none := by
  obtain ⟨dx, h⟩ := h
  rw [h]
  nofun
theorem RdO.ex {K : PySem.W.Frag} {H H' : Hp} {o : Addr} {z : Str} {i n : Nat} {st : Addr} (h : RdO K H o z i n st) (e : Ex H H') : RdO K H' o z i n st := h.imp fun _ g => e _ _ g
theorem RdO.kp {K : PySem.W.Frag} {S : List Addr} {H H' : Hp} {o : Addr} {z : Str} {i n : Nat} {st : Addr} (h : RdO K H o z i n st) (e : Kp S H H') (ho : o ∉ S) : RdO K H' o z i n st := h.imp fun _ g => e.at g ho
theorem pu_reached (a0 a1 a2 a3 x : V) : putF "reached" x (flds_Reading a0 a1 a2 a3) = flds_Reading a0 x a2 a3 := by
  show putF "reached" x [("source", a0), ("reached", a1), ("nodes", a2), ("stack", a3)] = _
  rw [putF, if_neg (by decide +kernel), putF, if_pos rfl]
theorem pu_nodes (a0 a1 a2 a3 x : V) : putF "nodes" x (flds_Reading a0 a1 a2 a3) = flds_Reading a0 a1 x a3 := by
  show putF "nodes" x [("source", a0), ("reached", a1), ("nodes", a2), ("stack", a3)] = _
  rw [putF, if_neg (by decide +kernel), putF, if_neg (by decide +kernel), putF, if_pos rfl]
theorem fn_len (a0 a1 a2 a3 : V) : (flds_Reading a0 a1 a2 a3).length < 1000 := by show 4 < 1000; decide
theorem ex_kp {S : List Addr} {H0 G G' : Hp} (e : Ex H0 G) (k : Kp S G G') (h : ∀ a ∈ S, H0 a = none) : Ex H0 G' := fun a o ha => k a o (fun z => by rw [h a z] at ha; cases ha) (e a o ha)
theorem ex_none {H0 H : Hp} {a : Addr} (e : Ex H0 H) (h : H a = none) : H0 a = none := by
  cases q : H0 a with
  | none => rfl
  | some u =>
    have := e _ _ q
    rw [h] at this
    cases this
/-- the line and the column of a place -/
def lineZ (z : Str) (i : Nat) : Int := Txt.countIn z "\n" 0 (i : Int) + 1
def colZ (z : Str) (i : Nat) : Int := (i : Int) - Txt.rfindIn z "\n" 0 (i : Int)
/-- a TextError of this place and reason is let out -/
def BadR (K : PySem.W.Frag) (H0 : Hp) (E : XK) (z : Str) (i : Nat) (r : Str) : Prop := ∀ (d : Addr) (H' : Hp), H0 d = none → Ex H0 H' → H' d = some (.xd [("reason", .str r), ("column", .int (colZ z i)), ("line", .int (lineZ z i))]) → E (.ref (He.ga K "TextError")) (some d) H'
def spSign2 : Sp := fun vs H Q _ => ∃ c : Nat, vs = [.str (sL [c])] ∧ Q (.bl (sgB c)) H
def spLetter2 : Sp := fun vs H Q _ => ∃ c : Nat, vs = [.str (sL [c])] ∧ Q (.bl (letB c)) H
def spBegins (K : PySem.W.Frag) : Sp := fun vs H Q _ => ∃ (o : Addr) (wd z : Str) (i n : Nat) (st : Addr) (l : List Nat), vs = [.ref o, .str wd] ∧ RdO K H o z i n st ∧ remS z i l ∧ Q (.bl (decide (l.take wd.cps.toList.length = wd.cps.toList))) H
def spRefuse (K : PySem.W.Frag) : Sp := fun vs H Q E => ∃ (H0 : Hp) (z : Str) (i : Nat) (l : List Nat) (r : Str), vs = [.str z, .int (i : Int), .str r] ∧ Ex H0 H ∧ remS z i l ∧ z.cps.size ≤ 200000 ∧ BadR K H0 E z i (why l r)
def spNext (K : PySem.W.Frag) : Sp := fun vs H Q E => ∃ (H0 : Hp) (o : Addr) (z : Str) (i n : Nat) (st : Addr) (l : List Nat), vs = [.ref o] ∧ RdO K H o z i n st ∧ remS z i l ∧ z.cps.size ≤ 200000 ∧ Ex H0 H ∧ (rdNext l = none → BadR K H0 E z i (why l "sign")) ∧
  ∀ (r : List Nat) (k s : Nat), rdNext l = some (r, k, s) → ∀ (p : Addr) (H' : Hp), H p = none → Ex H H' → H' p = some (.tup [.str (sL (l.take k)), .str (sL [s])]) → Q (.ref p) H'
def spCount (K : PySem.W.Frag) : Sp := fun vs H Q E => ∃ (H0 : Hp) (o : Addr) (z : Str) (i n : Nat) (st : Addr) (xs : List V) (l : List Nat), vs = [.ref o] ∧ RdO K H o z i n st ∧ remS z i l ∧ z.cps.size ≤ 200000 ∧ Ex H0 H ∧ SqL K H st xs ∧ xs.length ≤ 100 ∧
  (∀ y, cntR xs.length l n = some y → BadR K H0 E z i y) ∧ (cntR xs.length l n = none → ∀ H', RdO K H' o z i (n + 1) st → Kp [o] H H' → Q .non H')
def spTagEnd (K : PySem.W.Frag) : Sp := fun vs H Q E => ∃ (H0 : Hp) (o : Addr) (z : Str) (i n : Nat) (st : Addr) (l : List Nat), vs = [.ref o] ∧ RdO K H o z i n st ∧ remS z i l ∧ z.cps.size ≤ 200000 ∧ Ex H0 H ∧ (l.head? ≠ some 62 → BadR K H0 E z i (why l "tag")) ∧
  (l.head? = some 62 → ∀ H', RdO K H' o z (i + 1) n st → Kp [o] H H' → Q .non H')
def spName (K : PySem.W.Frag) : Sp := fun vs H Q E => ∃ (H0 : Hp) (o : Addr) (z : Str) (i n : Nat) (st : Addr) (a : Nat) (l : List Nat), vs = [.ref o, .int (a : Int)] ∧ RdO K H o z i n st ∧ remS z a l ∧ z.cps.size ≤ 200000 ∧ Ex H0 H ∧ (nameOk l = false → BadR K H0 E z a (why l "name")) ∧
  (nameOk l = true → ∀ H', RdO K H' o z (a + runL letB l) n st → Kp [o] H H' → Q (.str (sL (l.take (runL letB l)))) H')
def spText (K : PySem.W.Frag) : Sp := fun vs H Q E => ∃ (H0 : Hp) (o : Addr) (z : Str) (i n : Nat) (st t lp : Addr) (pre vs' : List V) (nv : V) (l : List Nat), vs = [.ref o] ∧ RdO K H o z i n st ∧ remS z i l ∧ z.cps.size ≤ 200000 ∧ Ex H0 H ∧ H0 o = none ∧
  H st = some (.lst (pre ++ [.ref t])) ∧ H t = some (.tup [nv, .ref lp]) ∧ H lp = some (.lst vs') ∧ vs'.length ≤ 10000 ∧ pre.length ≤ 60 ∧
  (∀ j r, rdText (pre.length + 1) (l.length + 1) [] l i n = .no j r → BadR K H0 E z j r) ∧
  ∀ y l' i' n', rdText (pre.length + 1) (l.length + 1) [] l i n = .ok y l' i' n' → remS z i' l' → ∀ H', RdO K H' o z i' n' st → H' lp = some (.lst (vs' ++ [.str (sL y)])) → Kp [o, lp] H H' → Q .non H'
def spBegin (K : PySem.W.Frag) : Sp := fun vs H Q E => ∃ (H0 : Hp) (o : Addr) (z : Str) (i n : Nat) (st t lp : Addr) (pre vs' : List V) (nv : V) (l : List Nat) (F : List Fram), vs = [.ref o] ∧ RdO K H o z i n st ∧ remS z i (60 :: l) ∧ z.cps.size ≤ 200000 ∧ Ex H0 H ∧ H0 o = none ∧ H0 st = none ∧ H0 lp = none ∧
  H st = some (.lst (pre ++ [.ref t])) ∧ H t = some (.tup [nv, .ref lp]) ∧ H lp = some (.lst vs') ∧ lp ≠ st ∧ vs'.length ≤ 10000 ∧ pre.length ≤ 60 ∧ F.length = pre.length + 1 ∧
  (∀ j r, rdBegin F (60 :: l) i n = .no j r → BadR K H0 E z j r) ∧
  ∀ (nm : Str) (b : Bool) (l' : List Nat) (i' : Nat), rdBegin F (60 :: l) i n = .ok (if b then addK F (.el nm []) else (nm, []) :: F) l' i' (n + 1) → n ≠ 5000 → pre.length < 60 → i < i' → remS z i' l' →
    ∀ (H' : Hp) (t' lq : Addr), H t' = none → H lq = none → t' ≠ lq → RdO K H' o z i' (n + 1) st → H' t' = some (.tup [.str nm, .ref lq]) → H' lq = some (.lst []) → H' lp = some (.lst (vs' ++ [.ref t'])) →
    H' st = some (.lst (if b then pre ++ [.ref t] else pre ++ [.ref t] ++ [.ref t'])) → Kp [o, lp, st] H H' → Q .non H'
def spEnd (K : PySem.W.Frag) : Sp := fun vs H Q E => ∃ (H0 : Hp) (o : Addr) (z : Str) (i n : Nat) (st t lp : Addr) (pre : List V) (l : List Nat) (F : List Fram), vs = [.ref o] ∧ RdO K H o z i n st ∧ remS z i (60 :: 47 :: l) ∧ z.cps.size ≤ 200000 ∧ Ex H0 H ∧ H0 o = none ∧
  H st = some (.lst (pre ++ [.ref t])) ∧ H t = some (.tup [.str (topN F), .ref lp]) ∧
  (∀ j r, rdEnd F (60 :: 47 :: l) i n = .no j r → BadR K H0 E z j r) ∧
  ∀ l' i', rdEnd F (60 :: 47 :: l) i n = .ok (popK F) l' i' n → i < i' → remS z i' l' → ∀ H', RdO K H' o z i' n st → H' st = some (.lst pre) → Kp [o, st] H H' → Q .non H'
def spPart (K : PySem.W.Frag) : Sp := fun vs H Q E => ∃ (o : Addr) (z : Str) (i n : Nat) (st : Addr) (l : List Nat), vs = [.ref o] ∧ RdO K H o z i n st ∧ remS z i l ∧ (l.take 2 = [60, 47] → spEnd K vs H Q E) ∧ (l.take 2 ≠ [60, 47] → l.head? = some 60 → spBegin K vs H Q E) ∧ (l.take 2 ≠ [60, 47] → l.head? ≠ some 60 → spText K vs H Q E)
def spRoot (K : PySem.W.Frag) : Sp := fun vs H Q E => ∃ (H0 : Hp) (o : Addr) (z : Str) (i n : Nat) (st : Addr) (l : List Nat), vs = [.ref o] ∧ RdO K H o z i n st ∧ remS z i l ∧ z.cps.size ≤ 200000 ∧ Ex H0 H ∧ (l.head? = some 60 → spBegin K vs H Q E) ∧ (l.head? ≠ some 60 → BadR K H0 E z i (why l "element"))
def spInit (K : PySem.W.Frag) : Sp := fun vs H Q _ => ∃ (o dx : Addr) (z : Str), vs = [.ref o, .str z] ∧ H o = some (.ins (He.ga K "Reading") dx []) ∧
  ∀ (H' : Hp) (st t l : Addr), H st = none → H t = none → H l = none → st ≠ t → st ≠ l → t ≠ l → RdO K H' o z 0 0 st → H' st = some (.lst [.ref t]) → H' t = some (.tup [.str "", .ref l]) → H' l = some (.lst []) → Kp [o] H H' → Q .non H'
section
variable {P : Program} {w : World} {K : PySem.W.Frag} {mg : Str → Option Value} {base : Heap}
theorem rd_fld (T : TX K mg) {σ : L2.St} {H : Hp} {o : Addr} {z : Str} {i n : Nat} {st : Addr} (h : RdO K H o z i n st) (hσ : σ[0]? = some (some (.ref o))) :
    Val (tFld K (tVar 0) "source") σ H (.str z) ∧ Val (tFld K (tVar 0) "reached") σ H (.int (i : Int)) ∧ Val (tFld K (tVar 0) "nodes") σ H (.int (n : Int)) ∧ Val (tFld K (tVar 0) "stack") σ H (.ref st) := by
  obtain ⟨dx, h⟩ := h
  exact ⟨fun Q q => ⟨_, hσ, o, _, dx, _, _, rfl, h, T.cl_Reading, T.na_Reading_source, fl_Reading_source .., q⟩, fun Q q => ⟨_, hσ, o, _, dx, _, _, rfl, h, T.cl_Reading, T.na_Reading_reached, fl_Reading_reached .., q⟩,
    fun Q q => ⟨_, hσ, o, _, dx, _, _, rfl, h, T.cl_Reading, T.na_Reading_nodes, fl_Reading_nodes .., q⟩, fun Q q => ⟨_, hσ, o, _, dx, _, _, rfl, h, T.cl_Reading, T.na_Reading_stack, fl_Reading_stack .., q⟩⟩
theorem chain_le {a b c : Nat} : (decide (a ≤ c) && decide (c ≤ b)) = (Nat.ble a c && Nat.ble c b) := by
  have e : ∀ x y : Nat, decide (x ≤ y) = Nat.ble x y := fun x y => by
    cases q : Nat.ble x y with
    | true => exact decide_eq_true (Nat.le_of_ble_eq_true q)
    | false => exact decide_eq_false fun z => by rw [Nat.ble_eq_true_of_le z] at q; cases q
  rw [e, e]
theorem ok_is_sign (T : TX K mg) : Can P w K mg base CX0 1 (He.fAd K at_is_sign) ps_is_sign [] spSign2 := mk_is_sign T fun fd F => def0 F sc_is_sign (fun vs H Q E h => by
  obtain ⟨c, rfl, _⟩ := h
  rfl) fun cdv A outer s H vs Q E hr h => by
  obtain ⟨c, rfl, k⟩ := h
  refine ⟨_, (pss_one (ps_ret (pe_or (pe_cmpR op_eq (pv 0) pe_str (nomark _)) (pe_one (pe_chain op_le_str op_le_str pe_str (pv 0) pe_str))))), ?_⟩
  refine go_ret ?_
  refine ⟨_, rfl, rfl, decide (c = 10), by
    by_cases e : c = 10
    · subst e
      rfl
    · rw [decide_eq_false e, decide_eq_false fun z => e (by
        have h1 : ("\n" : Str) = sL [10] := by decide +kernel
        have h2 := V.str.inj z
        rw [h1] at h2
        exact (List.cons.inj (sL_inj h2)).1)], ?_⟩
  unfold sgB at k
  by_cases e : c = 10
  · subst e
    rw [decide_eq_true rfl]
    exact iteT k
  · rw [decide_eq_false e]
    refine iteF (val_chS (a := 32) (b := 126) (val_var rfl) (by decide +kernel) (by decide +kernel) _ ?_)
    have : Nat.beq c 10 = false := by
      cases q : Nat.beq c 10 with
      | false => rfl
      | true => exact absurd (Nat.eq_of_beq_eq_true q) e
    rw [this, Bool.false_or] at k
    rw [chain_le]
    exact k
theorem ok_is_letter (T : TX K mg) : Can P w K mg base CX0 1 (He.fAd K at_is_letter) ps_is_letter [] spLetter2 := mk_is_letter T fun fd F => def0 F sc_is_letter (fun vs H Q E h => by
  obtain ⟨c, rfl, _⟩ := h
  rfl) fun cdv A outer s H vs Q E hr h => by
  obtain ⟨c, rfl, k⟩ := h
  refine ⟨_, (pss_one (ps_ret (pe_chain op_le_str op_le_str pe_str (pv 0) pe_str))), ?_⟩
  refine go_ret (val_chS (a := 97) (b := 122) (val_var rfl) (by decide +kernel) (by decide +kernel) _ ?_)
  rw [chain_le]
  exact k

theorem ok__refuse (T : TX K mg) : Can P w K mg base (L2.CX P w) 4 (He.fAd K at__refuse) ps__refuse [] (spRefuse K) := by
  obtain ⟨fd_is_sign, G_is_sign, ds_is_sign, v_is_sign, b_is_sign⟩ := ok_is_sign (P := P) (w := w) (base := base) T
  obtain ⟨fd_TextError_init, G_TextError_init, ds_TextError_init, v_TextError_init, b_TextError_init⟩ := ok_TextError_init (P := P) (w := w) (base := base) T
  exact mk__refuse T fun fd F => defX F sc__refuse (fun vs H Q E h => by
    obtain ⟨H0, z, i, l, r, rfl, _⟩ := h
    rfl) fun cdv A outer s H vs Q E hr h => by
    obtain ⟨H0, z, i, l, r, rfl, hx, hl, hz, k⟩ := h
    refine ⟨_, (Evl.pss_cut (ps_if (pt_cmpR op_eq (pv 1) (pe_callB call_len_str (by rfl) T.n_len PySem.boot_len (pa_cons (pv 0) pa_nil)) (nomark _)) (pss_one (ps_set (i := 2) sc__refuse.nd rfl (Or.inl rfl) pe_str)) (pss_one (ps_if (pt_not (pt_val (pe_call G_is_sign (hr.mono (by first | decide | omega)) rfl T.g_is_sign T.k_is_sign b_is_sign v_is_sign pass0 (pa_cons (pe_ix ix_str (pv 0) (pv 1) (fun _ _ => rfl)) pa_nil)))) (pss_one (ps_set (i := 2) sc__refuse.nd rfl (Or.inl rfl) pe_str)) pss_nil)))
  (pss_cons (ps_set (i := 3) sc__refuse.nd rfl (Or.inl rfl) (pe_op op_add (eBm K rfl PySem.F.plainAttrs_str PySem.F.slot_str_count PySem.F.type_str_count mt_count4 (pv 0) (pa_cons pe_str (pa_cons pe_int (pa_cons (pv 1) pa_nil)))) pe_int))
  (pss_cons (ps_set (i := 4) sc__refuse.nd rfl (Or.inl rfl) (pe_op op_sub (pv 1) (eBm K rfl PySem.F.plainAttrs_str PySem.F.slot_str_rfind PySem.F.type_str_rfind mt_rfind4 (pv 0) (pa_cons pe_str (pa_cons pe_int (pa_cons (pv 1) pa_nil))))))
  (pss_one (ps_raise rfl (takes_of rfl rfl rfl rfl) (pmk_oex T.ox_TextError T.oi_TextError T.ot_TextError G_TextError_init (hr.mono (by first | decide | omega)) b_TextError_init v_TextError_init pass0 rfl T.g_TextError (pa_cons (pv 3) (pa_cons (pv 4) (pa_cons (pv 2) pa_nil))))))))), ?_⟩
    have hlen := hl.len
    have hzl : z.length = z.cps.size := rfl
    refine ⟨fun σ' G => σ' = [some (.str z), some (.int (i : Int)), some (.str (why l r)), none, none] ∧ G = H, ?_, ?_⟩
    · refine st_if (b := decide (l = [])) (ans_v (val_is (val_eq (val_var rfl) (val_cb (va_one (val_var rfl)) fun Q q => ⟨z, rfl, szB (Nat.le_succ_of_le hz), q⟩) rfl) (by
        congr 1
        rw [decide_eq_decide]
        exact ⟨fun h => by
          have := V.int.inj h
          exact List.eq_nil_of_length_eq_zero (by omega), fun h => by
          subst h
          rw [List.length_nil] at hlen
          congr 1
          omega⟩))) (fun hb => ?_) (fun hb => ?_)
      · obtain rfl := of_decide_eq_true hb
        exact go_asg ⟨rfl, rfl⟩
      · obtain ⟨c, r', rfl⟩ : ∃ c r', l = c :: r' := by
          cases l with
          | nil => cases hb
          | cons c r' => exact ⟨_, _, rfl⟩
        have chV : Val (tOp rIxS (tVar 0) (tVar 1)) [some (.str z), some (.int (i : Int)), some (.str r), none, none] H (.str (sL [c])) := val_op (val_var rfl) (val_var rfl) fun Q q => ⟨z, i, c, rfl, rfl, szB (Nat.le_succ_of_le hz), atI_nat hl.ne.2, q⟩
        refine st_if (b := !sgB c) (ans_not (ans_val (val_call (va_one chV) fun Q q => ⟨c, rfl, q⟩))) (fun hb => ?_) (fun hb => ?_)
        · have hs : sgB c = false := by cases q : sgB c with | false => rfl | true => rw [q] at hb; cases hb
          refine go_asg ⟨?_, rfl⟩
          show _ = [_, _, some (V.str (bif sgB c then r else "character")), _, _]
          rw [hs]
          rfl
        · have hs : sgB c = true := by cases q : sgB c with | true => rfl | false => rw [q] at hb; cases hb
          refine ⟨?_, rfl⟩
          show _ = [_, _, some (V.str (bif sgB c then r else "character")), _, _]
          rw [hs]
          rfl
    · rintro σ' G ⟨rfl, rfl⟩
      refine st_seq (go_asg (val_I (i := Txt.countIn z "\n" 0 (i : Int)) (fun Q q => ⟨_, rfl, rfl, _, rfl, z, "\n", 0, i, rfl, rfl, q⟩) val_c _ ?_))
      dsimp only [gName]
      refine st_seq (go_asg (val_I (j := Txt.rfindIn z "\n" 0 (i : Int)) (val_var rfl) (fun Q q => ⟨_, rfl, rfl, _, rfl, z, "\n", 0, i, rfl, rfl, q⟩) _ ?_))
      dsimp only [gName]
      refine st_raise3 (W := fun cls d _ H => E cls d H) T.ox_TextError T.na_TextError_line T.na_TextError_column T.na_TextError_reason (val_var rfl) (val_var rfl) (val_var rfl) fun d hd => ?_
      exact k d _ (ex_none hx hd) (hx.trans (Ex.new hd)) upd_same
/-- _refuse(text, place, reason) -/
theorem rd_refuse {D : Ends} {σ : L2.St} {H H0 : Hp} {E : XK} {ta tb : TE} {z r : Str} {i : Nat} {l : List Nat} (h1 : Val ta σ H (.str z)) (h2 : Val tb σ H (.int (i : Int))) (hx : Ex H0 H) (hl : remS z i l) (hz : z.cps.size ≤ 200000) (hb : BadR K H0 E z i (why l r)) :
    tDrop (tCall (spRefuse K) [] E (tCons ta (tCons tb (tCons (tC (.str r)) tNil)))) D σ H := h1 _ (h2 _ ⟨H0, z, i, l, r, rfl, hx, hl, hz, hb⟩)
theorem ok_Reading_begins (T : TX K mg) : Can P w K mg base CX0 1 (He.fAd K at_Reading_begins) ps_Reading_begins [] (spBegins K) := mk_Reading_begins T fun fd F => def0 F sc_Reading_begins (fun vs H Q E h => by
  obtain ⟨o, wd, z, i, n, st, l, rfl, _⟩ := h
  rfl) fun cdv A outer s H vs Q E hr h => by
  obtain ⟨o, wd, z, i, n, st, l, rfl, R, hl, k⟩ := h
  refine ⟨_, (pss_one (ps_ret (eBm K rfl PySem.F.plainAttrs_str PySem.F.slot_str_startswith PySem.F.type_str_startswith mt_startswith3 (eFld K rfl (pv 0) rfl) (pa_cons (pv 1) (pa_cons (eFld K rfl (pv 0) rfl) pa_nil))))), ?_⟩
  obtain ⟨f1, f2, _, _⟩ := rd_fld (K := K) (mg := mg) T R (σ := [some (.ref o), some (.str wd)]) rfl
  refine go_ret (f1 _ ⟨rfl, _, rfl, f2 _ ⟨z, wd, i, rfl, rfl, ?_⟩⟩)
  rw [sw3 hl]
  exact k
theorem rd_begins {σ : L2.St} {H : Hp} {o : Addr} {z wd : Str} {i n : Nat} {st : Addr} {l : List Nat} {te : TE} (R : RdO K H o z i n st) (hl : remS z i l) (hσ : σ[0]? = some (some (.ref o))) (h : Val te σ H (.str wd)) {Q : VK}
    (q : Q (.bl (decide (l.take wd.cps.toList.length = wd.cps.toList))) H) : tMeth (He.ga K "Reading") "begins" (spBegins K) [] E0 (tVar 0) (tCons te tNil) σ H Q := by
  obtain ⟨dx, hR⟩ := R
  exact ⟨_, hσ, o, dx, _, rfl, hR, fn_Reading_begins .., h _ ⟨o, wd, z, i, n, st, l, rfl, ⟨dx, hR⟩, hl, q⟩⟩
theorem take_one (l : List Nat) (c : Nat) : decide (l.take 1 = [c]) = decide (l.head? = some c) := by
  cases l with
  | nil => rfl
  | cons d r =>
    show decide ([d] = [c]) = decide (some d = some c)
    rw [decide_eq_decide]
    exact ⟨fun h => by cases h; rfl, fun h => by cases h; rfl⟩
/-- self.begins('c') -/
theorem rd_begin1 {σ : L2.St} {H : Hp} {o : Addr} {z wd : Str} {i n c : Nat} {st : Addr} {l : List Nat} (R : RdO K H o z i n st) (hl : remS z i l) (hσ : σ[0]? = some (some (.ref o))) (hw : wd.cps.toList = [c]) :
    Val (tMeth (He.ga K "Reading") "begins" (spBegins K) [] E0 (tVar 0) (tCons (tC (.str wd)) tNil)) σ H (.bl (decide (l.head? = some c))) := fun Q q => by
  refine rd_begins (K := K) R hl hσ val_c ?_
  rw [hw, show ([c] : List Nat).length = 1 from rfl, take_one]
  exact q
def signW : List (List Str) := [["&lt;", "<"], ["&gt;", ">"], ["&amp;", "&"]]
theorem w_lt : ("&lt;" : Str).cps.toList = [38, 108, 116, 59] := by decide +kernel
theorem w_gt : ("&gt;" : Str).cps.toList = [38, 103, 116, 59] := by decide +kernel
theorem w_amp : ("&amp;" : Str).cps.toList = [38, 97, 109, 112, 59] := by decide +kernel
/-- the j-th written sign does not stand here -/
def notW (l : List Nat) (j : Nat) : Prop := match j with
  | 0 => l.take 4 ≠ [38, 108, 116, 59]
  | 1 => l.take 4 ≠ [38, 103, 116, 59]
  | 2 => l.take 5 ≠ [38, 97, 109, 112, 59]
  | _ => True
theorem signW_at {l : List Nat} {j : Nat} {zs : List Str} (h : signW[j]? = some zs) : ∃ (k s : Nat) (wd sg : Str), zs = [wd, sg] ∧ sg = sL [s] ∧ wd.cps.toList.length = k ∧ (l.take k = wd.cps.toList → (∀ m < j, notW l m) → rdNext l = some (l.drop k, k, s)) ∧ (l.take k ≠ wd.cps.toList → notW l j) := by
  match j, h with
  | 0, h =>
    cases h
    refine ⟨4, 60, _, _, rfl, by decide +kernel, by rw [w_lt]; rfl, fun e _ => ?_, fun e => by rw [w_lt] at e; exact e⟩
    rw [w_lt] at e
    unfold rdNext
    rw [if_pos e]
  | 1, h =>
    cases h
    refine ⟨4, 62, _, _, rfl, by decide +kernel, by rw [w_gt]; rfl, fun e no => ?_, fun e => by rw [w_gt] at e; exact e⟩
    rw [w_gt] at e
    unfold rdNext
    rw [if_neg (no 0 (by decide)), if_pos e]
  | 2, h =>
    cases h
    refine ⟨5, 38, _, _, rfl, by decide +kernel, by rw [w_amp]; rfl, fun e no => ?_, fun e => by rw [w_amp] at e; exact e⟩
    rw [w_amp] at e
    unfold rdNext
    rw [if_neg (no 0 (by decide)), if_neg (no 1 (by decide)), if_pos e]
  | n + 3, h => cases h
theorem rdNext_one {l : List Nat} (no : ∀ m < 3, notW l m) : rdNext l = match l with
    | [] => none
    | c :: r => bif sgB c && !(Nat.beq c 38) && !(Nat.beq c 62) then some (r, 1, c) else none := by
  unfold rdNext
  rw [if_neg (no 0 (by decide)), if_neg (no 1 (by decide)), if_neg (no 2 (by decide))]
  cases l <;> rfl
theorem ok_Reading_next_sign (T : TX K mg) : Can P w K mg base (L2.CX P w) 5 (He.fAd K at_Reading_next_sign) ps_Reading_next_sign [] (spNext K) := by
  obtain ⟨fd_Reading_begins, G_Reading_begins, ds_Reading_begins, v_Reading_begins, b_Reading_begins⟩ := ok_Reading_begins (P := P) (w := w) (base := base) T
  obtain ⟨fd_is_sign, G_is_sign, ds_is_sign, v_is_sign, b_is_sign⟩ := ok_is_sign (P := P) (w := w) (base := base) T
  obtain ⟨fd__refuse, G__refuse, ds__refuse, v__refuse, b__refuse⟩ := ok__refuse (P := P) (w := w) (base := base) T
  exact mk_Reading_next_sign T fun fd F => defX F sc_Reading_next_sign (fun vs H Q E h => by
    obtain ⟨H0, o, z, i, n, st, l, rfl, _⟩ := h
    rfl) fun cdv A outer s H vs Q E hr h => by
    obtain ⟨H0, o, z, i, n, st, l, rfl, R, hl, hz, hx, kno, kok⟩ := h
    refine ⟨_, (pss_cons (ps_for (passes_of rfl) rfl (iTpl K rfl (pe_glob (v := .ref (He.ga K "WRITTEN_SIGNS")) rfl T.g_WRITTEN_SIGNS rfl)) (pg_tup rfl (pgs_cons (pg_name (i := 1) sc_Reading_next_sign.nd rfl (Or.inl rfl)) (pgs_cons (pg_name (i := 2) sc_Reading_next_sign.nd rfl (Or.inl rfl)) pgs_nil)))
  (pss_one (ps_if (pt_val (pe_meth (pv 0) T.cl_Reading T.me_Reading_begins G_Reading_begins (hr.mono (by first | decide | omega)) b_Reading_begins v_Reading_begins pass0 (pa_cons (pv 1) pa_nil))) (pss_one (ps_ret (pe_tup (pa_cons (pv 1) (pa_cons (pv 2) pa_nil))))) pss_nil)))
  (pss_cons (ps_set (i := 3) sc_Reading_next_sign.nd rfl (Or.inl rfl) (eFld K rfl (pv 0) rfl))
  (pss_cons (ps_if (PW.pt (pw_or (pt_cmpR op_eq (pv 3) (pe_callB call_len_str (by rfl) T.n_len PySem.boot_len (pa_cons (eFld K rfl (pv 0) rfl) pa_nil)) (nomark _)) (pw_or (pt_not (pt_val (pe_call G_is_sign (hr.mono (by first | decide | omega)) rfl T.g_is_sign T.k_is_sign b_is_sign v_is_sign pass0 (pa_cons (pe_ix ix_str (eFld K rfl (pv 0) rfl) (pv 3) (fun _ _ => rfl)) pa_nil)))) (pw_or1 (pt_cmpR op_in_str (pe_ix ix_str (eFld K rfl (pv 0) rfl) (pv 3) (fun _ _ => rfl)) pe_str (by rfl)))))) (pss_one (ps_expr (pe_call G__refuse (hr.mono (by first | decide | omega)) rfl T.g__refuse T.k__refuse b__refuse v__refuse (passes_call (takes_of rfl rfl rfl rfl) (fun _ _ _ _ h => h)) (pa_cons (eFld K rfl (pv 0) rfl) (pa_cons (pv 3) (pa_cons pe_str pa_nil)))))) pss_nil)
  (pss_one (ps_ret (pe_tup (pa_cons (pe_ix ix_str (eFld K rfl (pv 0) rfl) (pv 3) (fun _ _ => rfl)) (pa_cons (pe_ix ix_str (eFld K rfl (pv 0) rfl) (pv 3) (fun _ _ => rfl)) pa_nil)))))))), ?_⟩
    have hlen := hl.len
    have hzl : z.length = z.cps.size := rfl
    obtain ⟨as, ha1, ha2, ha3⟩ := T.tu_WRITTEN_SIGNS
    refine st_seq ⟨_, rfl, ⟨_, ha2 H⟩, for_it (walk_tup (K := K)) (fun j σ G => ∃ v1 v2 : Option V, σ = [some (.ref o), v1, v2, none] ∧ G = H ∧ ∀ m < j, notW l m) ⟨_, _, rfl, rfl, fun m hm => by omega⟩ (fun j σ G _ _ => ha2 G) ?_ ?_⟩
    · rintro j y σ G G' hj ⟨v1, v2, rfl, rfl, hno⟩ ⟨rfl, hy⟩
      have hj' : j < as.length := by rw [List.length_map] at hj; exact hj
      rw [List.getElem?_map, List.getElem?_eq_getElem hj'] at hy
      obtain rfl := Option.some.inj hy
      have hj3 : j < signW.length := by rw [ha1] at hj'; exact hj'
      obtain ⟨k, s0, wd, sg, hzs, hsg, hk, hyes, hnot⟩ := signW_at (l := l) (List.getElem?_eq_getElem hj3)
      have hb : SqT K G' as[j] ([wd, sg].map V.str) := ha3 j _ _ (List.getElem?_eq_getElem hj') (by rw [← hzs]; exact List.getElem?_eq_getElem hj3) G'
      refine ⟨_, _, rfl, hb, rfl, _, _, rfl, _, _, rfl, rfl, ?_⟩
      refine rd_begins (K := K) R hl rfl (val_var rfl) ⟨_, rfl, ?_⟩
      rw [hk]
      by_cases e : l.take k = wd.cps.toList
      · rw [decide_eq_true e]
        have hwd : wd = sL (l.take k) := sL_ext e.symm
        subst hsg
        refine iteT ⟨_, rfl, _, rfl, by show 2 ≤ sizeLine; decide, fun p hp => kok _ _ _ (hyes e hno) p _ hp (Ex.new hp) (by rw [← hwd]; exact upd_same)⟩
      · rw [decide_eq_false e]
        refine iteF ⟨_, _, rfl, rfl, fun m hm => ?_⟩
        by_cases hmj : m < j
        · exact hno m hmj
        · obtain rfl : m = j := by omega
          exact hnot e
    · rintro σ G ⟨v1, v2, rfl, rfl, hno⟩
      rw [List.length_map, ha1] at hno
      have hN := rdNext_one hno
      have f := fun (σ : L2.St) (hσ : σ[0]? = some (some (.ref o))) => rd_fld (K := K) T R hσ
      dsimp only
      refine st_seq (go_asg ((f _ rfl).2.1 _ ?_))
      dsimp only [gName]
      have vEnd : Ans (tTest (tOp rEq (tVar 3) (tCB (fun xs H Q => ∃ z, xs = [V.str z] ∧ z.length ≤ sizeLine ∧ Q (V.int (z.length : Int)) H) (tCons (tFld K (tVar 0) "source") tNil)))) [some (.ref o), v1, v2, some (.int (i : Int))] G (decide (l = [])) := ans_v (val_is (val_eq (val_var rfl) (val_cb (va_one (f _ rfl).1) fun Q q => ⟨z, rfl, szB (by omega), q⟩) rfl) (by
        congr 1
        rw [decide_eq_decide]
        exact ⟨fun h => by
          have := V.int.inj h
          exact List.eq_nil_of_length_eq_zero (by omega), fun h => by
          subst h
          rw [List.length_nil] at hlen
          congr 1
          omega⟩))
      cases l with
      | nil =>
        refine st_seq (st_if (ans_or1 vEnd) (fun _ => ?_) nofun)
        exact rd_refuse (f _ rfl).1 (val_var rfl) hx hl hz (kno hN)
      | cons c r =>
        have hne := hl.ne
        have chV : ∀ {σ : L2.St}, σ[0]? = some (some (.ref o)) → σ[3]? = some (some (.int (i : Int))) → Val (tOp rIxS (tFld K (tVar 0) "source") (tVar 3)) σ G (.str (sL [c])) := fun h0 h3 => val_op (f _ h0).1 (val_var h3) fun Q q => ⟨z, i, c, rfl, rfl, szB (by omega), atI_nat hne.2, q⟩
        have hin : (!(Builtin.Str.occurrences "&>" (sL [c]) 0 (("&>" : Str)).length 1).isEmpty) = (Nat.beq c 38 || Nat.beq c 62) := by
          have := StrLaws.found_one "&>" c
          rw [show ("&>" : Str).cps.toList = [38, 62] by decide +kernel] at this
          have e1 : (!(Builtin.Str.occurrences "&>" (sL [c]) 0 (("&>" : Str)).length 1).isEmpty) = decide (c ∈ [38, 62]) := this
          rw [e1]
          have e2 : ∀ x : Nat, Nat.beq c x = decide (c = x) := fun x => by
            cases q : Nat.beq c x with
            | true => exact (decide_eq_true (Nat.eq_of_beq_eq_true q)).symm
            | false => exact (decide_eq_false fun e => by rw [e, Nat.beq_refl] at q; cases q).symm
          rw [e2, e2, ← Bool.decide_or, decide_eq_decide]
          simp
        refine st_seq (st_if (b := decide (c :: r = []) || (!sgB c || (Nat.beq c 38 || Nat.beq c 62))) (ans_or2 vEnd fun _ => ans_or2 (ans_not (ans_val (val_call (va_one (chV rfl rfl)) fun Q q => ⟨c, rfl, q⟩))) fun _ => ans_v (val_is (val_op (chV rfl rfl) val_c fun Q q => ⟨_, _, rfl, rfl, q⟩) (by rw [hin]))) (fun hb => ?_) (fun hb => ?_))
        · refine rd_refuse (f _ rfl).1 (val_var rfl) hx hl hz (kno ?_)
          rw [hN]
          have : (sgB c && !(Nat.beq c 38) && !(Nat.beq c 62)) = false := by
            rw [show decide (c :: r = []) = false from rfl] at hb
            revert hb
            cases sgB c <;> cases Nat.beq c 38 <;> cases Nat.beq c 62 <;> decide
          show (bif (sgB c && !(Nat.beq c 38) && !(Nat.beq c 62)) then some (r, 1, c) else none) = none
          rw [this]
          rfl
        · have : (sgB c && !(Nat.beq c 38) && !(Nat.beq c 62)) = true := by
            rw [show decide (c :: r = []) = false from rfl] at hb
            revert hb
            cases sgB c <;> cases Nat.beq c 38 <;> cases Nat.beq c 62 <;> decide
          have hN2 : rdNext (c :: r) = some (r, 1, c) := by
            rw [hN]
            show (bif (sgB c && !(Nat.beq c 38) && !(Nat.beq c 62)) then some (r, 1, c) else none) = _
            rw [this]
            rfl
          exact (chV rfl rfl) _ ((chV rfl rfl) _ ⟨by show 2 ≤ sizeLine; decide, fun p hp => kok _ _ _ hN2 p _ hp (Ex.new hp) upd_same⟩)
theorem ok_Reading_count_node (T : TX K mg) : Can P w K mg base (L2.CX P w) 5 (He.fAd K at_Reading_count_node) ps_Reading_count_node [] (spCount K) := by
  obtain ⟨fd__refuse, G__refuse, ds__refuse, v__refuse, b__refuse⟩ := ok__refuse (P := P) (w := w) (base := base) T
  exact mk_Reading_count_node T fun fd F => defX F sc_Reading_count_node (fun vs H Q E h => by
    obtain ⟨H0, o, z, i, n, st, xs, l, rfl, _⟩ := h
    rfl) fun cdv A outer s H vs Q E hr h => by
    obtain ⟨H0, o, z, i, n, st, xs, l, rfl, R, hl, hz, hx, hxs, h100, kno, kok⟩ := h
    refine ⟨_, (pss_cons (ps_if (pt_cmpR op_gt (pe_callB (cLen K rfl) (by rfl) T.n_len PySem.boot_len (pa_cons (eFld K rfl (pv 0) rfl) pa_nil)) (pe_glob (v := .int 60) rfl T.c_MOST_DEPTH.choose_spec ⟨_, rfl⟩) (nomark _)) (pss_one (ps_expr (pe_call G__refuse (hr.mono (by first | decide | omega)) rfl T.g__refuse T.k__refuse b__refuse v__refuse (passes_call (takes_of rfl rfl rfl rfl) (fun _ _ _ _ h => h)) (pa_cons (eFld K rfl (pv 0) rfl) (pa_cons (eFld K rfl (pv 0) rfl) (pa_cons pe_str pa_nil)))))) pss_nil)
  (pss_cons (ps_if (pt_cmpR op_eq (eFld K rfl (pv 0) rfl) (pe_glob (v := .int 5000) rfl T.c_MOST_NODES.choose_spec ⟨_, rfl⟩) (nomark _)) (pss_one (ps_expr (pe_call G__refuse (hr.mono (by first | decide | omega)) rfl T.g__refuse T.k__refuse b__refuse v__refuse (passes_call (takes_of rfl rfl rfl rfl) (fun _ _ _ _ h => h)) (pa_cons (eFld K rfl (pv 0) rfl) (pa_cons (eFld K rfl (pv 0) rfl) (pa_cons pe_str pa_nil)))))) pss_nil)
  (pss_one (sFdAug K rfl in_add (pv 0) pe_int)))), ?_⟩
    obtain ⟨f1, f2, f3, f4⟩ := rd_fld (K := K) (mg := mg) T R (σ := [some (.ref o)]) rfl
    unfold cntR at kno kok
    refine st_seq (st_if (b := decide (60 < xs.length)) (ans_v (val_is (val_I (val_lenL f4 hxs) val_c) (by
      congr 1
      rw [decide_eq_decide]
      omega))) (fun hb => ?_) (fun hb => ?_))
    · rw [if_pos (of_decide_eq_true hb)] at kno
      exact rd_refuse f1 f2 hx hl hz (kno _ rfl)
    rw [if_neg (of_decide_eq_false hb)] at kno kok
    dsimp only [tNext]
    refine st_seq (st_if (b := decide (n = 5000)) (ans_v (val_is (val_eq f3 val_c rfl) (by
      congr 1
      rw [decide_eq_decide]
      exact ⟨fun e => by have := V.int.inj e; omega, fun e => by rw [e]; rfl⟩))) (fun hb => ?_) (fun hb => ?_))
    · rw [if_pos (of_decide_eq_true hb)] at kno
      exact rd_refuse f1 f2 hx hl hz (kno _ rfl)
    rw [if_neg (of_decide_eq_false hb)] at kok
    dsimp only [tNext]
    obtain ⟨dx, hR⟩ := R
    refine ⟨_, rfl, o, _, dx, _, _, rfl, hR, T.cl_Reading, T.na_Reading_nodes, fl_Reading_nodes .., _, _, rfl, rfl, dx, _, hR, fn_len .., ?_⟩
    rw [pu_nodes]
    exact kok rfl _ ⟨dx, upd_same⟩ Kp.up
theorem ok_Reading_read_tag_end (T : TX K mg) : Can P w K mg base (L2.CX P w) 5 (He.fAd K at_Reading_read_tag_end) ps_Reading_read_tag_end [] (spTagEnd K) := by
  obtain ⟨fd_Reading_begins, G_Reading_begins, ds_Reading_begins, v_Reading_begins, b_Reading_begins⟩ := ok_Reading_begins (P := P) (w := w) (base := base) T
  obtain ⟨fd__refuse, G__refuse, ds__refuse, v__refuse, b__refuse⟩ := ok__refuse (P := P) (w := w) (base := base) T
  exact mk_Reading_read_tag_end T fun fd F => defX F sc_Reading_read_tag_end (fun vs H Q E h => by
    obtain ⟨H0, o, z, i, n, st, l, rfl, _⟩ := h
    rfl) fun cdv A outer s H vs Q E hr h => by
    obtain ⟨H0, o, z, i, n, st, l, rfl, R, hl, hz, hx, kno, kok⟩ := h
    refine ⟨_, (pss_cons (ps_if (pt_not (pt_val (pe_meth (pv 0) T.cl_Reading T.me_Reading_begins G_Reading_begins (hr.mono (by first | decide | omega)) b_Reading_begins v_Reading_begins pass0 (pa_cons pe_str pa_nil)))) (pss_one (ps_expr (pe_call G__refuse (hr.mono (by first | decide | omega)) rfl T.g__refuse T.k__refuse b__refuse v__refuse (passes_call (takes_of rfl rfl rfl rfl) (fun _ _ _ _ h => h)) (pa_cons (eFld K rfl (pv 0) rfl) (pa_cons (eFld K rfl (pv 0) rfl) (pa_cons pe_str pa_nil)))))) pss_nil)
  (pss_one (sFdAug K rfl in_add (pv 0) pe_int))), ?_⟩
    have hgt : (">" : Str).cps.toList = [62] := by decide +kernel
    obtain ⟨f1, f2, f3, f4⟩ := rd_fld (K := K) (mg := mg) T R (σ := [some (.ref o)]) rfl
    refine st_seq (st_if (ans_not (ans_v (rd_begin1 (K := K) R hl rfl hgt))) (fun hb => ?_) (fun hb => ?_))
    · exact rd_refuse f1 f2 hx hl hz (kno fun q => by rw [decide_eq_true q] at hb; cases hb)
    have hn : l.head? = some 62 := by simpa using hb
    dsimp only [tNext]
    obtain ⟨dx, hR⟩ := R
    refine ⟨_, rfl, o, _, dx, _, _, rfl, hR, T.cl_Reading, T.na_Reading_reached, fl_Reading_reached .., _, _, rfl, rfl, dx, _, hR, fn_len .., ?_⟩
    rw [pu_reached]
    exact kok hn _ ⟨dx, upd_same⟩ Kp.up
theorem ok_Reading_read_name (T : TX K mg) : Can P w K mg base (L2.CX P w) 5 (He.fAd K at_Reading_read_name) ps_Reading_read_name [] (spName K) := by
  obtain ⟨fd_is_letter, G_is_letter, ds_is_letter, v_is_letter, b_is_letter⟩ := ok_is_letter (P := P) (w := w) (base := base) T
  obtain ⟨fd__refuse, G__refuse, ds__refuse, v__refuse, b__refuse⟩ := ok__refuse (P := P) (w := w) (base := base) T
  exact mk_Reading_read_name T fun fd F => defX F sc_Reading_read_name (fun vs H Q E h => by
    obtain ⟨H0, o, z, i, n, st, a, l, rfl, _⟩ := h
    rfl) fun cdv A outer s H vs Q E hr h => by
    obtain ⟨H0, o, z, i, n, st, a, l, rfl, R, hl, hz, hx, kno, kok⟩ := h
    refine ⟨_, (pss_cons (ps_set (i := 2) sc_Reading_read_name.nd rfl (Or.inl rfl) (pv 1))
  (pss_cons (ps_while (passes_of rfl) (PW.pt (pw_and (pt_cmpR op_lt (pv 2) (pe_callB call_len_str (by rfl) T.n_len PySem.boot_len (pa_cons (eFld K rfl (pv 0) rfl) pa_nil)) (nomark _)) (pw_and1 (pt_val (pe_call G_is_letter (hr.mono (by first | decide | omega)) rfl T.g_is_letter T.k_is_letter b_is_letter v_is_letter pass0 (pa_cons (pe_ix ix_str (eFld K rfl (pv 0) rfl) (pv 2) (fun _ _ => rfl)) pa_nil))))))
  (pss_one (ps_aug (i := 2) sc_Reading_read_name.nd rfl (Or.inl rfl) pe_int ip_add)))
  (pss_cons (ps_if (pt_not (pt_chain op_le op_le pe_int (pe_op op_sub (pv 2) (pv 1)) (pe_glob (v := .int 12) rfl T.c_NAME_LETTERS.choose_spec ⟨_, rfl⟩))) (pss_one (ps_expr (pe_call G__refuse (hr.mono (by first | decide | omega)) rfl T.g__refuse T.k__refuse b__refuse v__refuse (passes_call (takes_of rfl rfl rfl rfl) (fun _ _ _ _ h => h)) (pa_cons (eFld K rfl (pv 0) rfl) (pa_cons (pv 1) (pa_cons pe_str pa_nil)))))) pss_nil)
  (pss_cons (sFd K rfl (pv 0) (pv 2) rfl)
  (pss_one (ps_ret (pe_slice sl_str (eFld K rfl (pv 0) rfl) (po_some (pv 1)) (po_some (pv 2))))))))), ?_⟩
    have f := fun (σ : L2.St) (hσ : σ[0]? = some (some (.ref o))) => rd_fld (K := K) T R hσ
    have hlen := hl.len
    have hrun := runL_le letB l
    have hzl : z.length = z.cps.size := rfl
    have chV : ∀ {σ : L2.St} (j c : Nat), σ[0]? = some (some (.ref o)) → σ[2]? = some (some (.int ((a : Int) + (j : Int)))) → l[j]? = some c → Val (tOp rIxS (tFld K (tVar 0) "source") (tVar 2)) σ H (.str (sL [c])) := fun j c h0 h2 e => val_op (f _ h0).1 (val_var h2) fun Q q => ⟨z, _, c, rfl, rfl, szB (by omega), (by
      have := atI_nat (hl.get.trans e)
      rwa [Int.natCast_add] at this), q⟩
    refine st_seq (go_asg ⟨_, rfl, ?_⟩)
    dsimp only [gName]
    refine st_seq ⟨fun m σ G => ∃ j : Nat, σ = [some (.ref o), some (.int (a : Int)), some (.int ((a : Int) + (j : Int)))] ∧ m = runL letB l - j ∧ j ≤ runL letB l ∧ G = H, ⟨_, 0, by rw [show (a : Int) + ((0 : Nat) : Int) = a by omega] <;> rfl, rfl, Nat.zero_le _, rfl⟩, ?_⟩
    rintro m σ G ⟨j, rfl, rfl, hj, rfl⟩
    have cond : Ans (tAnd (tTest (tOp (rI0 fun i j => V.bl (decide (i < j))) (tVar 2) (tCB (fun xs H Q => ∃ z, xs = [V.str z] ∧ z.length ≤ sizeLine ∧ Q (V.int (z.length : Int)) H) (tCons (tFld K (tVar 0) "source") tNil)))) (tB (tCall spLetter2 [] E0 (tCons (tOp rIxS (tFld K (tVar 0) "source") (tVar 2)) tNil)))) [some (.ref o), some (.int (a : Int)), some (.int ((a : Int) + (j : Int)))] G (decide (j < runL letB l)) := by
      obtain ⟨r1, r2⟩ := runL_at letB l j
      refine ans_is (ans_and3 (a := decide (j < l.length)) (b := decide (j < runL letB l)) (ans_v (val_is (val_I (val_var rfl) (val_cb (va_one (f _ rfl).1) fun Q q => ⟨z, rfl, szB (by omega), q⟩)) (by
        congr 1
        rw [decide_eq_decide]
        omega))) fun hjl => ?_) ?_
      · have hjl := of_decide_eq_true hjl
        have e : l[j]? = some l[j] := List.getElem?_eq_getElem hjl
        refine ans_val (val_call (va_one (chV j _ rfl rfl e)) fun Q q => ⟨_, rfl, ?_⟩)
        by_cases hjr : j < runL letB l
        · obtain ⟨c, hc, hb⟩ := r1 hjr
          rw [e] at hc
          rw [Option.some.inj hc, hb]
          rw [decide_eq_true hjr] at q
          exact q
        · have hb := r2 (by omega) _ e
          rw [hb]
          rw [decide_eq_false hjr] at q
          exact q
      · by_cases hjr : j < runL letB l
        · rw [decide_eq_true hjr, decide_eq_true (by omega)]
          rfl
        · rw [decide_eq_false hjr, Bool.and_false]
    refine cond _ ?_
    by_cases hjr : j < runL letB l
    · rw [decide_eq_true hjr]
      refine iteT ⟨fun σ' G' => ∃ m', m' < runL letB l - j ∧ ∃ j : Nat, σ' = [some (.ref o), some (.int (a : Int)), some (.int ((a : Int) + (j : Int)))] ∧ m' = runL letB l - j ∧ j ≤ runL letB l ∧ G' = G, fun _ _ h => h, ?_⟩
      refine ⟨_, rfl, _, _, rfl, rfl, _, by omega, j + 1, ?_, rfl, by omega, rfl⟩
      rw [show (a : Int) + ((j + 1 : Nat) : Int) = (a : Int) + (j : Int) + 1 by omega]
      rfl
    · obtain rfl : j = runL letB l := by omega
      rw [decide_eq_false hjr]
      refine iteF ?_
      dsimp only
      refine st_seq (st_if (b := !nameOk l) (ans_is (ans_not (ans_v (val_chain (g := fun i j => decide (i ≤ j)) (g' := fun i j => decide (i ≤ j)) val_c (val_I (val_var rfl) (val_var rfl)) val_c))) (by
        have e : ∀ (x y : Nat) (u v : Int), u = x → v = y → decide (u ≤ v) = Nat.ble x y := fun x y u v hu hv => by
          cases q : Nat.ble x y with
          | true => exact decide_eq_true (by have := Nat.le_of_ble_eq_true q; omega)
          | false => exact decide_eq_false fun z => by rw [Nat.ble_eq_true_of_le (by omega)] at q; cases q
        rw [e 1 (runL letB l) 1 _ rfl (by omega), e (runL letB l) 12 _ 12 (by omega) rfl]
        rfl)) (fun hb => ?_) (fun hb => ?_))
      · exact rd_refuse (f _ rfl).1 (val_var rfl) hx hl hz (kno (by cases q : nameOk l with | false => rfl | true => rw [q] at hb; cases hb))
      have hok : nameOk l = true := by cases q : nameOk l with | true => rfl | false => rw [q] at hb; cases hb
      dsimp only [tNext]
      obtain ⟨dx, hR⟩ := id R
      refine st_seq ⟨_, rfl, _, rfl, o, _, dx, _, rfl, hR, T.cl_Reading, T.na_Reading_reached, fn_len .., ?_⟩
      rw [pu_reached, show (a : Int) + (runL letB l : Int) = ((a + runL letB l : Nat) : Int) by omega]
      have R' : RdO K (upd G o (.ins (He.ga K "Reading") dx (flds_Reading (.str z) (.int ((a + runL letB l : Nat) : Int)) (.int (n : Int)) (.ref st)))) o z (a + runL letB l) n st := ⟨dx, upd_same⟩
      dsimp only
      refine go_ret ?_
      refine (rd_fld (K := K) T R' (σ := [some (.ref o), some (.int (a : Int)), some (.int ((a + runL letB l : Nat) : Int))]) rfl).1 _ ?_
      refine ⟨_, rfl, _, rfl, _, rfl, _, rfl, z, rfl, szB (by omega), ?_⟩
      rw [hl.cut]
      exact kok hok _ R' Kp.up
theorem kids_len {H0 G : Hp} {o : Addr} (e : Ex H0 G) {G' : Hp} (k : Kp [o] G G') (h : H0 o = none) : Ex H0 G' := ex_kp e k fun a ha => by rw [List.mem_singleton.mp ha]; exact h
theorem ok_Reading_read_text (T : TX K mg) : Can P w K mg base (L2.CX P w) 6 (He.fAd K at_Reading_read_text) ps_Reading_read_text [] (spText K) := by
  obtain ⟨fd_Reading_begins, G_Reading_begins, ds_Reading_begins, v_Reading_begins, b_Reading_begins⟩ := ok_Reading_begins (P := P) (w := w) (base := base) T
  obtain ⟨fd_Reading_next_sign, G_Reading_next_sign, ds_Reading_next_sign, v_Reading_next_sign, b_Reading_next_sign⟩ := ok_Reading_next_sign (P := P) (w := w) (base := base) T
  obtain ⟨fd_Reading_count_node, G_Reading_count_node, ds_Reading_count_node, v_Reading_count_node, b_Reading_count_node⟩ := ok_Reading_count_node (P := P) (w := w) (base := base) T
  obtain ⟨fd__refuse, G__refuse, ds__refuse, v__refuse, b__refuse⟩ := ok__refuse (P := P) (w := w) (base := base) T
  exact mk_Reading_read_text T fun fd F => defX F sc_Reading_read_text (fun vs H Q E h => by
    obtain ⟨H0, o, z, i, n, st, t, lp, pre, vs', nv, l, rfl, _⟩ := h
    rfl) fun cdv A outer s H vs Q E hr h => by
    obtain ⟨H0, o, z, i, n, st, t, lp, pre, vs', nv, l, rfl, R, hl, hz, hx, hxo, hst, htt, hlp, hvl, hpre, kno, kok⟩ := h
    refine ⟨_, (pss_cons (ps_set (i := 1) sc_Reading_read_text.nd rfl (Or.inl rfl) (pe_lst pa_nil))
  (pss_cons (ps_while (passes_of rfl) (pt_not (pt_val (pe_meth (pv 0) T.cl_Reading T.me_Reading_begins G_Reading_begins (hr.mono (by first | decide | omega)) b_Reading_begins v_Reading_begins pass0 (pa_cons pe_str pa_nil))))
  (pss_cons (ps_asg (pe_meth0 (pv 0) T.cl_Reading T.me_Reading_next_sign G_Reading_next_sign (hr.mono (by first | decide | omega)) b_Reading_next_sign v_Reading_next_sign (passes_call (takes_of rfl rfl rfl rfl) (fun _ _ _ _ h => h))) (pg_tup rfl (pgs_cons (pg_name (i := 2) sc_Reading_read_text.nd rfl (Or.inl rfl)) (pgs_cons (pg_name (i := 3) sc_Reading_read_text.nd rfl (Or.inl rfl)) pgs_nil))))
  (pss_cons (ps_if (pt_cmpR op_eq (pe_callB (cLen K rfl) (by rfl) T.n_len PySem.boot_len (pa_cons (pv 1) pa_nil)) (pe_glob (v := .int 200) rfl T.c_TEXT_CHARACTERS.choose_spec ⟨_, rfl⟩) (nomark _)) (pss_one (ps_expr (pe_call G__refuse (hr.mono (by first | decide | omega)) rfl T.g__refuse T.k__refuse b__refuse v__refuse (passes_call (takes_of rfl rfl rfl rfl) (fun _ _ _ _ h => h)) (pa_cons (eFld K rfl (pv 0) rfl) (pa_cons (eFld K rfl (pv 0) rfl) (pa_cons pe_str pa_nil)))))) pss_nil)
  (Evl.pss_cut (ps_if (pt_not (tTruth K rfl (pv 1))) (pss_one (ps_expr (pe_meth0 (pv 0) T.cl_Reading T.me_Reading_count_node G_Reading_count_node (hr.mono (by first | decide | omega)) b_Reading_count_node v_Reading_count_node (passes_call (takes_of rfl rfl rfl rfl) (fun _ _ _ _ h => h))))) pss_nil)
  (pss_cons (ps_expr (eBm K rfl PySem.F.plainAttrs_list PySem.F.slot_list_append PySem.F.type_list_append mt_append (pv 1) (pa_cons (pv 3) pa_nil)))
  (pss_one (sFdAug K rfl in_add (pv 0) (pe_callB call_len_str (by rfl) T.n_len PySem.boot_len (pa_cons (pv 2) pa_nil)))))))))
  (pss_one (ps_expr (eBm K rfl PySem.F.plainAttrs_list PySem.F.slot_list_append PySem.F.type_list_append mt_append (pe_ix (ixT K rfl) (pe_ix (ixL K rfl) (eFld K rfl (pv 0) rfl) (pe_un un_neg pe_int) (fun _ _ => rfl)) pe_int (fun _ _ => rfl)) (pa_cons (pe_join pe_str (pv 1)) pa_nil)))))), ?_⟩
    have hlt : ("<" : Str).cps.toList = [60] := by decide +kernel
    refine st_seq ⟨by show 0 ≤ sizeLine; decide, fun sp hsp => ?_⟩
    dsimp only [gName]
    have nso : sp ≠ o := fun e => R.on (e ▸ hsp)
    have nsl : sp ≠ lp := fun e => by rw [e, hlp] at hsp; cases hsp
    have noo : ∀ {a : Addr} {u : HO}, H a = some u → (∀ C dx fs, u ≠ .ins C dx fs) → a ≠ o := fun {a u} ha hu e => by
      obtain ⟨dx, hR⟩ := R
      rw [e, hR] at ha
      exact hu _ _ _ (Option.some.inj ha).symm
    have nsto : st ≠ o := noo hst nofun
    have nto : t ≠ o := noo htt nofun
    have nlo : lp ≠ o := noo hlp nofun
    have hpl : (pre ++ [V.ref t]).length = pre.length + 1 := by rw [List.length_append, List.length_singleton]
    refine st_seq ⟨fun m σ G => ∃ (acc l2 : List Nat) (i2 n2 f : Nat) (v2 v3 : Option V), σ = [some (.ref o), some (.ref sp), v2, v3] ∧ m = l2.length ∧ Kp [o] H G ∧ RdO K G o z i2 n2 st ∧ remS z i2 l2 ∧ G sp = some (.lst (acc.map fun c => V.str (sL [c]))) ∧ acc.length ≤ 200 ∧ l2.length < f ∧ rdText (pre.length + 1) f acc l2 i2 n2 = rdText (pre.length + 1) (l.length + 1) [] l i n,
      ⟨_, [], l, i, n, _, none, none, rfl, rfl, Kp.new hsp, R.ex (Ex.new hsp), hl, upd_same, Nat.zero_le _, Nat.lt_succ_self _, rfl⟩, ?_⟩
    rintro m σ G ⟨acc, l2, i2, n2, f, v2, v3, rfl, rfl, eG, RG, hl2, hs, hacc, hf, hq⟩
    obtain ⟨f, rfl⟩ : ∃ f', f = f' + 1 := ⟨f - 1, by omega⟩
    rw [rdText] at hq
    have hxG : Ex H0 G := kids_len hx eG hxo
    have hst' := eG.at hst (by simpa using nsto)
    have htt' := eG.at htt (by simpa using nto)
    have hlp' := eG.at hlp (by simpa using nlo)
    refine ans_not (ans_v (rd_begin1 (K := K) RG hl2 rfl hlt)) _ ?_
    by_cases hb : l2.head? = some 60
    · rw [decide_eq_true hb]
      rw [if_pos hb] at hq
      refine iteF ?_
      dsimp only
      have f4 := (rd_fld (K := K) T RG (σ := [some (.ref o), some (.ref sp), v2, v3]) rfl).2.2.2
      have vt : Val (tOp (rIxT K) (tOp (rIxL K) (tFld K (tVar 0) "stack") (tUn (rU fun i => .int (-i)) (tC (.int 1)))) (tC (.int 1))) [some (.ref o), some (.ref sp), v2, v3] G (.ref lp) := val_ixT (val_ixL f4 (val_neg val_c) (SqL.of hst') (atI_last _ _)) val_c (SqT.of htt') at_one
      refine vt _ ⟨.inl ⟨rfl, _, SqL.of hlp'⟩, ?_⟩
      have hys : (acc.map fun c => V.str (sL [c])) = (acc.map fun c => sL [c]).map V.str := by rw [List.map_map]; rfl
      rw [hys] at hs
      have hfl : ((acc.map fun c => sL [c]).map fun y : Str => y.cps.toList).flatten = acc := by
        rw [List.map_map]
        clear hys hs hacc hq
        induction acc with
        | nil => rfl
        | cons a q ih =>
          rw [List.map_cons, List.flatten_cons, ih]
          rfl
      refine ⟨⟨_, rfl⟩, _, rfl, _, sp, _, rfl, rfl, .inl (SqL.of hs), ?_, ?_⟩
      · rw [sum_len, hfl]
        show _ + _ * 0 ≤ _
        exact Nat.le_trans (show acc.length + _ * 0 ≤ 200 by omega) (by decide)
      · rw [nosign, join0, hfl]
        refine ⟨lp, vs', _, rfl, rfl, hlp', small9 (by omega), ?_⟩
        refine kok acc l2 i2 n2 hq.symm hl2 _ ?_ upd_same ((eG.mono (by simp)).trans (Kp.put (by simp)))
        obtain ⟨dx, hRG⟩ := RG
        exact ⟨dx, by rw [upd_ne nlo.symm]; exact hRG⟩
    · rw [decide_eq_false hb]
      rw [if_neg hb] at hq
      refine iteT ⟨fun σ' G' => ∃ m', m' < l2.length ∧ ∃ (acc l2 : List Nat) (i2 n2 f : Nat) (v2 v3 : Option V), σ' = [some (.ref o), some (.ref sp), v2, v3] ∧ m' = l2.length ∧ Kp [o] H G' ∧ RdO K G' o z i2 n2 st ∧ remS z i2 l2 ∧ G' sp = some (.lst (acc.map fun c => V.str (sL [c]))) ∧ acc.length ≤ 200 ∧ l2.length < f ∧ rdText (pre.length + 1) f acc l2 i2 n2 = rdText (pre.length + 1) (l.length + 1) [] l i n, fun _ _ h => h, ?_⟩
      have hls : (acc.map fun c => V.str (sL [c])).length = acc.length := List.length_map ..
      obtain ⟨dx, hRG⟩ := id RG
      refine st_seq ⟨_, rfl, o, dx, _, rfl, hRG, fn_Reading_next_sign .., H0, o, z, i2, n2, st, l2, rfl, RG, hl2, hz, hxG, fun e => ?_, fun r k s0 e tp G2 htp e2 h2 => ?_⟩
      · rw [e] at hq
        exact kno _ _ hq.symm
      rw [e] at hq
      dsimp only at hq
      obtain ⟨k1, k2, k3, k4⟩ := rdNext_len e
      subst k3
      refine ⟨tp, _, rfl, SqT.of h2, rfl, _, _, rfl, _, _, rfl, rfl, ?_⟩
      have R2 := RG.ex e2
      have hs2 := e2 _ _ hs
      have hxG2 := hxG.trans e2
      have f2 := rd_fld (K := K) T R2 (σ := [some (.ref o), some (.ref sp), some (.str (sL (l2.take k))), some (.str (sL [s0]))]) rfl
      refine st_seq (st_if (b := decide (acc.length = 200)) (ans_v (val_is (val_eq (val_lenL (val_var rfl) (SqL.of hs2)) val_c rfl) (by
        rw [hls]
        congr 1
        rw [decide_eq_decide]
        exact ⟨fun e => by have := V.int.inj e; omega, fun e => by rw [e]; rfl⟩))) (fun hb2 => ?_) (fun hb2 => ?_))
      · rw [if_pos (of_decide_eq_true hb2)] at hq
        exact rd_refuse f2.1 f2.2.1 hxG2 hl2 hz (kno _ _ hq.symm)
      rw [if_neg (of_decide_eq_false hb2)] at hq
      have hb2 := of_decide_eq_false hb2
      dsimp only [tNext]
      refine ⟨fun σ' G3 => σ' = [some (.ref o), some (.ref sp), some (.str (sL (l2.take k))), some (.str (sL [s0]))] ∧ Kp [o] G2 G3 ∧ ∃ n3, RdO K G3 o z i2 n3 st ∧ rdText (pre.length + 1) f (acc ++ [s0]) (l2.drop k) (i2 + k) n3 = rdText (pre.length + 1) (l.length + 1) [] l i n, ?_, ?_⟩
      · refine st_if (ans_not (b := !(acc.map fun c => V.str (sL [c])).isEmpty) fun Q q => ⟨_, rfl, _, .inl ⟨_, SqL.of hs2, rfl⟩, q⟩) (fun h => ?_) (fun h => ?_)
        · have ha : acc = [] := by
            cases acc with
            | nil => rfl
            | cons a r => cases h
          rw [if_pos ha] at hq
          obtain ⟨dx2, hR2⟩ := id R2
          refine ⟨_, rfl, o, dx2, _, rfl, hR2, fn_Reading_count_node .., H0, o, z, i2, n2, st, _, l2, rfl, R2, hl2, hz, hxG2, SqL.of (e2 _ _ hst'), by rw [hpl]; omega, fun y ey => ?_, fun en G3 R3 e3 => ⟨rfl, e3, _, R3, ?_⟩⟩
          · rw [hpl] at ey
            rw [ey] at hq
            exact kno _ _ hq.symm
          · rw [hpl] at en
            rw [en] at hq
            exact hq
        · have ha : acc ≠ [] := fun z => by
            subst z
            cases h
          rw [if_neg ha] at hq
          exact ⟨rfl, Kp.refl, _, R2, hq⟩
      · rintro σ' G3 ⟨rfl, e3, n3', R3, hq3⟩
        have hs3 := e3.at hs2 (by simpa using nso)
        refine st_seq (st_app hs3 (val_var rfl) (val_var rfl) (sz_lt (by rw [hls]; omega)) ?_)
        obtain ⟨dx3, hR3⟩ := R3
        have hR4 : upd G3 sp (.lst ((acc.map fun c => V.str (sL [c])) ++ [V.str (sL [s0])])) o = some (.ins (He.ga K "Reading") dx3 (flds_Reading (.str z) (.int (i2 : Int)) (.int (n3' : Int)) (.ref st))) := by
          rw [upd_ne nso.symm]
          exact hR3
        have hlk : (sL (l2.take k)).length = k := by rw [sL_len, List.length_take]; omega
        have hl2n := hl2.len
        refine ⟨_, rfl, o, _, dx3, _, _, rfl, hR4, T.cl_Reading, T.na_Reading_reached, fl_Reading_reached .., _, rfl, sL (l2.take k), rfl, by rw [hlk]; exact szB (by omega), _, _, rfl, rfl, dx3, _, hR4, fn_len .., ?_⟩
        rw [pu_reached, hlk, show (i2 : Int) + (k : Int) = ((i2 + k : Nat) : Int) by omega]
        refine ⟨_, ?_, acc ++ [s0], l2.drop k, i2 + k, n3', f, _, _, rfl, rfl, ?_, ⟨dx3, upd_same⟩, hl2.drop k2, ?_, ?_, ?_, hq3⟩
        · rw [List.length_drop]; omega
        · exact (((eG.trans (Kp.of e2)).trans e3).mut hsp).trans Kp.up
        · rw [upd_ne nso, upd_same, List.map_append]
          rfl
        · rw [List.length_append, List.length_singleton]; omega
        · rw [List.length_drop]; omega
theorem ok_Reading_read_begin_tag (T : TX K mg) : Can P w K mg base (L2.CX P w) 6 (He.fAd K at_Reading_read_begin_tag) ps_Reading_read_begin_tag [] (spBegin K) := by
  obtain ⟨fd_Reading_begins, G_Reading_begins, ds_Reading_begins, v_Reading_begins, b_Reading_begins⟩ := ok_Reading_begins (P := P) (w := w) (base := base) T
  obtain ⟨fd_Reading_read_name, G_Reading_read_name, ds_Reading_read_name, v_Reading_read_name, b_Reading_read_name⟩ := ok_Reading_read_name (P := P) (w := w) (base := base) T
  obtain ⟨fd_Reading_read_tag_end, G_Reading_read_tag_end, ds_Reading_read_tag_end, v_Reading_read_tag_end, b_Reading_read_tag_end⟩ := ok_Reading_read_tag_end (P := P) (w := w) (base := base) T
  obtain ⟨fd_Reading_count_node, G_Reading_count_node, ds_Reading_count_node, v_Reading_count_node, b_Reading_count_node⟩ := ok_Reading_count_node (P := P) (w := w) (base := base) T
  obtain ⟨fd__refuse, G__refuse, ds__refuse, v__refuse, b__refuse⟩ := ok__refuse (P := P) (w := w) (base := base) T
  exact mk_Reading_read_begin_tag T fun fd F => defX F sc_Reading_read_begin_tag (fun vs H Q E h => by
    obtain ⟨H0, o, z, i, n, st, t, lp, pre, vs', nv, l, F, rfl, _⟩ := h
    rfl) fun cdv A outer s H vs Q E hr h => by
    obtain ⟨H0, o, z, i, n, st, t, lp, pre, vs', nv, l, F, rfl, R, hl, hz, hx, hxo, hxs, hxl, hst, htt, hlp, nls, hvl, hpre, hF, kno, kok⟩ := h
    refine ⟨_, (pss_cons (ps_if (pt_cmpR op_eq (pe_op op_add (eFld K rfl (pv 0) rfl) pe_int) (pe_callB call_len_str (by rfl) T.n_len PySem.boot_len (pa_cons (eFld K rfl (pv 0) rfl) pa_nil)) (nomark _)) (pss_one (ps_expr (pe_call G__refuse (hr.mono (by first | decide | omega)) rfl T.g__refuse T.k__refuse b__refuse v__refuse (passes_call (takes_of rfl rfl rfl rfl) (fun _ _ _ _ h => h)) (pa_cons (eFld K rfl (pv 0) rfl) (pa_cons (pe_op op_add (eFld K rfl (pv 0) rfl) pe_int) (pa_cons pe_str pa_nil)))))) pss_nil)
  (pss_cons (ps_expr (pe_meth0 (pv 0) T.cl_Reading T.me_Reading_count_node G_Reading_count_node (hr.mono (by first | decide | omega)) b_Reading_count_node v_Reading_count_node (passes_call (takes_of rfl rfl rfl rfl) (fun _ _ _ _ h => h))))
  (pss_cons (ps_set (i := 1) sc_Reading_read_begin_tag.nd rfl (Or.inl rfl) (pe_tup (pa_cons (pe_meth (pv 0) T.cl_Reading T.me_Reading_read_name G_Reading_read_name (hr.mono (by first | decide | omega)) b_Reading_read_name v_Reading_read_name (passes_call (takes_of rfl rfl rfl rfl) (fun _ _ _ _ h => h)) (pa_cons (pe_op op_add (eFld K rfl (pv 0) rfl) pe_int) pa_nil)) (pa_cons (pe_lst pa_nil) pa_nil))))
  (pss_cons (ps_expr (eBm K rfl PySem.F.plainAttrs_list PySem.F.slot_list_append PySem.F.type_list_append mt_append (pe_ix (ixT K rfl) (pe_ix (ixL K rfl) (eFld K rfl (pv 0) rfl) (pe_un un_neg pe_int) (fun _ _ => rfl)) pe_int (fun _ _ => rfl)) (pa_cons (pv 1) pa_nil)))
  (pss_cons (ps_if (pt_val (pe_meth (pv 0) T.cl_Reading T.me_Reading_begins G_Reading_begins (hr.mono (by first | decide | omega)) b_Reading_begins v_Reading_begins pass0 (pa_cons pe_str pa_nil))) (pss_one (sFdAug K rfl in_add (pv 0) pe_int)) (pss_one (ps_expr (eBm K rfl PySem.F.plainAttrs_list PySem.F.slot_list_append PySem.F.type_list_append mt_append (eFld K rfl (pv 0) rfl) (pa_cons (pv 1) pa_nil)))))
  (pss_one (ps_expr (pe_meth0 (pv 0) T.cl_Reading T.me_Reading_read_tag_end G_Reading_read_tag_end (hr.mono (by first | decide | omega)) b_Reading_read_tag_end v_Reading_read_tag_end (passes_call (takes_of rfl rfl rfl rfl) (fun _ _ _ _ h => h)))))))))), ?_⟩
    have noo : ∀ {a : Addr} {u : HO}, H a = some u → (∀ C dx fs, u ≠ .ins C dx fs) → a ≠ o := fun {a u} ha hu e => by
      obtain ⟨dx, hR⟩ := R
      rw [e, hR] at ha
      exact hu _ _ _ (Option.some.inj ha).symm
    have n1 : st ≠ o := noo hst nofun
    have n2 : t ≠ o := noo htt nofun
    have n3 : lp ≠ o := noo hlp nofun
    have f := rd_fld (K := K) T R (σ := [some (.ref o), none]) rfl
    have hl1 : remS z (i + 1) l := hl.one
    have hln := hl1.len
    have hzl : z.length = z.cps.size := rfl
    have hpl : (pre ++ [V.ref t]).length = F.length := by rw [List.length_append, List.length_singleton, hF]
    unfold rdBegin at kno kok
    rw [List.tail_cons] at kno kok
    refine st_seq (st_if (b := decide (l = [])) (ans_v (val_is (val_eq (val_I f.2.1 val_c) (val_cb (va_one f.1) fun Q q => ⟨z, rfl, szB (Nat.le_succ_of_le hz), q⟩) rfl) (by
      congr 1
      rw [decide_eq_decide]
      exact ⟨fun h => by
        have := V.int.inj h
        exact List.eq_nil_of_length_eq_zero (by omega), fun h => by
        subst h
        rw [List.length_nil] at hln
        congr 1
        omega⟩))) (fun hb => ?_) (fun hb => ?_))
    · obtain rfl := of_decide_eq_true hb
      rw [if_pos rfl] at kno
      exact rd_refuse (i := i + 1) f.1 (val_is (val_I f.2.1 val_c) (by congr 1)) hx hl1 hz (kno _ _ rfl)
    have hb := of_decide_eq_false hb
    rw [if_neg hb] at kno kok
    dsimp only [tNext]
    obtain ⟨dx, hR⟩ := id R
    refine st_seq ⟨_, rfl, o, dx, _, rfl, hR, fn_Reading_count_node .., H0, o, z, i, n, st, _, 60 :: l, rfl, R, hl, hz, hx, SqL.of hst, by rw [hpl]; omega, fun y ey => ?_, fun en H1 R1 e1 => ?_⟩
    · rw [hpl] at ey
      rw [ey] at kno
      exact kno _ _ rfl
    rw [hpl] at en
    rw [en] at kno kok
    dsimp only at kno kok
    have hn5 : n ≠ 5000 ∧ pre.length < 60 := by
      unfold cntR at en
      split at en
      · cases en
      split at en
      · cases en
      · rename_i h1 h2
        exact ⟨h2, by omega⟩
    obtain ⟨dx1, hR1⟩ := id R1
    have hx1 : Ex H0 H1 := kids_len hx e1 hxo
    have f1 := rd_fld (K := K) T R1 (σ := [some (.ref o), none]) rfl
    dsimp only
    refine st_seq (go_asg ?_)
    refine ⟨_, rfl, o, dx1, _, rfl, hR1, fn_Reading_read_name .., (val_I f1.2.1 val_c) _ ?_⟩
    refine ⟨H0, o, z, i, n + 1, st, i + 1, l, by rw [show (i : Int) + 1 = ((i + 1 : Nat) : Int) by omega] <;> rfl, R1, hl1, hz, hx1, fun e => ?_, fun e H2 R2 e2 => ?_⟩
    · rw [e] at kno
      exact kno _ _ rfl
    rw [e] at kno kok
    simp only [cond_true] at kno kok
    have hrl := runL_le letB l
    have hl2 := hl1.drop hrl
    have hk1 : 1 ≤ runL letB l := Nat.le_of_ble_eq_true (Bool.and_eq_true_iff.mp e).1
    generalize hr' : l.drop (runL letB l) = r at kno kok hl2
    generalize hnm : sL (l.take (runL letB l)) = nm at kno kok ⊢
    generalize runL letB l = k at kno kok hl2 hrl hk1 R2
    clear hr' hnm e
    refine ⟨by show 0 ≤ sizeLine; decide, fun l' hl' => ⟨by show 2 ≤ sizeLine; decide, fun t' ht' => ?_⟩⟩
    dsimp only [gName]
    have e12 : Kp [o] H H2 := e1.trans e2
    have on2 : ∀ a ∈ [o], H2 a ≠ none := fun a ha => by rw [List.mem_singleton.mp ha]; exact R2.on
    have hlH : H l' = none := e12.back on2 hl'
    have ntl : t' ≠ l' := fun e => by rw [e, upd_same] at ht'; cases ht'
    have ht2 : H2 t' = none := by rw [upd_ne ntl] at ht'; exact ht'
    have htH : H t' = none := e12.back on2 ht2
    have lo : ∀ {a : Addr} {u : HO}, H2 a = some u → upd (upd H2 l' (.lst [])) t' (.tup [.str nm, .ref l']) a = some u := fun {a u} h => by
      rw [upd_ne (ne_of_none h ht2), upd_ne (ne_of_none h hl')]
      exact h
    have gst := lo (e12.at hst (by simpa using n1))
    have gtt := lo (e12.at htt (by simpa using n2))
    have glp := lo (e12.at hlp (by simpa using n3))
    have gt : upd (upd H2 l' (.lst [])) t' (.tup [.str nm, .ref l']) t' = some (.tup [.str nm, .ref l']) := upd_same
    have gl : upd (upd H2 l' (.lst [])) t' (.tup [.str nm, .ref l']) l' = some (.lst []) := by rw [upd_ne ntl.symm, upd_same]
    have RG : RdO K (upd (upd H2 l' (.lst [])) t' (.tup [.str nm, .ref l'])) o z (i + 1 + k) (n + 1) st := (R2.ex (Ex.new hl')).ex (Ex.new ht')
    have eG : Kp [o, lp, st] H (upd (upd H2 l' (.lst [])) t' (.tup [.str nm, .ref l'])) := (e12.mono (by simp)).trans ((Kp.new hl').trans (Kp.new ht'))
    generalize upd (upd H2 l' (.lst [])) t' (.tup [.str nm, .ref l']) = G at gst gtt glp gt gl RG eG ⊢
    have fin : ∀ (X : Hp) (b : Bool) (l1 : List Nat) (i1 : Nat), Kp [o, lp, st] H X → X t' = some (.tup [.str nm, .ref l']) → X l' = some (.lst []) → X lp = some (.lst (vs' ++ [.ref t'])) → X st = some (.lst (if b then pre ++ [.ref t] else pre ++ [.ref t] ++ [.ref t'])) →
        RdO K X o z i1 (n + 1) st → remS z i1 l1 → i < i1 →
        (∀ j y, rdEndTag (if b then addK F (.el nm []) else (nm, []) :: F) l1 i1 (n + 1) = .no j y → BadR K H0 E z j y) →
        (∀ l2 i2, rdEndTag (if b then addK F (.el nm []) else (nm, []) :: F) l1 i1 (n + 1) = .ok (if b then addK F (.el nm []) else (nm, []) :: F) l2 i2 (n + 1) → remS z i2 l2 → i < i2 → ∀ H5, RdO K H5 o z i2 (n + 1) st → Kp [o] X H5 → Q .non H5) →
        tMeth (He.ga K "Reading") "read_tag_end" (spTagEnd K) [] (fun cls d H => E cls d H) (tVar 0) tNil [some (.ref o), some (.ref t')] X (fun _ H' => Q .non H') := fun X b l1 i1 x1 x2 x3 x4 x5 x6 hl1' hi1 ko kk => by
      obtain ⟨dx6, h6⟩ := id x6
      unfold rdEndTag at ko kk
      refine ⟨_, rfl, o, dx6, _, rfl, h6, fn_Reading_read_tag_end .., H0, o, z, _, _, st, l1, rfl, x6, hl1', hz, ex_kp hx x1 (by simp [hxo, hxl, hxs]), fun e => ?_, fun e H5 R5 e5 => ?_⟩
      · rw [if_neg e] at ko
        exact ko _ _ rfl
      · rw [if_pos e] at kk
        refine kk l1.tail (i1 + 1) rfl ?_ (by omega) H5 R5 e5
        obtain ⟨q, rfl⟩ : ∃ q, l1 = 62 :: q := by
          cases l1 with
          | nil => cases e
          | cons c q => exact ⟨q, by rw [Option.some.inj e]⟩
        exact hl1'.one
    have ftop : Val (tOp (rIxT K) (tOp (rIxL K) (tFld K (tVar 0) "stack") (tUn (rU fun i => .int (-i)) (tC (.int 1)))) (tC (.int 1))) [some (.ref o), some (.ref t')] G (.ref lp) := val_ixT (val_ixL (rd_fld (K := K) T RG (σ := [some (.ref o), some (.ref t')]) rfl).2.2.2 (val_neg val_c) (SqL.of gst) (atI_last _ _)) val_c (SqT.of gtt) at_one
    refine st_seq (st_app glp ftop (val_var rfl) (small9 (by omega)) ?_)
    have nlt : lp ≠ t' := fun e => by rw [e, gt] at glp; cases glp
    have nll : lp ≠ l' := fun e => by rw [← e, hlp] at hlH; cases hlH
    have nst' : st ≠ t' := fun e => by rw [e, gt] at gst; cases gst
    have nsl' : st ≠ l' := fun e => by rw [← e, hst] at hlH; cases hlH
    have g2t : upd G lp (.lst (vs' ++ [V.ref t'])) t' = some (.tup [.str nm, .ref l']) := by rw [upd_ne nlt.symm]; exact gt
    have g2l : upd G lp (.lst (vs' ++ [V.ref t'])) l' = some (.lst []) := by rw [upd_ne nll.symm]; exact gl
    have g2p : upd G lp (.lst (vs' ++ [V.ref t'])) lp = some (.lst (vs' ++ [V.ref t'])) := upd_same
    have g2s : upd G lp (.lst (vs' ++ [V.ref t'])) st = some (.lst (pre ++ [.ref t])) := by rw [upd_ne nls.symm]; exact gst
    have R2G : RdO K (upd G lp (.lst (vs' ++ [V.ref t']))) o z (i + 1 + k) (n + 1) st := by
      obtain ⟨dx, hR⟩ := RG
      exact ⟨dx, by rw [upd_ne n3.symm]; exact hR⟩
    have e2G : Kp [o, lp, st] H (upd G lp (.lst (vs' ++ [V.ref t']))) := eG.trans (Kp.put (by simp))
    generalize upd G lp (.lst (vs' ++ [V.ref t'])) = G2 at g2t g2l g2p g2s R2G e2G ⊢
    have h47 : ("/" : Str).cps.toList = [47] := by decide +kernel
    have nt' : t' ≠ o := fun e => by
      obtain ⟨dx7, h7⟩ := R2G
      rw [e, h7] at g2t
      cases g2t
    have nl' : l' ≠ o := fun e => by
      obtain ⟨dx7, h7⟩ := R2G
      rw [e, h7] at g2l
      cases g2l
    have last : ∀ (X H5 : Hp) (b : Bool) (l2 : List Nat) (i2 : Nat), Kp [o, lp, st] H X → X t' = some (.tup [.str nm, .ref l']) → X l' = some (.lst []) → X lp = some (.lst (vs' ++ [.ref t'])) → X st = some (.lst (if b then pre ++ [.ref t] else pre ++ [.ref t] ++ [.ref t'])) → Kp [o] X H5 →
        H5 t' = some (.tup [.str nm, .ref l']) ∧ H5 l' = some (.lst []) ∧ H5 lp = some (.lst (vs' ++ [.ref t'])) ∧ H5 st = some (.lst (if b then pre ++ [.ref t] else pre ++ [.ref t] ++ [.ref t'])) ∧ Kp [o, lp, st] H H5 := fun X H5 b l2 i2 x1 x2 x3 x4 x5 e5 =>
      ⟨e5.at x2 (by simpa using nt'), e5.at x3 (by simpa using nl'), e5.at x4 (by simpa using n3), e5.at x5 (by simpa using n1), x1.trans (e5.mono (by simp))⟩
    refine st_seq (st_if (ans_v (rd_begin1 (K := K) R2G hl2 rfl h47)) (fun hb3 => ?_) (fun hb3 => ?_))
    · have hn := of_decide_eq_true hb3
      obtain ⟨r', rfl⟩ : ∃ r', r = 47 :: r' := by
        cases r with
        | nil => cases hn
        | cons c q => exact ⟨q, by rw [Option.some.inj hn]⟩
      rw [if_pos hn] at kno
      obtain ⟨dx7, h7⟩ := R2G
      refine ⟨_, rfl, o, _, dx7, _, _, rfl, h7, T.cl_Reading, T.na_Reading_reached, fl_Reading_reached .., _, _, rfl, rfl, dx7, _, h7, fn_len .., ?_⟩
      rw [pu_reached]
      have x1 : Kp [o, lp, st] H (upd G2 o (.ins (He.ga K "Reading") dx7 (flds_Reading (.str z) (.int (((i + 1 + k : Nat) : Int) + 1)) (.int ((n + 1 : Nat) : Int)) (.ref st)))) := e2G.trans (Kp.put (by simp))
      have x2 : upd G2 o (.ins (He.ga K "Reading") dx7 (flds_Reading (.str z) (.int (((i + 1 + k : Nat) : Int) + 1)) (.int ((n + 1 : Nat) : Int)) (.ref st))) t' = _ := (upd_ne nt').trans g2t
      have x3 : upd G2 o (.ins (He.ga K "Reading") dx7 (flds_Reading (.str z) (.int (((i + 1 + k : Nat) : Int) + 1)) (.int ((n + 1 : Nat) : Int)) (.ref st))) l' = _ := (upd_ne nl').trans g2l
      have x4 : upd G2 o (.ins (He.ga K "Reading") dx7 (flds_Reading (.str z) (.int (((i + 1 + k : Nat) : Int) + 1)) (.int ((n + 1 : Nat) : Int)) (.ref st))) lp = _ := (upd_ne n3).trans g2p
      have x5 : upd G2 o (.ins (He.ga K "Reading") dx7 (flds_Reading (.str z) (.int (((i + 1 + k : Nat) : Int) + 1)) (.int ((n + 1 : Nat) : Int)) (.ref st))) st = _ := (upd_ne n1).trans g2s
      refine fin _ true r' (i + 1 + k + 1) x1 x2 x3 x4 x5 ⟨dx7, upd_same⟩ hl2.one (by omega) (fun j y ey => kno j y ey) fun l2 i2 eo hr2 hi2 H5 R5 e5 => ?_
      obtain ⟨y1, y2, y3, y4, y5⟩ := last _ H5 true l2 i2 x1 x2 x3 x4 x5 e5
      exact kok nm true l2 i2 (by rw [if_pos hn]; exact eo) hn5.1 hn5.2 hi2 hr2 H5 t' l' htH hlH ntl R5 y1 y2 y3 y4 y5
    · have hn := of_decide_eq_false hb3
      rw [if_neg hn] at kno
      refine st_app g2s (rd_fld (K := K) T R2G (σ := [some (.ref o), some (.ref t')]) rfl).2.2.2 (val_var rfl) (sz_lt (by rw [List.length_append, List.length_singleton]; omega)) ?_
      obtain ⟨dx7, h7⟩ := R2G
      have x1 : Kp [o, lp, st] H (upd G2 st (.lst (pre ++ [.ref t] ++ [.ref t']))) := e2G.trans (Kp.put (by simp))
      have x2 : upd G2 st (.lst (pre ++ [.ref t] ++ [.ref t'])) t' = _ := (upd_ne nst'.symm).trans g2t
      have x3 : upd G2 st (.lst (pre ++ [.ref t] ++ [.ref t'])) l' = _ := (upd_ne nsl'.symm).trans g2l
      have x4 : upd G2 st (.lst (pre ++ [.ref t] ++ [.ref t'])) lp = _ := (upd_ne nls).trans g2p
      refine fin _ false r (i + 1 + k) x1 x2 x3 x4 upd_same ⟨dx7, (upd_ne n1.symm).trans h7⟩ hl2 (by omega) (fun j y ey => kno j y ey) fun l2 i2 eo hr2 hi2 H5 R5 e5 => ?_
      obtain ⟨y1, y2, y3, y4, y5⟩ := last _ H5 false l2 i2 x1 x2 x3 x4 upd_same e5
      exact kok nm false l2 i2 (by rw [if_neg hn]; exact eo) hn5.1 hn5.2 hi2 hr2 H5 t' l' htH hlH ntl R5 y1 y2 y3 y4 y5
theorem sw2 (z y : Str) : Txt.startswith z y = decide (z.cps.toList.take y.cps.toList.length = y.cps.toList) := by
  have h : remS z 0 z.cps.toList := ⟨Nat.zero_le _, rfl⟩
  rw [← sw3 h]
  unfold Txt.startswith Txt.startswith3
  have : fromIndex z.length ((0 : Nat) : Int) = 0 := by
    unfold fromIndex
    rw [if_neg (by decide)]
    omega
  rw [this]
theorem ok_Reading_read_end_tag (T : TX K mg) : Can P w K mg base (L2.CX P w) 6 (He.fAd K at_Reading_read_end_tag) ps_Reading_read_end_tag [] (spEnd K) := by
  obtain ⟨fd_Reading_read_name, G_Reading_read_name, ds_Reading_read_name, v_Reading_read_name, b_Reading_read_name⟩ := ok_Reading_read_name (P := P) (w := w) (base := base) T
  obtain ⟨fd_Reading_read_tag_end, G_Reading_read_tag_end, ds_Reading_read_tag_end, v_Reading_read_tag_end, b_Reading_read_tag_end⟩ := ok_Reading_read_tag_end (P := P) (w := w) (base := base) T
  obtain ⟨fd__refuse, G__refuse, ds__refuse, v__refuse, b__refuse⟩ := ok__refuse (P := P) (w := w) (base := base) T
  exact mk_Reading_read_end_tag T fun fd F => defX F sc_Reading_read_end_tag (fun vs H Q E h => by
    obtain ⟨H0, o, z, i, n, st, t, lp, pre, l, F, rfl, _⟩ := h
    rfl) fun cdv A outer s H vs Q E hr h => by
    obtain ⟨H0, o, z, i, n, st, t, lp, pre, l, F, rfl, R, hl, hz, hx, hxo, hst, htt, kno, kok⟩ := h
    refine ⟨_, (pss_cons (ps_set (i := 1) sc_Reading_read_end_tag.nd rfl (Or.inl rfl) (pe_op op_add (eFld K rfl (pv 0) rfl) pe_int))
  (pss_cons (ps_set (i := 2) sc_Reading_read_end_tag.nd rfl (Or.inl rfl) (pe_meth (pv 0) T.cl_Reading T.me_Reading_read_name G_Reading_read_name (hr.mono (by first | decide | omega)) b_Reading_read_name v_Reading_read_name (passes_call (takes_of rfl rfl rfl rfl) (fun _ _ _ _ h => h)) (pa_cons (pv 1) pa_nil)))
  (pss_cons (ps_set (i := 3) sc_Reading_read_end_tag.nd rfl (Or.inl rfl) (pe_ix (ixT K rfl) (pe_ix (ixL K rfl) (eFld K rfl (pv 0) rfl) (pe_un un_neg pe_int) (fun _ _ => rfl)) pe_int (fun _ _ => rfl)))
  (pss_cons (ps_set (i := 4) sc_Reading_read_end_tag.nd rfl (Or.inl rfl) (pe_and (pe_cmpR op_eq (eFld K rfl (pv 0) rfl) (pe_callB call_len_str (by rfl) T.n_len PySem.boot_len (pa_cons (eFld K rfl (pv 0) rfl) pa_nil)) (nomark _)) (pe_one (eBm K rfl PySem.F.plainAttrs_str PySem.F.slot_str_startswith PySem.F.type_str_startswith mt_startswith (pv 3) (pa_cons (pv 2) pa_nil)))))
  (pss_cons (ps_if (PW.pt (pw_and (pt_cmpR op_ne (pv 2) (pv 3) (nomark _)) (pw_and1 (pt_not (pt_val (pv 4)))))) (pss_one (ps_expr (pe_call G__refuse (hr.mono (by first | decide | omega)) rfl T.g__refuse T.k__refuse b__refuse v__refuse (passes_call (takes_of rfl rfl rfl rfl) (fun _ _ _ _ h => h)) (pa_cons (eFld K rfl (pv 0) rfl) (pa_cons (pv 1) (pa_cons pe_str pa_nil)))))) pss_nil)
  (pss_cons (ps_expr (pe_meth0 (pv 0) T.cl_Reading T.me_Reading_read_tag_end G_Reading_read_tag_end (hr.mono (by first | decide | omega)) b_Reading_read_tag_end v_Reading_read_tag_end (passes_call (takes_of rfl rfl rfl rfl) (fun _ _ _ _ h => h))))
  (pss_one (ps_expr (eBm0 K rfl PySem.F.plainAttrs_list PySem.F.slot_list_pop PySem.F.type_list_pop mt_pop (eFld K rfl (pv 0) rfl)))))))))), ?_⟩
    have noo : ∀ {a : Addr} {u : HO}, H a = some u → (∀ C dx fs, u ≠ .ins C dx fs) → a ≠ o := fun {a u} ha hu e => by
      obtain ⟨dx, hR⟩ := R
      rw [e, hR] at ha
      exact hu _ _ _ (Option.some.inj ha).symm
    have n1 : st ≠ o := noo hst nofun
    have n2 : t ≠ o := noo htt nofun
    have f := rd_fld (K := K) T R (σ := [some (.ref o), none, none, none, none]) rfl
    have hl1 : remS z (i + 2) l := hl.drop (k := 2) (by simp)
    have hln := hl1.len
    have hzl : z.length = z.cps.size := rfl
    unfold rdEnd at kno kok
    rw [show (60 :: 47 :: l).drop 2 = l from rfl] at kno kok
    refine st_seq (go_asg (val_I f.2.1 val_c _ ?_))
    dsimp only [gName]
    obtain ⟨dx, hR⟩ := id R
    refine st_seq (go_asg ?_)
    refine ⟨_, rfl, o, dx, _, rfl, hR, fn_Reading_read_name .., _, rfl, H0, o, z, i, n, st, i + 2, l, by rw [show (i : Int) + 2 = ((i + 2 : Nat) : Int) by omega] <;> rfl, R, hl1, hz, hx, fun e => ?_, fun e H1 R1 e1 => ?_⟩
    · rw [e] at kno
      exact kno _ _ rfl
    rw [e] at kno kok
    simp only [cond_true] at kno kok
    have hrl := runL_le letB l
    have hl2 := hl1.drop hrl
    have hnl : (l.take (runL letB l)).length = runL letB l := by rw [List.length_take]; omega
    generalize l.drop (runL letB l) = r at kno kok hl2
    generalize l.take (runL letB l) = nm at kno kok hnl ⊢
    generalize runL letB l = k at kno kok hl2 hrl hnl R1
    clear e
    have hln2 := hl2.len
    dsimp only [gName]
    have hst1 := e1.at hst (by simpa using n1)
    have htt1 := e1.at htt (by simpa using n2)
    have hx1 : Ex H0 H1 := kids_len hx e1 hxo
    have f1 := rd_fld (K := K) T R1 (σ := [some (.ref o), some (.int ((i : Int) + 2)), some (.str (sL nm)), none, none]) rfl
    refine st_seq (go_asg (val_ixT (val_ixL f1.2.2.2 (val_neg val_c) (SqL.of hst1) (atI_last _ _)) val_c (SqT.of htt1) at_cons _ ?_))
    dsimp only [gName]
    generalize topN F = due at kno kok ⊢
    have f2 := rd_fld (K := K) T R1 (σ := [some (.ref o), some (.int ((i : Int) + 2)), some (.str (sL nm)), some (.str due), none]) rfl
    refine st_seq (go_asg (val_is (w := .bl (decide (r = [] ∧ due.cps.toList.take k = nm))) (val_and (a := decide (r = [])) (b := decide (due.cps.toList.take k = nm)) (val_is (val_eq f2.2.1 (val_cb (va_one f2.1) fun Q q => ⟨z, rfl, szB (Nat.le_succ_of_le hz), q⟩) rfl) (by
      congr 1
      rw [decide_eq_decide]
      exact ⟨fun h => by
        have := V.int.inj h
        exact List.eq_nil_of_length_eq_zero (by omega), fun h => by
        subst h
        rw [List.length_nil] at hln2
        congr 1
        omega⟩)) fun _ Q q => ⟨_, rfl, rfl, _, rfl, due, sL nm, rfl, rfl, by rw [sw2, sL_list, hnl]; exact q⟩) (by rw [Bool.decide_and]) _ ?_))
    dsimp only [gName]
    have f3 := rd_fld (K := K) T R1 (σ := [some (.ref o), some (.int ((i : Int) + 2)), some (.str (sL nm)), some (.str due), some (.bl (decide (r = [] ∧ due.cps.toList.take k = nm)))]) rfl
    refine st_seq (st_if (b := decide (nm ≠ due.cps.toList ∧ ¬ (r = [] ∧ due.cps.toList.take k = nm))) (ans_is (ans_and3 (a := !decide (sL nm = due)) (b := !decide (r = [] ∧ due.cps.toList.take k = nm)) (ans_v (val_is (val_ne (val_var rfl) (val_var rfl) rfl) (by
      congr 2
      rw [decide_eq_decide]
      exact ⟨fun h => V.str.inj h, fun h => by rw [h]⟩))) fun _ => ans_not (ans_v (val_var rfl))) (by
      have hE : decide (sL nm = due) = decide (nm = due.cps.toList) := by
        rw [decide_eq_decide]
        exact ⟨fun h => by rw [← h]; rfl, fun h => by rw [h, sL_of]⟩
      rw [hE]
      by_cases h1 : nm = due.cps.toList
      · rw [decide_eq_true h1, decide_eq_false (show ¬ (nm ≠ due.cps.toList ∧ ¬ (r = [] ∧ due.cps.toList.take k = nm)) from fun q => q.1 h1)]
        rfl
      · by_cases h2 : (r = [] ∧ due.cps.toList.take k = nm)
        · rw [decide_eq_false h1, decide_eq_true h2, decide_eq_false (show ¬ (nm ≠ due.cps.toList ∧ ¬ (r = [] ∧ due.cps.toList.take k = nm)) from fun q => q.2 h2)]
          rfl
        · rw [decide_eq_false h1, decide_eq_false h2, decide_eq_true (show nm ≠ due.cps.toList ∧ ¬ (r = [] ∧ due.cps.toList.take k = nm) from ⟨h1, h2⟩)]
          rfl)) (fun hb => ?_) (fun hb => ?_))
    · rw [if_pos (of_decide_eq_true hb)] at kno
      exact rd_refuse (i := i + 2) f3.1 (val_is (val_var rfl) (by congr 1)) hx1 hl1 hz (kno _ _ rfl)
    rw [if_neg (of_decide_eq_false hb)] at kno kok
    unfold rdEndTag at kno kok
    dsimp only [tNext]
    obtain ⟨dx1, hR1⟩ := id R1
    refine st_seq ⟨_, rfl, o, dx1, _, rfl, hR1, fn_Reading_read_tag_end .., H0, o, z, _, n, st, r, rfl, R1, hl2, hz, hx1, fun e => ?_, fun e H2 R2 e2 => ?_⟩
    · rw [if_neg e] at kno
      exact kno _ _ rfl
    rw [if_pos e] at kok
    have hst2 := e2.at hst1 (by simpa using n1)
    dsimp only
    obtain ⟨dx2, hR2⟩ := R2
    refine ⟨_, rfl, o, _, dx2, _, _, rfl, hR2, T.cl_Reading, T.na_Reading_stack, fl_Reading_stack .., .inl ⟨rfl, _, SqL.of hst2⟩, st, _, V.ref t, rfl, rfl, hst2, by simp, ?_⟩
    rw [List.dropLast_concat]
    obtain ⟨q, rfl⟩ : ∃ q, r = 62 :: q := by
      cases r with
      | nil => cases e
      | cons c q => exact ⟨q, by rw [Option.some.inj e]⟩
    refine kok q _ rfl (by omega) hl2.one _ ?_ upd_same (((e1.trans e2).mono (by simp)).trans (Kp.put (by simp)))
    exact ⟨dx2, by rw [upd_ne n1.symm]; exact hR2⟩
theorem ok_Reading_read_root (T : TX K mg) : Can P w K mg base (L2.CX P w) 7 (He.fAd K at_Reading_read_root) ps_Reading_read_root [] (spRoot K) := by
  obtain ⟨fd_Reading_begins, G_Reading_begins, ds_Reading_begins, v_Reading_begins, b_Reading_begins⟩ := ok_Reading_begins (P := P) (w := w) (base := base) T
  obtain ⟨fd_Reading_read_begin_tag, G_Reading_read_begin_tag, ds_Reading_read_begin_tag, v_Reading_read_begin_tag, b_Reading_read_begin_tag⟩ := ok_Reading_read_begin_tag (P := P) (w := w) (base := base) T
  obtain ⟨fd__refuse, G__refuse, ds__refuse, v__refuse, b__refuse⟩ := ok__refuse (P := P) (w := w) (base := base) T
  exact mk_Reading_read_root T fun fd F => defX F sc_Reading_read_root (fun vs H Q E h => by
    obtain ⟨H0, o, z, i, n, st, l, rfl, _⟩ := h
    rfl) fun cdv A outer s H vs Q E hr h => by
    obtain ⟨H0, o, z, i, n, st, l, rfl, R, hl, hz, hx, kok, kno⟩ := h
    refine ⟨_, (pss_cons (ps_if (pt_not (pt_val (pe_meth (pv 0) T.cl_Reading T.me_Reading_begins G_Reading_begins (hr.mono (by first | decide | omega)) b_Reading_begins v_Reading_begins pass0 (pa_cons pe_str pa_nil)))) (pss_one (ps_expr (pe_call G__refuse (hr.mono (by first | decide | omega)) rfl T.g__refuse T.k__refuse b__refuse v__refuse (passes_call (takes_of rfl rfl rfl rfl) (fun _ _ _ _ h => h)) (pa_cons (eFld K rfl (pv 0) rfl) (pa_cons (eFld K rfl (pv 0) rfl) (pa_cons pe_str pa_nil)))))) pss_nil)
  (pss_one (ps_expr (pe_meth0 (pv 0) T.cl_Reading T.me_Reading_read_begin_tag G_Reading_read_begin_tag (hr.mono (by first | decide | omega)) b_Reading_read_begin_tag v_Reading_read_begin_tag (passes_call (takes_of rfl rfl rfl rfl) (fun _ _ _ _ h => h)))))), ?_⟩
    have hlt : ("<" : Str).cps.toList = [60] := by decide +kernel
    have f := rd_fld (K := K) T R (σ := [some (.ref o)]) rfl
    refine st_seq (st_if (ans_not (ans_v (rd_begin1 (K := K) R hl rfl hlt))) (fun hb => ?_) (fun hb => ?_))
    · exact rd_refuse f.1 f.2.1 hx hl hz (kno fun q => by rw [decide_eq_true q] at hb; cases hb)
    have hn : l.head? = some 60 := by simpa using hb
    dsimp only [tNext]
    obtain ⟨dx, hR⟩ := id R
    exact ⟨_, rfl, o, dx, _, rfl, hR, fn_Reading_read_begin_tag .., kok hn⟩
theorem ok_Reading_read_part (T : TX K mg) : Can P w K mg base (L2.CX P w) 7 (He.fAd K at_Reading_read_part) ps_Reading_read_part [] (spPart K) := by
  obtain ⟨fd_Reading_begins, G_Reading_begins, ds_Reading_begins, v_Reading_begins, b_Reading_begins⟩ := ok_Reading_begins (P := P) (w := w) (base := base) T
  obtain ⟨fd_Reading_read_begin_tag, G_Reading_read_begin_tag, ds_Reading_read_begin_tag, v_Reading_read_begin_tag, b_Reading_read_begin_tag⟩ := ok_Reading_read_begin_tag (P := P) (w := w) (base := base) T
  obtain ⟨fd_Reading_read_end_tag, G_Reading_read_end_tag, ds_Reading_read_end_tag, v_Reading_read_end_tag, b_Reading_read_end_tag⟩ := ok_Reading_read_end_tag (P := P) (w := w) (base := base) T
  obtain ⟨fd_Reading_read_text, G_Reading_read_text, ds_Reading_read_text, v_Reading_read_text, b_Reading_read_text⟩ := ok_Reading_read_text (P := P) (w := w) (base := base) T
  exact mk_Reading_read_part T fun fd F => defX F sc_Reading_read_part (fun vs H Q E h => by
    obtain ⟨o, z, i, n, st, l, rfl, _⟩ := h
    rfl) fun cdv A outer s H vs Q E hr h => by
    obtain ⟨o, z, i, n, st, l, rfl, R, hl, k1, k2, k3⟩ := h
    refine ⟨_, (pss_one (ps_if (pt_val (pe_meth (pv 0) T.cl_Reading T.me_Reading_begins G_Reading_begins (hr.mono (by first | decide | omega)) b_Reading_begins v_Reading_begins pass0 (pa_cons pe_str pa_nil))) (pss_one (ps_expr (pe_meth0 (pv 0) T.cl_Reading T.me_Reading_read_end_tag G_Reading_read_end_tag (hr.mono (by first | decide | omega)) b_Reading_read_end_tag v_Reading_read_end_tag (passes_call (takes_of rfl rfl rfl rfl) (fun _ _ _ _ h => h))))) (pss_one (ps_if (pt_val (pe_meth (pv 0) T.cl_Reading T.me_Reading_begins G_Reading_begins (hr.mono (by first | decide | omega)) b_Reading_begins v_Reading_begins pass0 (pa_cons pe_str pa_nil))) (pss_one (ps_expr (pe_meth0 (pv 0) T.cl_Reading T.me_Reading_read_begin_tag G_Reading_read_begin_tag (hr.mono (by first | decide | omega)) b_Reading_read_begin_tag v_Reading_read_begin_tag (passes_call (takes_of rfl rfl rfl rfl) (fun _ _ _ _ h => h))))) (pss_one (ps_expr (pe_meth0 (pv 0) T.cl_Reading T.me_Reading_read_text G_Reading_read_text (hr.mono (by first | decide | omega)) b_Reading_read_text v_Reading_read_text (passes_call (takes_of rfl rfl rfl rfl) (fun _ _ _ _ h => h))))))))), ?_⟩
    have hlt : ("<" : Str).cps.toList = [60] := by decide +kernel
    have hle : ("</" : Str).cps.toList = [60, 47] := by decide +kernel
    obtain ⟨dx, hR⟩ := id R
    refine rd_begins (K := K) R hl rfl val_c ⟨_, rfl, ?_⟩
    rw [hle, show ([60, 47] : List Nat).length = 2 from rfl]
    by_cases h1 : l.take 2 = [60, 47]
    · rw [decide_eq_true h1]
      exact iteT ⟨_, rfl, o, dx, _, rfl, hR, fn_Reading_read_end_tag .., k1 h1⟩
    rw [decide_eq_false h1]
    refine iteF (rd_begin1 (K := K) R hl rfl hlt _ ⟨_, rfl, ?_⟩)
    by_cases h2 : l.head? = some 60
    · rw [decide_eq_true h2]
      exact iteT ⟨_, rfl, o, dx, _, rfl, hR, fn_Reading_read_begin_tag .., k2 h1 h2⟩
    · rw [decide_eq_false h2]
      exact iteF ⟨_, rfl, o, dx, _, rfl, hR, fn_Reading_read_text .., k3 h1 h2⟩
theorem ok_Reading_init (T : TX K mg) : Can P w K mg base CX0 1 (He.fAd K at_Reading_init) ps_Reading_init [] (spInit K) := mk_Reading_init T fun fd F => def0 F sc_Reading_init (fun vs H Q E h => by
  obtain ⟨o, dx, z, rfl, _⟩ := h
  rfl) fun cdv A outer s H vs Q E hr h => by
  obtain ⟨o, dx, z, rfl, ho, k⟩ := h
  refine ⟨_, (pss_cons (sFd K rfl (pv 0) (pv 1) rfl)
  (pss_cons (sFd K rfl (pv 0) pe_int rfl)
  (pss_cons (sFd K rfl (pv 0) pe_int rfl)
  (pss_one (sFd K rfl (pv 0) (pe_lst (pa_cons (pe_tup (pa_cons pe_str (pa_cons (pe_lst pa_nil) pa_nil))) pa_nil)) rfl))))), ?_⟩
  refine st_seq ⟨_, rfl, _, rfl, o, _, dx, [], rfl, ho, T.cl_Reading, T.na_Reading_source, by decide, ?_⟩
  refine st_seq ⟨_, rfl, o, _, dx, [("source", .str z)], rfl, upd_same, T.cl_Reading, T.na_Reading_reached, (by decide : 1 < 1000), ?_⟩
  rw [pf_Reading_reached, upd_upd]
  dsimp only
  refine st_seq ⟨_, rfl, o, _, dx, _, rfl, upd_same, T.cl_Reading, T.na_Reading_nodes, (by decide : 2 < 1000), ?_⟩
  rw [pf_Reading_nodes, upd_upd]
  dsimp only
  have oX : upd H o (.ins (He.ga K "Reading") dx [("source", .str z), ("reached", .int 0), ("nodes", .int 0)]) o = some (.ins (He.ga K "Reading") dx [("source", .str z), ("reached", .int 0), ("nodes", .int 0)]) := upd_same
  have eX : Kp [o] H (upd H o (.ins (He.ga K "Reading") dx [("source", .str z), ("reached", .int 0), ("nodes", .int 0)])) := Kp.up
  generalize upd H o (.ins (He.ga K "Reading") dx [("source", .str z), ("reached", .int 0), ("nodes", .int 0)]) = X at oX eX ⊢
  have back : ∀ a, X a = none → H a = none := fun a h => eX.back (fun b hb => by rw [List.mem_singleton.mp hb, oX]; nofun) h
  refine ⟨by show 0 ≤ sizeLine; decide, fun l hl => ⟨by show 2 ≤ sizeLine; decide, fun t ht => ⟨by show 1 ≤ sizeLine; decide, fun st hst => ?_⟩⟩⟩
  have nlo : l ≠ o := fun e => by rw [e, oX] at hl; cases hl
  have htl : t ≠ l := fun e => by rw [e, upd_same] at ht; cases ht
  rw [upd_ne htl] at ht
  have nto : t ≠ o := fun e => by rw [e, oX] at ht; cases ht
  have hsn : st ≠ t := fun e => by rw [e, upd_same] at hst; cases hst
  rw [upd_ne hsn] at hst
  have hsl : st ≠ l := fun e => by rw [e, upd_same] at hst; cases hst
  rw [upd_ne hsl] at hst
  have nso : st ≠ o := fun e => by rw [e, oX] at hst; cases hst
  refine ⟨_, rfl, o, _, dx, [("source", .str z), ("reached", .int 0), ("nodes", .int 0)], rfl, by rw [upd_ne nso.symm, upd_ne nto.symm, upd_ne nlo.symm]; exact oX, T.cl_Reading, T.na_Reading_stack, (by decide : 3 < 1000), ?_⟩
  rw [pf_Reading_stack]
  refine k _ st t l (back _ hst) (back _ ht) (back _ hl) hsn hsl htl ⟨dx, upd_same⟩ ?_ ?_ ?_ ?_
  · rw [upd_ne nso, upd_same]
  · rw [upd_ne nto, upd_ne hsn.symm, upd_same]
  · rw [upd_ne nlo, upd_ne hsl.symm, upd_ne htl.symm, upd_same]
  · refine eX.trans (((Kp.new hl).trans (Kp.new ?_)).trans ((Kp.new ?_).trans (Kp.put (by simp))))
    · rw [upd_ne htl]
      exact ht
    · rw [upd_ne hsn, upd_ne hsl]
      exact hst
end
/-! ### the program's reader on every text, whole -/
/-- one frame: where it is, and that what it holds is data -/
structure FrG (K : PySem.W.Frag) (H0 : Hp) (S : List Addr) (G : Hp) (m : Nat) (above : List V) (f : Fr) : Prop where
  t : G f.t = some (.tup [.str f.n, .ref f.l])
  l : G f.l = some (.lst (f.vs ++ above))
  c : Clo K S G f.vs f.ds
  few : f.vs.length + above.length ≤ m
  h : H0 f.l = none
def FrsG (K : PySem.W.Frag) (H0 : Hp) (S : List Addr) (G : Hp) (m : Nat) : List V → List Fr → Prop
  | _, [] => True
  | above, f :: r => FrG K H0 S G m above f ∧ FrsG K H0 S G m [.ref f.t] r
theorem FrG.step {K : PySem.W.Frag} {H0 : Hp} {S S1 S' : List Addr} {G G1 : Hp} {m m' : Nat} {above : List V} {f : Fr} (h : FrG K H0 S G m above f) (e : Kp S' G G1) (hl : f.l ∉ S') (ht : ∀ a ∈ S', ∀ xs, G a ≠ some (.tup xs)) (hC : ∀ vs ds, Clo K S G vs ds → Clo K S1 G1 vs ds) (hm : m ≤ m') : FrG K H0 S1 G1 m' above f :=
  ⟨e.at h.t fun z => ht _ z _ h.t, e.at h.l hl, hC _ _ h.c, Nat.le_trans h.few hm, h.h⟩
theorem FrsG.step {K : PySem.W.Frag} {H0 : Hp} {S S1 S' : List Addr} {G G1 : Hp} {m m' : Nat} (e : Kp S' G G1) (ht : ∀ a ∈ S', ∀ xs, G a ≠ some (.tup xs)) (hC : ∀ vs ds, Clo K S G vs ds → Clo K S1 G1 vs ds) (hm : m ≤ m') :
    ∀ {r : List Fr} {above : List V}, (∀ f ∈ r, f.l ∉ S') → FrsG K H0 S G m above r → FrsG K H0 S1 G1 m' above r
  | [], _, _, _ => trivial
  | f :: r, _, hl, ⟨h1, h2⟩ => ⟨h1.step e (hl f (List.mem_cons_self ..)) ht hC hm, FrsG.step e ht hC hm (fun g hg => hl g (List.mem_cons_of_mem _ hg)) h2⟩
/-- what the model has of it -/
def mo (F : List Fr) : List Fram := F.map fun f => (f.n, f.ds)
structure InvG (K : PySem.W.Frag) (H0 : Hp) (z : Str) (o st : Addr) (i n : Nat) (l : List Nat) (F : List Fr) (G : Hp) : Prop where
  rd : RdO K G o z i n st
  rem : remS z i l
  stk : G st = some (.lst (F.map fun f => V.ref f.t).reverse)
  nd : (o :: st :: F.map Fr.l).Nodup
  fr : FrsG K H0 (o :: st :: F.map Fr.l) G n [] F
  ex : Ex H0 G
  ho : H0 o = none
  hs : H0 st = none
  len : F.length ≤ 61
  five : n ≤ 5000
section
variable {K : PySem.W.Frag} {H0 : Hp} {z : Str} {o st : Addr} {i n : Nat} {l : List Nat}
theorem frg_lst {S : List Addr} {G : Hp} {m : Nat} : ∀ {r : List Fr} {above : List V}, FrsG K H0 S G m above r → ∀ f ∈ r, (∃ ys, G f.l = some (.lst ys)) ∧ H0 f.l = none
  | [], _, _, _, h => by cases h
  | f :: r, _, ⟨h1, h2⟩, g, hg => by
    rcases List.mem_cons.mp hg with rfl | hg
    · exact ⟨⟨_, h1.l⟩, h1.h⟩
    · exact frg_lst h2 g hg
theorem InvG.notup {F : List Fr} {G : Hp} (I : InvG K H0 z o st i n l F G) : ∀ a ∈ o :: st :: F.map Fr.l, ∀ xs, G a ≠ some (.tup xs) := fun a ha xs => by
  rcases List.mem_cons.mp ha with rfl | ha
  · obtain ⟨dx, h⟩ := I.rd
    rw [h]
    nofun
  rcases List.mem_cons.mp ha with rfl | ha
  · rw [I.stk]
    nofun
  · obtain ⟨f, hf, rfl⟩ := List.mem_map.mp ha
    obtain ⟨⟨ys, h⟩, _⟩ := frg_lst I.fr f hf
    rw [h]
    nofun
theorem InvG.on {F : List Fr} {G : Hp} (I : InvG K H0 z o st i n l F G) : ∀ a ∈ o :: st :: F.map Fr.l, G a ≠ none := fun a ha => by
  rcases List.mem_cons.mp ha with rfl | ha
  · exact I.rd.on
  rcases List.mem_cons.mp ha with rfl | ha
  · rw [I.stk]
    nofun
  · obtain ⟨f, hf, rfl⟩ := List.mem_map.mp ha
    obtain ⟨⟨ys, h⟩, _⟩ := frg_lst I.fr f hf
    rw [h]
    nofun
theorem InvG.fresh {F : List Fr} {G : Hp} (I : InvG K H0 z o st i n l F G) : ∀ a ∈ o :: st :: F.map Fr.l, H0 a = none := fun a ha => by
  rcases List.mem_cons.mp ha with rfl | ha
  · exact I.ho
  rcases List.mem_cons.mp ha with rfl | ha
  · exact I.hs
  · obtain ⟨f, hf, rfl⟩ := List.mem_map.mp ha
    exact (frg_lst I.fr f hf).2
theorem st_split {G : Hp} {f : Fr} {r : List Fr} (h : G st = some (.lst ((f :: r).map fun f => V.ref f.t).reverse)) : G st = some (.lst ((r.map fun f => V.ref f.t).reverse ++ [.ref f.t])) := by
  rw [h, List.map_cons, List.reverse_cons]
/-- a begin tag -/
theorem InvG.begin {f : Fr} {r : List Fr} {G : Hp} {Q : VK} {E : XK} (I : InvG K H0 z o st i n (60 :: l) (f :: r) G) (hz : z.cps.size ≤ 200000)
    (kno : ∀ j y, rdBegin (mo (f :: r)) (60 :: l) i n = .no j y → BadR K H0 E z j y)
    (k : ∀ (l' : List Nat) (i' n' : Nat) (F' : List Fr) (G' : Hp), rdBegin (mo (f :: r)) (60 :: l) i n = .ok (mo F') l' i' n' → InvG K H0 z o st i' n' l' F' G' → i < i' → Q .non G') : spBegin K [.ref o] G Q E := by
  obtain ⟨h1, h2⟩ := I.fr
  have hnd := I.nd
  have hfew := h1.few
  rw [List.length_nil, Nat.add_zero] at hfew
  have h5 := I.five
  have nls : f.l ≠ st := fun q => by
    have := (List.nodup_cons.mp (List.nodup_cons.mp hnd).2).1
    exact this (by rw [← q]; exact List.mem_cons_self ..)
  have hSub : ∀ a ∈ [o, f.l, st], a ∈ o :: st :: (f :: r).map Fr.l := by simp
  have hin : ∀ g ∈ r, g.l ∉ [o, f.l, st] := fun g hg q => by
    have hm : g.l ∈ r.map Fr.l := List.mem_map.mpr ⟨g, hg, rfl⟩
    obtain ⟨n1, n2⟩ := List.nodup_cons.mp hnd
    obtain ⟨n3, n4⟩ := List.nodup_cons.mp n2
    rw [List.map_cons] at n1 n3 n4
    obtain ⟨n5, _⟩ := List.nodup_cons.mp n4
    simp only [List.mem_cons, List.not_mem_nil, or_false] at q
    rcases q with q | q | q
    · exact n1 (by rw [← q]; exact List.mem_cons_of_mem _ (List.mem_cons_of_mem _ hm))
    · exact n5 (by rw [← q]; exact hm)
    · exact n3 (by rw [← q]; exact List.mem_cons_of_mem _ hm)
  have hlen := I.len
  rw [List.length_cons] at hlen
  refine ⟨H0, o, z, i, n, st, f.t, f.l, (r.map fun f => V.ref f.t).reverse, f.vs, .str f.n, l, mo (f :: r), rfl, I.rd, I.rem, hz, I.ex, I.ho, I.hs, h1.h, st_split I.stk, h1.t, by have := h1.l; rwa [List.append_nil] at this, nls, by omega, by rw [List.length_reverse, List.length_map]; omega, by
    rw [List.length_reverse, List.length_map]
    show (List.map _ _).length = _
    rw [List.length_map, List.length_cons], kno, ?_⟩
  intro nm b l' i' eo hn5 hp60 hi hr2 G1 t' lq ht' hl' ntl R1 g1 g2 g3 g4 e1
  rw [List.length_reverse, List.length_map] at hp60
  have hS : ∀ a ∈ o :: st :: (f :: r).map Fr.l, a ≠ t' ∧ a ≠ lq := fun a ha => ⟨fun q => I.on a ha (q ▸ ht'), fun q => I.on a ha (q ▸ hl')⟩
  have hT : ∀ a ∈ [o, f.l, st], ∀ xs, G a ≠ some (.tup xs) := fun a ha => I.notup a (hSub a ha)
  have hEx : Ex H0 G1 := ex_kp I.ex e1 fun a ha => I.fresh a (hSub a ha)
  have htt : G1 f.t = some (.tup [.str f.n, .ref f.l]) := e1.at h1.t fun q => hT _ q _ h1.t
  cases b with
  | true =>
    rw [if_pos rfl] at g4 eo
    have eS : Kp (o :: st :: (f :: r).map Fr.l) G G1 := e1.mono hSub
    refine k _ _ _ ({ f with vs := f.vs ++ [.ref t'], ds := f.ds ++ [.el nm []] } :: r) G1 eo ⟨R1, hr2, ?_, I.nd, ⟨⟨htt, ?_, ?_, ?_, h1.h⟩, h2.step e1 hT (fun vs ds c => c.step eS) (Nat.le_succ n) hin⟩, hEx, I.ho, I.hs, I.len, by omega⟩ hi
    · rw [g4, List.map_cons, List.reverse_cons]
    · rw [List.append_nil]; exact g3
    · intro G2 e2
      rw [ds_app]
      refine dpAll_snoc (h1.c G2 (eS.trans e2)) ?_
      refine .tup (SqT.of (e2.at g1 fun q => (hS _ q).1 rfl)) (.cons (.str _) (.cons (.lst (SqL.of (e2.at g2 fun q => (hS _ q).2 rfl)) .nil) .nil))
    · show (f.vs ++ [V.ref t']).length + 0 ≤ n + 1
      rw [List.length_append, List.length_singleton]
      omega
  | false =>
    rw [if_neg nofun] at g4 eo
    have hon : ∀ a ∈ o :: st :: lq :: f.l :: r.map Fr.l, a = lq ∨ a ∈ o :: st :: (f :: r).map Fr.l := fun a ha => by
      simp only [List.map_cons, List.mem_cons] at ha ⊢
      rcases ha with h | h | h | h | h
      · exact .inr (.inl h)
      · exact .inr (.inr (.inl h))
      · exact .inl h
      · exact .inr (.inr (.inr (.inl h)))
      · exact .inr (.inr (.inr (.inr h)))
    have hC : ∀ vs ds, Clo K (o :: st :: (f :: r).map Fr.l) G vs ds → Clo K (o :: st :: lq :: f.l :: r.map Fr.l) G1 vs ds := fun vs ds c => c.open (e1.mono hSub) hl' hon
    refine k _ _ _ (⟨t', lq, nm, [], [], []⟩ :: f :: r) G1 eo ⟨R1, hr2, ?_, ?_, ⟨⟨g1, ?_, ?_, ?_, ?_⟩, ⟨htt, ?_, hC _ _ h1.c, ?_, h1.h⟩, h2.step e1 hT hC (Nat.le_succ n) hin⟩, hEx, I.ho, I.hs, ?_, by omega⟩ hi
    · rw [g4]
      simp
    · have a1 := hS o (by simp)
      have a2 := hS st (by simp)
      have a3 : lq ∉ (f :: r).map Fr.l := fun h => (hS lq (by simp only [List.mem_cons]; exact .inr (.inr h))).2 rfl
      show (o :: st :: lq :: (f :: r).map Fr.l).Nodup
      obtain ⟨n1, n2⟩ := List.nodup_cons.mp hnd
      obtain ⟨n3, n4⟩ := List.nodup_cons.mp n2
      refine List.nodup_cons.mpr ⟨fun h => ?_, List.nodup_cons.mpr ⟨fun h => ?_, List.nodup_cons.mpr ⟨a3, n4⟩⟩⟩
      · rcases List.mem_cons.mp h with h | h
        · exact n1 (by rw [h]; exact List.mem_cons_self ..)
        rcases List.mem_cons.mp h with h | h
        · exact a1.2 h
        · exact n1 (List.mem_cons_of_mem _ h)
      · rcases List.mem_cons.mp h with h | h
        · exact a2.2 h
        · exact n3 h
    · exact g2
    · exact fun G2 _ => .nil
    · exact Nat.zero_le _
    · exact ex_none I.ex hl'
    · exact g3
    · show f.vs.length + 1 ≤ n + 1
      omega
    · show r.length + 1 + 1 ≤ 61
      omega
/-- a text -/
theorem InvG.text {f : Fr} {r : List Fr} {G : Hp} {Q : VK} {E : XK} (I : InvG K H0 z o st i n l (f :: r) G) (h60 : l.head? ≠ some 60) (hz : z.cps.size ≤ 200000)
    (kno : ∀ j y, rdText (mo (f :: r)).length (l.length + 1) [] l i n = .no j y → BadR K H0 E z j y)
    (k : ∀ (y l' : List Nat) (i' n' : Nat) (F' : List Fr) (G' : Hp), rdText (mo (f :: r)).length (l.length + 1) [] l i n = .ok y l' i' n' → mo F' = addK (mo (f :: r)) (.txt (sL y)) → InvG K H0 z o st i' n' l' F' G' → i < i' → Q .non G') : spText K [.ref o] G Q E := by
  obtain ⟨h1, h2⟩ := I.fr
  have hfew := h1.few
  rw [List.length_nil, Nat.add_zero] at hfew
  have hnd := I.nd
  have h5 := I.five
  have hSub : ∀ a ∈ [o, f.l], a ∈ o :: st :: (f :: r).map Fr.l := by simp
  obtain ⟨n1, n2⟩ := List.nodup_cons.mp hnd
  obtain ⟨n3, n4⟩ := List.nodup_cons.mp n2
  rw [List.map_cons] at n1 n3 n4
  obtain ⟨n5, _⟩ := List.nodup_cons.mp n4
  have hin : ∀ g ∈ r, g.l ∉ [o, f.l] := fun g hg q => by
    have hm : g.l ∈ r.map Fr.l := List.mem_map.mpr ⟨g, hg, rfl⟩
    simp only [List.mem_cons, List.not_mem_nil, or_false] at q
    rcases q with q | q
    · exact n1 (by rw [← q]; exact List.mem_cons_of_mem _ (List.mem_cons_of_mem _ hm))
    · exact n5 (by rw [← q]; exact hm)
  have hlen := I.len
  rw [List.length_cons] at hlen
  have hml : (mo (f :: r)).length = (r.map fun f => V.ref f.t).reverse.length + 1 := by
    rw [List.length_reverse, List.length_map]
    show (List.map _ _).length = _
    rw [List.length_map, List.length_cons]
  rw [hml] at kno k
  refine ⟨H0, o, z, i, n, st, f.t, f.l, (r.map fun f => V.ref f.t).reverse, f.vs, .str f.n, l, rfl, I.rd, I.rem, hz, I.ex, I.ho, st_split I.stk, h1.t, by have := h1.l; rwa [List.append_nil] at this, by omega, by rw [List.length_reverse, List.length_map]; omega, kno, ?_⟩
  intro y l' i' n' eo hr2 G1 R1 g3 e1
  obtain ⟨rfl, hc, hll⟩ := rdText_first h60 eo
  have hn5 : n ≠ 5000 := by
    unfold cntR at hc
    split at hc
    · cases hc
    split at hc
    · cases hc
    · assumption
  have hT : ∀ a ∈ [o, f.l], ∀ xs, G a ≠ some (.tup xs) := fun a ha => I.notup a (hSub a ha)
  have hEx : Ex H0 G1 := ex_kp I.ex e1 fun a ha => I.fresh a (hSub a ha)
  have htt : G1 f.t = some (.tup [.str f.n, .ref f.l]) := e1.at h1.t fun q => hT _ q _ h1.t
  have eS : Kp (o :: st :: (f :: r).map Fr.l) G G1 := e1.mono hSub
  have hl1 := I.rem.len
  have hl2 := hr2.len
  refine k y l' i' _ ({ f with vs := f.vs ++ [.str (sL y)], ds := f.ds ++ [.txt (sL y)] } :: r) G1 eo rfl ⟨R1, hr2, ?_, I.nd, ⟨⟨htt, ?_, ?_, ?_, h1.h⟩, h2.step e1 hT (fun vs ds c => c.step eS) (Nat.le_succ n) hin⟩, hEx, I.ho, I.hs, I.len, by omega⟩ (by omega)
  · exact e1.at I.stk fun q => by
      simp only [List.mem_cons, List.not_mem_nil, or_false] at q
      rcases q with q | q
      · exact n1 (by rw [← q]; exact List.mem_cons_self ..)
      · exact n3 (by rw [← q]; exact List.mem_cons_self ..)
  · rw [List.append_nil]; exact g3
  · intro G2 e2
    rw [ds_app]
    exact dpAll_snoc (h1.c G2 (eS.trans e2)) (.str _)
  · show (f.vs ++ [V.str (sL y)]).length + 0 ≤ n + 1
    rw [List.length_append, List.length_singleton]
    omega
/-- an end tag -/
theorem InvG.close {f g : Fr} {r : List Fr} {G : Hp} {Q : VK} {E : XK} (I : InvG K H0 z o st i n (60 :: 47 :: l) (f :: g :: r) G) (hz : z.cps.size ≤ 200000)
    (kno : ∀ j y, rdEnd (mo (f :: g :: r)) (60 :: 47 :: l) i n = .no j y → BadR K H0 E z j y)
    (k : ∀ (l' : List Nat) (i' n' : Nat) (F' : List Fr) (G' : Hp), rdEnd (mo (f :: g :: r)) (60 :: 47 :: l) i n = .ok (mo F') l' i' n' → InvG K H0 z o st i' n' l' F' G' → i < i' → Q .non G') : spEnd K [.ref o] G Q E := by
  obtain ⟨h1, h2, h3⟩ := I.fr
  have hnd := I.nd
  have hlen := I.len
  have hfew := h2.few
  obtain ⟨n1, n2⟩ := List.nodup_cons.mp hnd
  obtain ⟨n3, n4⟩ := List.nodup_cons.mp n2
  rw [List.map_cons, List.map_cons] at n1 n3 n4
  obtain ⟨n5, n6⟩ := List.nodup_cons.mp n4
  have hSub : ∀ a ∈ [o, st], a ∈ o :: st :: (f :: g :: r).map Fr.l := by simp
  have hS1 : ∀ a ∈ o :: st :: (g :: r).map Fr.l, a ∈ o :: st :: (f :: g :: r).map Fr.l := by
    intro a ha
    simp only [List.map_cons, List.mem_cons] at ha ⊢
    rcases ha with h | h | h | h
    · exact .inl h
    · exact .inr (.inl h)
    · exact .inr (.inr (.inr (.inl h)))
    · exact .inr (.inr (.inr (.inr h)))
  have hno : ∀ u ∈ f :: g :: r, u.l ∉ [o, st] := fun u hu q => by
    have hm : u.l ∈ (f :: g :: r).map Fr.l := List.mem_map.mpr ⟨u, hu, rfl⟩
    simp only [List.mem_cons, List.not_mem_nil, or_false] at q
    rcases q with q | q
    · exact n1 (by rw [← q]; exact List.mem_cons_of_mem _ hm)
    · exact n3 (by rw [← q]; exact hm)
  refine ⟨H0, o, z, i, n, st, f.t, f.l, ((g :: r).map fun f => V.ref f.t).reverse, l, mo (f :: g :: r), rfl, I.rd, I.rem, hz, I.ex, I.ho, st_split I.stk, h1.t, kno, fun l' i' eo hi hr2 G1 R1 g4 e1 => ?_⟩
  have hT : ∀ a ∈ [o, st], ∀ xs, G a ≠ some (.tup xs) := fun a ha => I.notup a (hSub a ha)
  have hEx : Ex H0 G1 := ex_kp I.ex e1 fun a ha => I.fresh a (hSub a ha)
  have eS : Kp (o :: st :: (f :: g :: r).map Fr.l) G G1 := e1.mono hSub
  have hC : ∀ vs ds, Clo K (o :: st :: (f :: g :: r).map Fr.l) G vs ds → Clo K (o :: st :: (g :: r).map Fr.l) G1 vs ds := fun vs ds c => (c.step eS).less hS1
  have hft : f.t ∉ o :: st :: (g :: r).map Fr.l := fun q => I.notup _ (hS1 _ q) _ h1.t
  have hfl : f.l ∉ o :: st :: (g :: r).map Fr.l := fun q => by
    rcases List.mem_cons.mp q with q | q
    · exact n1 (by rw [← q]; exact List.mem_cons_of_mem _ (List.mem_cons_self ..))
    rcases List.mem_cons.mp q with q | q
    · exact n3 (by rw [← q]; exact List.mem_cons_self ..)
    · exact n5 q
  have gft := e1.at h1.t fun q => hT _ q _ h1.t
  have gfl := e1.at h1.l (hno f (List.mem_cons_self ..))
  rw [List.append_nil] at gfl
  refine k _ _ _ ({ g with vs := g.vs ++ [.ref f.t], ds := g.ds ++ [.el f.n f.ds] } :: r) G1 eo ⟨R1, hr2, g4, ?_, ⟨⟨e1.at h2.t fun q => hT _ q _ h2.t, ?_, ?_, ?_, h2.h⟩, h3.step e1 hT hC (Nat.le_refl n) fun u hu => hno u (List.mem_cons_of_mem _ (List.mem_cons_of_mem _ hu))⟩, hEx, I.ho, I.hs, ?_, I.five⟩ hi
  · refine List.nodup_cons.mpr ⟨fun h => n1 ?_, List.nodup_cons.mpr ⟨fun h => n3 (List.mem_cons_of_mem _ h), n6⟩⟩
    rcases List.mem_cons.mp h with h | h
    · exact List.mem_cons.mpr (.inl h)
    · exact List.mem_cons_of_mem _ (List.mem_cons_of_mem _ h)
  · have := e1.at h2.l (hno g (List.mem_cons_of_mem _ (List.mem_cons_self ..)))
    rw [List.append_nil]
    exact this
  · intro G2 e2
    rw [ds_app]
    refine dpAll_snoc (h2.c G2 (eS.trans (e2.mono hS1))) ?_
    exact .tup (SqT.of (e2.at gft hft)) (.cons (.str _) (.cons (.lst (SqL.of (e2.at gfl hfl)) (h1.c G2 (eS.trans (e2.mono hS1)))) .nil))
  · show (g.vs ++ [V.ref f.t]).length + 0 ≤ n
    rw [List.length_append]
    exact hfew
  · show r.length + 1 ≤ 61
    rw [List.length_cons, List.length_cons] at hlen
    omega
/-- a turn of the reader -/
theorem InvG.part {F : List Fr} {G : Hp} {Q : VK} {E : XK} (I : InvG K H0 z o st i n l F G) (hF : 1 < F.length) (hz : z.cps.size ≤ 200000)
    (kno : ∀ j y, rdPart (mo F) l i n = .no j y → BadR K H0 E z j y)
    (k : ∀ (l' : List Nat) (i' n' : Nat) (F' : List Fr) (G' : Hp), rdPart (mo F) l i n = .ok (mo F') l' i' n' → InvG K H0 z o st i' n' l' F' G' → i < i' → Q .non G') : spPart K [.ref o] G Q E := by
  obtain ⟨f, g, r, rfl⟩ : ∃ f g r, F = f :: g :: r := by
    match F, hF with
    | f :: g :: r, _ => exact ⟨f, g, r, rfl⟩
  unfold rdPart at kno k
  refine ⟨o, z, i, n, st, l, rfl, I.rd, I.rem, fun h => ?_, fun h h60 => ?_, fun h h60 => ?_⟩
  · rw [if_pos h] at kno k
    obtain ⟨l', rfl⟩ : ∃ l', l = 60 :: 47 :: l' := by
      match l, h with
      | a :: b :: l', h =>
        have h1 := List.cons.inj h
        have h2 := List.cons.inj h1.2
        exact ⟨l', by rw [h1.1, h2.1]⟩
    exact I.close hz kno k
  · rw [if_neg h, if_pos h60] at kno k
    obtain ⟨l', rfl⟩ : ∃ l', l = 60 :: l' := by
      cases l with
      | nil => cases h60
      | cons c q => exact ⟨q, by rw [Option.some.inj h60]⟩
    exact I.begin hz kno k
  · rw [if_neg h, if_neg h60] at kno k
    refine I.text h60 hz (fun j y e => ?_) fun y l' i' n' F' G' e em I' hi => ?_
    · rw [e] at kno
      exact kno _ _ rfl
    · rw [e] at k
      exact k l' i' n' F' G' (by rw [em]) I' hi
end
def spRead2 (K : PySem.W.Frag) : Sp := fun vs H Q E => ∃ z : Str, vs = [.str z] ∧ z.cps.size ≤ 1000000 ∧
  (200000 < z.cps.size → ∀ (d : Addr) (H' : Hp), H d = none → Ex H H' → H' d = some (.xd [("limit", .str "text")]) → E (.ref (He.ga K "TooLarge")) (some d) H') ∧
  (z.cps.size ≤ 200000 → (∀ j y, rdDoc z.cps.toList = .no j y → BadR K H E z j y) ∧ ∀ (nm : Str) (t : Tr) (ds : List Tr) (l : List Nat) (i n : Nat), rdDoc z.cps.toList = .ok [(nm, t :: ds)] l i n → ∀ (v : V) (H' : Hp), Ex H H' → Dp K H' v t.d → Q v H')
section
variable {P : Program} {w : World} {K : PySem.W.Frag} {mg : Str → Option Value} {base : Heap}
theorem ok_read_document (T : TX K mg) : Can P w K mg base (L2.CX P w) 9 (He.fAd K at_read_document) ps_read_document [] (spRead2 K) := by
  obtain ⟨fd_Reading_read_root, G_Reading_read_root, ds_Reading_read_root, v_Reading_read_root, b_Reading_read_root⟩ := ok_Reading_read_root (P := P) (w := w) (base := base) T
  obtain ⟨fd_Reading_read_part, G_Reading_read_part, ds_Reading_read_part, v_Reading_read_part, b_Reading_read_part⟩ := ok_Reading_read_part (P := P) (w := w) (base := base) T
  obtain ⟨fd_Reading_init, G_Reading_init, ds_Reading_init, v_Reading_init, b_Reading_init⟩ := ok_Reading_init (P := P) (w := w) (base := base) T
  obtain ⟨fd__refuse, G__refuse, ds__refuse, v__refuse, b__refuse⟩ := ok__refuse (P := P) (w := w) (base := base) T
  obtain ⟨fd_TooLarge_init, G_TooLarge_init, ds_TooLarge_init, v_TooLarge_init, b_TooLarge_init⟩ := ok_TooLarge_init (P := P) (w := w) (base := base) T
  exact mk_read_document T fun fd F => defX F sc_read_document (fun vs H Q E h => by
    obtain ⟨z, rfl, _⟩ := h
    rfl) fun cdv A outer s H vs Q E hr h => by
    obtain ⟨z, rfl, hzm, kbig, ksm⟩ := h
    refine ⟨_, (pss_cons (ps_if (pt_cmpR op_gt (pe_callB call_len_str (by rfl) T.n_len PySem.boot_len (pa_cons (pv 0) pa_nil)) (pe_glob (v := .int 200000) rfl T.c_MOST_CHARACTERS.choose_spec ⟨_, rfl⟩) (nomark _)) (pss_one (ps_raise rfl (takes_of rfl rfl rfl rfl) (pmk_oex T.ox_TooLarge T.oi_TooLarge T.ot_TooLarge G_TooLarge_init (hr.mono (by first | decide | omega)) b_TooLarge_init v_TooLarge_init pass0 rfl T.g_TooLarge (pa_cons pe_str pa_nil)))) pss_nil)
  (pss_cons (ps_set (i := 1) sc_read_document.nd rfl (Or.inl rfl) (pe_make T.m_Reading G_Reading_init (hr.mono (by first | decide | omega)) rfl T.g_Reading b_Reading_init v_Reading_init pass0 (pa_cons (pv 0) pa_nil)))
  (pss_cons (ps_expr (pe_meth0 (pv 1) T.cl_Reading T.me_Reading_read_root G_Reading_read_root (hr.mono (by first | decide | omega)) b_Reading_read_root v_Reading_read_root (passes_call (takes_of rfl rfl rfl rfl) (fun _ _ _ _ h => h))))
  (pss_cons (ps_while (passes_of rfl) (pt_cmpR op_gt (pe_callB (cLen K rfl) (by rfl) T.n_len PySem.boot_len (pa_cons (eFld K rfl (pv 1) rfl) pa_nil)) pe_int (nomark _))
  (pss_one (ps_expr (pe_meth0 (pv 1) T.cl_Reading T.me_Reading_read_part G_Reading_read_part (hr.mono (by first | decide | omega)) b_Reading_read_part v_Reading_read_part (passes_call (takes_of rfl rfl rfl rfl) (fun _ _ _ _ h => h))))))
  (pss_cons (ps_if (pt_cmpR op_lt (eFld K rfl (pv 1) rfl) (pe_callB call_len_str (by rfl) T.n_len PySem.boot_len (pa_cons (pv 0) pa_nil)) (nomark _)) (pss_one (ps_expr (pe_call G__refuse (hr.mono (by first | decide | omega)) rfl T.g__refuse T.k__refuse b__refuse v__refuse (passes_call (takes_of rfl rfl rfl rfl) (fun _ _ _ _ h => h)) (pa_cons (pv 0) (pa_cons (eFld K rfl (pv 1) rfl) (pa_cons pe_str pa_nil)))))) pss_nil)
  (pss_one (ps_ret (pe_ix (ixL K rfl) (pe_ix (ixT K rfl) (pe_ix (ixL K rfl) (eFld K rfl (pv 1) rfl) pe_int (fun _ _ => rfl)) pe_int (fun _ _ => rfl)) pe_int (fun _ _ => rfl))))))))), ?_⟩
    have hzl : z.length = z.cps.size := rfl
    have hzs : z.length ≤ sizeLine := Nat.le_trans hzm (by decide)
    refine st_seq (st_if (b := decide (200000 < z.cps.size)) (ans_v (val_is (val_I (val_cb (va_one (val_var rfl)) fun Q q => ⟨z, rfl, hzs, q⟩) val_c) (by
      congr 1
      rw [decide_eq_decide]
      omega))) (fun hb => ?_) (fun hb => ?_))
    · exact st_raise1 (W := fun cls d _ H => E cls d H) T.ox_TooLarge T.na_TooLarge_limit val_c fun d hd => kbig (of_decide_eq_true hb) d _ hd (Ex.new hd) upd_same
    have hz : z.cps.size ≤ 200000 := by have := of_decide_eq_false hb; omega
    obtain ⟨kno, kok⟩ := ksm hz
    clear kbig ksm hb
    have hrem : remS z 0 z.cps.toList := ⟨Nat.zero_le _, rfl⟩
    dsimp only [tNext]
    refine st_seq (go_asg ⟨_, rfl, fun o dx ho hdx hne => ⟨o, dx, z, rfl, upd_same, fun G st t l hst ht hl nst nsl ntl R gst gt gl e => ⟨rfl, ?_⟩⟩⟩)
    dsimp only [gName]
    have hH : ∀ {a : Addr}, upd (upd H dx (.own o)) o (.ins (He.ga K "Reading") dx []) a = none → H a = none ∧ a ≠ o := fun {a} h => by
      have n1 : a ≠ o := fun q => by rw [q, upd_same] at h; cases h
      rw [upd_ne n1] at h
      have n2 : a ≠ dx := fun q => by rw [q, upd_same] at h; cases h
      rw [upd_ne n2] at h
      exact ⟨h, n1⟩
    have hEx : Ex H G := fun a u ha => e.at (by rw [upd_ne (ne_of_none ha ho), upd_ne (ne_of_none ha hdx)]; exact ha) (by simpa using ne_of_none ha ho)
    have hndp : (o :: st :: [l]).Nodup := by
      simp only [List.nodup_cons, List.mem_cons, List.not_mem_nil, or_false, not_or, not_false_eq_true, List.nodup_nil, and_true]
      exact ⟨⟨(hH hst).2.symm, (hH hl).2.symm⟩, nsl⟩
    have I : InvG K H z o st 0 0 z.cps.toList [⟨t, l, "", [], [], []⟩] G := ⟨R, hrem, gst, hndp, ⟨⟨gt, gl, fun _ _ => .nil, Nat.le_refl _, (hH hl).1⟩, trivial⟩, hEx, ho, (hH hst).1, by show 1 ≤ 61; decide, by decide⟩
    have fl : ∀ {G : Hp} {i n : Nat}, RdO K G o z i n st → Val (tFld K (tVar 1) "reached") [some (.str z), some (.ref o)] G (.int (i : Int)) ∧ Val (tFld K (tVar 1) "stack") [some (.str z), some (.ref o)] G (.ref st) := fun {G i n} h => by
      obtain ⟨dx, h⟩ := h
      exact ⟨fun Q q => ⟨_, rfl, o, _, dx, _, _, rfl, h, T.cl_Reading, T.na_Reading_reached, fl_Reading_reached .., q⟩, fun Q q => ⟨_, rfl, o, _, dx, _, _, rfl, h, T.cl_Reading, T.na_Reading_stack, fl_Reading_stack .., q⟩⟩
    obtain ⟨dx1, hR1⟩ := id R
    unfold rdDoc rdRoot at kno kok
    refine st_seq ⟨_, rfl, o, dx1, _, rfl, hR1, fn_Reading_read_root .., ?_⟩
    dsimp only [tNil, List.nil_append]
    refine ⟨H, o, z, 0, 0, st, _, rfl, I.rd, I.rem, hz, I.ex, fun h60 => ?_, fun h60 => ?_⟩
    rotate_left
    · rw [if_neg h60] at kno
      exact kno _ _ rfl
    rw [if_pos h60] at kno kok
    obtain ⟨l0, hl0⟩ : ∃ l0, z.cps.toList = 60 :: l0 := by
      cases h : z.cps.toList with
      | nil => rw [h] at h60; cases h60
      | cons c q => rw [h] at h60; exact ⟨q, by rw [Option.some.inj h60]⟩
    rw [hl0] at I kno kok
    refine I.begin hz (fun j y e => ?_) fun l1 i1 n1 F1 G1 e1 I1 hi1 => ?_
    · have e : rdBegin [("", [])] (60 :: l0) 0 0 = .no j y := e
      rw [e] at kno
      exact kno _ _ rfl
    have e1 : rdBegin [("", [])] (60 :: l0) 0 0 = .ok (mo F1) l1 i1 n1 := e1
    have hWB : WB (mo F1) := rdBegin_WB (by simp) e1
    rw [e1] at kno kok
    dsimp only at kno kok
    refine st_seq ⟨fun m σ G => ∃ (i n f : Nat) (l : List Nat) (F : List Fr), σ = [some (.str z), some (.ref o)] ∧ m = l.length ∧ InvG K H z o st i n l F G ∧ WB (mo F) ∧ l.length < f ∧ rdLoop f (mo F) l i n = rdLoop (l1.length + 1) (mo F1) l1 i1 n1, ⟨_, i1, n1, _, l1, F1, rfl, rfl, I1, hWB, Nat.lt_succ_self _, rfl⟩, ?_⟩
    rintro m σ G ⟨i, n, f, l, F, rfl, rfl, I, hW, hf, hq⟩
    obtain ⟨f, rfl⟩ : ∃ f', f = f' + 1 := ⟨f - 1, by omega⟩
    rw [rdLoop] at hq
    have hml : (mo F).length = F.length := List.length_map ..
    rw [hml] at hq
    have hS := SqL.of (K := K) I.stk
    refine ans_v (val_I (val_lenL (fl I.rd).2 hS) val_c) _ ?_
    rw [List.length_reverse, List.length_map]
    by_cases hF : 1 < F.length
    · rw [decide_eq_true (by omega)]
      rw [if_pos hF] at hq
      refine iteT ⟨fun σ' G' => ∃ m', m' < l.length ∧ ∃ (i n f : Nat) (l : List Nat) (F : List Fr), σ' = [some (.str z), some (.ref o)] ∧ m' = l.length ∧ InvG K H z o st i n l F G' ∧ WB (mo F) ∧ l.length < f ∧ rdLoop f (mo F) l i n = rdLoop (l1.length + 1) (mo F1) l1 i1 n1, fun _ _ h => h, ?_⟩
      obtain ⟨dx2, hR2⟩ := id I.rd
      refine ⟨_, rfl, o, dx2, _, rfl, hR2, fn_Reading_read_part .., ?_⟩
      dsimp only [tNil, List.nil_append]
      refine I.part hF hz (fun j y ey => ?_) fun l' i' n' F' G' ey I' hi' => ?_
      · rw [ey] at hq
        rw [← hq] at kno
        exact kno _ _ rfl
      · have hW' : WB (mo F') := rdPart_WB (by rw [hml]; exact hF) ey
        rw [ey] at hq
        have a1 := I.rem.len
        have a2 := I'.rem.len
        exact ⟨_, by omega, i', n', f, l', F', rfl, rfl, I', hW', by omega, hq⟩
    · rw [decide_eq_false (by omega)]
      rw [if_neg hF] at hq
      refine iteF ?_
      rw [← hq] at kno kok
      dsimp only at kno kok
      obtain ⟨fr, rfl⟩ : ∃ fr, F = [fr] := by
        match F, hF, hW with
        | [fr], _, _ => exact ⟨fr, rfl⟩
        | _ :: _ :: _, h, _ => exact absurd (by simp) h
      have hlen := I.rem.len
      refine st_seq (st_if (b := !decide (l = [])) (ans_v (val_is (val_I (fl I.rd).1 (val_cb (va_one (val_var rfl)) fun Q q => ⟨z, rfl, hzs, q⟩)) (by
        congr 1
        cases l with
        | nil =>
          rw [List.length_nil] at hlen
          rw [decide_eq_true rfl, decide_eq_false (by omega)]
          rfl
        | cons c q =>
          rw [List.length_cons] at hlen
          rw [decide_eq_true (by omega)]
          rfl))) (fun hb => ?_) (fun hb => ?_))
      · have hne : l ≠ [] := fun q => by rw [decide_eq_true q] at hb; cases hb
        rw [if_neg hne] at kno
        exact rd_refuse (val_var rfl) (fl I.rd).1 I.ex I.rem hz (kno _ _ rfl)
      have hne : l = [] := by simpa using hb
      rw [if_pos hne] at kok
      dsimp only [tNext]
      obtain ⟨h1, _⟩ := I.fr
      have hds : fr.ds ≠ [] := hW
      have hD := h1.c G Kp.refl
      have hmo : mo [fr] = [(fr.n, fr.ds)] := rfl
      rw [hmo] at kok
      have hl1 := h1.l
      generalize fr.ds = ds at hds hD kok
      generalize fr.vs = ws at hD hl1
      obtain ⟨t0, ds', rfl⟩ : ∃ t0 ds', ds = t0 :: ds' := by
        cases ds with
        | nil => exact absurd rfl hds
        | cons a b => exact ⟨a, b, rfl⟩
      obtain ⟨v, ws', rfl, hv2⟩ : ∃ v ws', ws = v :: ws' ∧ Dp K G v t0.d := by
        cases hD with
        | cons a b => exact ⟨_, _, rfl, a⟩
      have hst1 : G st = some (.lst [.ref fr.t]) := I.stk
      exact st_ret (val_ixL (val_ixT (val_ixL (fl I.rd).2 val_c (SqL.of hst1) at_cons) val_c (SqT.of h1.t) at_one) val_c (SqL.of hl1) at_cons) (kok _ _ _ _ _ _ rfl v G I.ex hv2)
end
/-! ### the first error of a text, as the law asks for it -/
def spErr (K : PySem.W.Frag) : Sp := fun vs H Q _ => ∃ z : Str, vs = [.str z] ∧ z.cps.size ≤ 200000 ∧
  (∀ j y, rdDoc z.cps.toList = .no j y → ∀ (p : Addr) (H' : Hp), H p = none → Ex H H' → H' p = some (.lst [.int (lineZ z j), .int (colZ z j), .str y]) → Q (.ref p) H') ∧
  ∀ (nm : Str) (t : Tr) (ds : List Tr) (l : List Nat) (i n : Nat), rdDoc z.cps.toList = .ok [(nm, t :: ds)] l i n → ∀ (p : Addr) (H' : Hp), H p = none → Ex H H' → H' p = some (.lst []) → Q (.ref p) H'
def spPlace (K : PySem.W.Frag) : Sp := fun vs H Q _ => ∃ (z : Str) (j : Nat), vs = [.str z, .int (j : Int)] ∧ j ≤ z.cps.size ∧ z.cps.size ≤ 40000 ∧
  ∀ (p : Addr) (H' : Hp), H p = none → Ex H H' → H' p = some (.lst [.int (lineZ z j), .int (colZ z j)]) → Q (.ref p) H'
section
variable {P : Program} {w : World} {K : PySem.W.Frag} {mg : Str → Option Value} {base : Heap}
theorem ok__law_error (T : TX K mg) : Can P w K mg base CX0 11 (He.fAd K at__law_error) ps__law_error [] (spErr K) := by
  obtain ⟨fd_read_document, G_read_document, ds_read_document, v_read_document, b_read_document⟩ := ok_read_document (P := P) (w := w) (base := base) T
  exact mk__law_error T fun fd F => def0 F sc__law_error (fun vs H Q E h => by
    obtain ⟨z, rfl, _⟩ := h
    rfl) fun cdv A outer s H vs Q E hr h => by
    obtain ⟨z, rfl, hz, kno, kok⟩ := h
    refine ⟨_, (pss_cons (ps_try_as (i := 1) rfl rfl sc__law_error.nd rfl rfl ⟨rfl, by decide, .inl T.g_TextError⟩ takes0 (fun W pn xe tk _ => (pss_one (ps_expr (pe_call G_read_document (hr.mono (by first | decide | omega)) rfl T.g_read_document T.k_read_document b_read_document v_read_document (passes_call (E := fun cls d H => ∀ σ, W cls d σ H) tk (fun _ _ σ _ h => h σ)) (pa_cons (pv 0) pa_nil))))) (fun a oe cls d pn hz hf => ps_len (n := 2) rfl (pss_one (ps_ret (pe_lst (pa_cons (pe_xf T.xf_TextError T.na_TextError_line hz hf (pv 1)) (pa_cons (pe_xf T.xf_TextError T.na_TextError_column hz hf (pv 1)) (pa_cons (pe_xf T.xf_TextError T.na_TextError_reason hz hf (pv 1)) pa_nil))))))))
  (pss_one (ps_ret (pe_lst pa_nil)))), ?_⟩
    refine st_seq (go_drop ?_)
    refine ⟨_, rfl, z, rfl, by omega, fun hb => by omega, fun hs => ⟨fun j y e d H' hd e' hx σ => ⟨true, T.ex_TextError_TextError, fun _ a ha hl => ?_, nofun⟩, fun nm t ds l i n e v H' e' hv => ?_⟩⟩
    · have h3 : (named σ a (some 1))[1]? = some (some (V.ref a)) := by
        show (σ.set 1 (some (V.ref a)))[1]? = _
        have hl' : (σ.set 1 (some (V.ref a))).length = 2 := hl
        exact List.getElem?_set_self (by rw [List.length_set] at hl'; omega)
      refine go_ret ⟨_, h3, rfl, rfl, d, _, .int (lineZ z j), rfl, hx, rfl, _, h3, rfl, rfl, d, _, .int (colZ z j), rfl, hx, rfl, _, h3, rfl, rfl, d, _, .str y, rfl, hx, rfl, by show 3 ≤ sizeLine; decide, fun t ht => ?_⟩
      exact kno j y e t _ (fresh_back e' ht) (e'.trans (Ex.new ht)) upd_same
    · dsimp only
      refine go_ret ⟨by show 0 ≤ sizeLine; decide, fun p hp => ?_⟩
      exact kok nm t ds l i n e p _ (fresh_back e' hp) (e'.trans (Ex.new hp)) upd_same
theorem ok__law_place (T : TX K mg) : Can P w K mg base CX0 1 (He.fAd K at__law_place) ps__law_place [] (spPlace K) := mk__law_place T fun fd F => def0 F sc__law_place (fun vs H Q E h => by
  obtain ⟨z, j, rfl, _⟩ := h
  rfl) fun cdv A outer s H vs Q E hr h => by
  obtain ⟨z, j, rfl, hj, hz, k⟩ := h
  refine ⟨_, (pss_cons (ps_set (i := 2) sc__law_place.nd rfl (Or.inr rfl) (pe_slice sl_str (pv 0) po_none (po_some (pv 1))))
  (pss_cons (ps_setLc (i := 3) (own := [("k", 5)]) (g := gName 5) rfl sc__law_place.nd rfl rfl (sw_true rfl rfl rfl (by decide +kernel)) (pi_range1 rfl T.n_range (pa_cons (pe_callB call_len_str (by rfl) T.n_len PySem.boot_len (pa_cons (pv 2) pa_nil)) pa_nil)) (blkOk_by (own := [("k", 5)]) (N := N__law_place) (sc := defScope s__law_place) (by decide +kernel)) (fun _ _ _ _ _ => by exact (pg_name (i := 5) sc__law_place.nd rfl (Or.inl rfl))) (fun _ _ _ _ _ => by exact pts_one (pt_cmpR op_eq (pe_ix ix_str (pv 2) (pv 5) (fun _ _ => rfl)) pe_str (nomark _))) (fun _ _ _ _ _ => by exact (pv 5)))
  (pss_cons (ps_set (i := 4) sc__law_place.nd rfl (Or.inl rfl) (pe_op op_add (pv 1) pe_int))
  (Evl.pss_cut (ps_if (pt_cmpR op_gt (pe_callB (cLen K rfl) (by rfl) T.n_len PySem.boot_len (pa_cons (pv 3) pa_nil)) pe_int (nomark _)) (pss_one (ps_set (i := 4) sc__law_place.nd rfl (Or.inl rfl) (pe_op op_sub (pv 1) (pe_ix (ixL K rfl) (pv 3) (pe_op op_sub (pe_callB (cLen K rfl) (by rfl) T.n_len PySem.boot_len (pa_cons (pv 3) pa_nil)) pe_int) (fun _ _ => rfl))))) pss_nil)
  (pss_one (ps_ret (pe_lst (pa_cons (pe_op op_add pe_int (pe_callB (cLen K rfl) (by rfl) T.n_len PySem.boot_len (pa_cons (pv 3) pa_nil))) (pa_cons (pv 4) pa_nil))))))))), ?_⟩
  have hzs : z.length ≤ sizeLine := Nat.le_trans hz (by decide)
  have hb : cutS z none (some (j : Int)) = sL (z.cps.toList.take j) := by
    have h0 : remS z 0 z.cps.toList := ⟨Nat.zero_le _, rfl⟩
    have := h0.cut (k := j)
    rw [Nat.zero_add] at this
    exact this
  have hbl : (z.cps.toList.take j).length = j := by rw [List.length_take, Array.length_toList]; omega
  refine st_seq (go_asg ⟨_, rfl, _, rfl, _, rfl, z, rfl, hzs, ?_⟩)
  rw [hb]
  dsimp only [gName]
  have hlz : (sL (z.cps.toList.take j)).length ≤ sizeLine := by rw [sL_len, hbl]; exact Nat.le_trans hj (Nat.le_trans hz (by decide))
  have hlen : Ev (tCB (fun xs H Q => ∃ z, xs = [V.str z] ∧ z.length ≤ sizeLine ∧ Q (V.int (z.length : Int)) H) (tCons (tVar 2) tNil)) [some (.str z), some (.int (j : Int)), some (.str (sL (z.cps.toList.take j))), none, none, none] H (.int (j : Int)) := ev_val fun _ _ => val_is (val_cb (v := .int ((sL (z.cps.toList.take j)).length : Int)) (va_one (val_var rfl)) fun Q q => ⟨_, rfl, hlz, q⟩) (by rw [sL_len, hbl])
  refine q_asgL (xs := ((List.range j).filter (isNl (z.cps.toList.take j))).map fun k : Nat => V.int (k : Int)) (el_lcR1 (n := (j : Int)) (isNl (z.cps.toList.take j)) (fun k : Nat => V.int (k : Int)) (ea_cons hlen ea_nil) (by omega) (fun x => rfl) (fun i H1 e1 hi => ?_) (fun i H1 e1 hi _ => ev_var rfl)) fun p H1 hp e1 h1 => ?_
  · have hi' : i < (z.cps.toList.take j).length := by omega
    refine et_test (ev_val fun _ _ => val_is (val_eq (val_op (val_var rfl) (val_var rfl) fun Q q => ⟨sL (z.cps.toList.take j), (i : Int), (z.cps.toList.take j)[i], rfl, rfl, hlz, atI_nat (List.getElem?_eq_getElem hi'), q⟩) val_c rfl) ?_)
    congr 1
    unfold isNl
    rw [decide_eq_decide, List.getElem?_eq_getElem hi']
    have hnl : ("\n" : Str) = sL [10] := by decide +kernel
    rw [hnl]
    exact ⟨fun h => by rw [(List.cons.inj (sL_inj (V.str.inj h))).1], fun h => by rw [Option.some.inj h]; rfl⟩
  · have pl := place_line (z := z) hj
    have pc := place_col (z := z) hj
    generalize (List.range j).filter (isNl (z.cps.toList.take j)) = ks at h1 pl pc
    refine q_asg (v := .int ((j : Int) + 1)) (ev_val fun _ _ => val_I (g := fun i j => .int (i + j)) (val_var rfl) val_c) fun H2 e2 => ?_
    have hS := SqL.of (K := K) (e2 _ _ h1)
    refine ⟨fun σ' G => σ' = [some (.str z), some (.int (j : Int)), some (.str (sL (z.cps.toList.take j))), some (.ref p), some (.int (colZ z j)), none] ∧ G = H2, ?_, ?_⟩
    · refine st_if (b := decide (0 < ks.length)) (ans_v (val_is (val_I (val_lenL (val_var rfl) hS) val_c) (by
        congr 1
        rw [decide_eq_decide, List.length_map]
        omega))) (fun hb => ?_) (fun hb => ?_)
      · have hb := of_decide_eq_true hb
        have hne : ks ≠ [] := fun q => by rw [q] at hb; exact absurd hb (Nat.not_lt_zero _)
        rw [List.getLast?_eq_some_getLast hne] at pc
        refine go_asg (val_I (g := fun i j => .int (i - j)) (val_var rfl) (val_ixL (v := .int ((ks.getLast hne : Nat) : Int)) (val_var rfl) (val_I (g := fun i j => .int (i - j)) (val_lenL (val_var rfl) hS) val_c) hS ?_) _ ⟨?_, rfl⟩)
        · rw [List.length_map, show (ks.length : Int) - 1 = ((ks.length - 1 : Nat) : Int) by omega]
          refine atI_nat ?_
          rw [List.getElem?_map, ← List.getLast?_eq_getElem?, List.getLast?_eq_some_getLast hne]
          rfl
        · show _ = [_, _, _, _, some (V.int ((j : Int) - Txt.rfindIn z "\n" 0 (j : Int))), _]
          rw [pc]
          rfl
      · have hb := of_decide_eq_false hb
        have hne : ks = [] := List.eq_nil_of_length_eq_zero (by omega)
        rw [hne] at pc
        refine ⟨?_, rfl⟩
        show _ = [_, _, _, _, some (V.int ((j : Int) - Txt.rfindIn z "\n" 0 (j : Int))), _]
        rw [pc]
        rfl
    · rintro σ' G ⟨rfl, rfl⟩
      refine go_ret (val_I (g := fun i j => .int (i + j)) val_c (val_lenL (val_var rfl) hS) _ ⟨_, rfl, by show 2 ≤ sizeLine; decide, fun t ht => ?_⟩)
      refine k t _ (fresh_back (e1.trans e2) ht) ((e1.trans e2).trans (Ex.new ht)) ?_
      rw [upd_same, List.length_map]
      show some (HO.lst [_, _]) = some (HO.lst [V.int (Txt.countIn z "\n" 0 (j : Int) + 1), _])
      rw [pl]
end
/-! ### the law's pieces -/
def mkp (a : Str) (i : Nat) (r : Str) : Str × Nat × Str := (a, i, r)
def rows1 : List (Str × Nat × Str) := [mkp ">" 0 "sign", mkp "& " 0 "sign", mkp "&x;" 0 "sign", mkp "&lt" 0 "sign", mkp "x>" 1 "sign", mkp "x\n&amp" 2 "sign"]
def rows2 : List (Str × Nat × Str) := [mkp "\t" 0 "character", mkp "x\ny\t" 3 "character", mkp "<\t" 1 "character", mkp "<a\t" 2 "character"]
def rows3 : List (Str × Nat × Str) := [mkp "< a>" 1 "name", mkp "<1>" 1 "name", mkp "<>" 1 "name", mkp "<A/>" 1 "name", mkp "<abcdefghijklm/>" 1 "name", mkp "</>" 2 "name"]
def rows4 : List (Str × Nat × Str) := [mkp "</ a>" 2 "name", mkp "<a b>" 2 "tag", mkp "<a1>" 2 "tag", mkp "<a/ >" 3 "tag", mkp "<a<" 2 "tag", mkp "<a//>" 3 "tag"]
def rows5 : List (Str × Nat × Str) := [mkp "</zz>" 2 "end", mkp "</zz" 2 "end", mkp "<zz></a>" 6 "end", mkp "<zz></zz >" 8 "tag", mkp "<zz></zz/>" 8 "tag", mkp "</zzzzzzzzzzzzz>" 2 "name"]
def rowsL : List (Str × Nat × Str) := rows1 ++ rows2 ++ rows3 ++ rows4 ++ rows5
/-- lists of a text, a number, a text -/
def RowsL (G : Hp) : List V → List (Str × Nat × Str) → Prop
  | [], [] => True
  | x :: xs, r :: rs => (∃ t, x = .ref t ∧ G t = some (.lst [.str r.1, .int (r.2.1 : Int), .str r.2.2])) ∧ RowsL G xs rs
  | _, _ => False
theorem RowsL.ex {G G' : Hp} (e : Ex G G') : ∀ {xs : List V} {rs : List (Str × Nat × Str)}, RowsL G xs rs → RowsL G' xs rs
  | [], [], _ => trivial
  | _ :: _, _ :: _, ⟨⟨t, h1, h2⟩, h3⟩ => ⟨⟨t, h1, e _ _ h2⟩, RowsL.ex e h3⟩
  | [], _ :: _, h => h.elim
  | _ :: _, [], h => h.elim
theorem RowsL.app {G : Hp} : ∀ {xs : List V} {rs : List (Str × Nat × Str)} {ys : List V} {ss : List (Str × Nat × Str)}, RowsL G xs rs → RowsL G ys ss → RowsL G (xs ++ ys) (rs ++ ss)
  | [], [], _, _, _, h => h
  | _ :: _, _ :: _, _, _, ⟨h1, h2⟩, h => ⟨h1, RowsL.app h2 h⟩
  | [], _ :: _, _, _, h, _ => h.elim
  | _ :: _, [], _, _, h, _ => h.elim
theorem RowsL.len {G : Hp} : ∀ {xs : List V} {rs : List (Str × Nat × Str)}, RowsL G xs rs → xs.length = rs.length
  | [], [], _ => rfl
  | _ :: _, _ :: _, ⟨_, h⟩ => congrArg Nat.succ (RowsL.len h)
  | [], _ :: _, h => h.elim
  | _ :: _, [], h => h.elim
theorem RowsL.at {G : Hp} : ∀ {xs : List V} {rs : List (Str × Nat × Str)} {i : Nat} {r : Str × Nat × Str}, RowsL G xs rs → rs[i]? = some r → ∃ t, xs[i]? = some (.ref t) ∧ G t = some (.lst [.str r.1, .int (r.2.1 : Int), .str r.2.2])
  | [], [], i, r, _, e => by cases e
  | x :: _, _ :: _, 0, r, ⟨⟨t, h1, h2⟩, _⟩, e => by
    cases e
    exact ⟨t, by rw [h1] <;> rfl, h2⟩
  | _ :: _, _ :: _, i + 1, r, ⟨_, h⟩, e => RowsL.at (i := i) h e
  | [], _ :: _, _, _, h, _ => h.elim
  | _ :: _, [], _, _, h, _ => h.elim
def EvRL (ta : TA) (σ : L2.St) (H : Hp) (rs : List (Str × Nat × Str)) : Prop := ∀ H1, Ex H H1 → ∀ Q : List V → Hp → Prop, (∀ vs H2, Ex H1 H2 → (∀ t, V.ref t ∈ vs → H1 t = none) → RowsL H2 vs rs → Q vs H2) → ta σ H1 Q
theorem erl_nil {σ : L2.St} {H : Hp} : EvRL tNil σ H [] := fun H1 _ _ q => q [] H1 (Ex.refl _) (fun t h => by cases h) trivial
theorem erl_cons {σ : L2.St} {H : Hp} {tr : TA} {a r : Str} {i : Nat} {j : Int} {rs : List (Str × Nat × Str)} (hj : j = (i : Int)) (hr : EvRL tr σ H rs) : EvRL (tCons (tLst (tCons (tC (.str a)) (tCons (tC (.int j)) (tCons (tC (.str r)) tNil)))) tr) σ H (mkp a i r :: rs) := fun H1 e Q q =>
  ⟨by show 3 ≤ sizeLine; decide, fun t ht => hr _ (e.trans (Ex.new ht)) _ fun vs H4 e4 f4 r4 => q _ H4 ((Ex.new ht).trans e4) (fun u hu => by
    rcases List.mem_cons.mp hu with h | h
    · cases h
      exact ht
    · exact fresh_back (Ex.new ht) (f4 u h)) ⟨⟨t, rfl, e4 _ _ (by rw [hj]; exact upd_same)⟩, r4⟩⟩
theorem pcl_first {σ : L2.St} {H : Hp} {ta : TA} {tz : TS} {D : Ends} {rs : List (Str × Nat × Str)} (h : EvRL ta σ H rs) (hl : rs.length ≤ 100) (k : ∀ p xs G, Ex H G → H p = none → G p = some (.lst xs) → (∀ t, V.ref t ∈ xs → H t = none) ∧ RowsL G xs rs → tz D (σ.set 0 (some (.ref p))) G) : tSeq (tAsg (tLst ta) (gName 0)) tz D σ H :=
  h H (Ex.refl H) _ fun vs H2 e2 f2 r2 => ⟨by rw [r2.len]; exact sz_of (by omega), fun p hp => k p vs _ (e2.trans (Ex.new hp)) (fresh_back e2 hp) upd_same ⟨f2, r2.ex (Ex.new hp)⟩⟩
theorem pcl_cat {σ : L2.St} {H0 H : Hp} {ta : TA} {p : Addr} {xs : List V} {rs ss : List (Str × Nat × Str)} {Q : VK} (hσ : σ[0]? = some (some (.ref p))) (hp : H p = some (.lst xs)) (hr : (∀ t, V.ref t ∈ xs → H0 t = none) ∧ RowsL H xs rs) (h : EvRL ta σ H ss) (hl : rs.length ≤ 100) (hl2 : ss.length ≤ 100) (e0 : Ex H0 H)
    (k : ∀ p xs G, Ex H G → H0 p = none → G p = some (.lst xs) → (∀ t, V.ref t ∈ xs → H0 t = none) ∧ RowsL G xs (rs ++ ss) → Q (.ref p) G) : tOp rCat (tVar 0) (tLst ta) σ H Q :=
  ⟨_, hσ, h H (Ex.refl H) _ fun vs H2 e2 f2 r2 => ⟨by rw [r2.len]; exact sz_of (by omega), fun q hq => ⟨p, q, xs, vs, rfl, rfl, by rw [upd_ne (ne_of_none (e2 _ _ hp) hq)]; exact e2 _ _ hp, upd_same, by rw [hr.2.len, r2.len]; exact sz_of (by omega), fun u hu => k u _ _ ((e2.trans (Ex.new hq)).trans (Ex.new hu)) (fresh_back e0 (fresh_back e2 (fresh_back (Ex.new hq) hu))) upd_same
    ⟨fun t ht => (List.mem_append.mp ht).elim (hr.1 t) fun z => fresh_back e0 (f2 t z), ((hr.2.ex ((e2.trans (Ex.new hq)).trans (Ex.new hu))).app (r2.ex ((Ex.new hq).trans (Ex.new hu))))⟩⟩⟩⟩
def spPieces : Sp := fun vs H Q _ => vs = [] ∧ ∀ (p : Addr) (xs : List V) (H' : Hp), H p = none → Ex H H' → H' p = some (.lst xs) → (∀ t, V.ref t ∈ xs → H t = none) → RowsL H' xs rowsL → Q (.ref p) H'
section
variable {P : Program} {w : World} {K : PySem.W.Frag} {mg : Str → Option Value} {base : Heap}
theorem ok__law_pieces (T : TX K mg) : Can P w K mg base CX0 1 (He.fAd K at__law_pieces) ps__law_pieces [] spPieces := mk__law_pieces T fun fd F => def0 F sc__law_pieces (fun vs H Q E h => by
  obtain ⟨rfl, _⟩ := h
  rfl) fun cdv A outer s H vs Q E hr h => by
  obtain ⟨rfl, k⟩ := h
  refine ⟨_, (pss_cons (ps_set (i := 0) sc__law_pieces.nd rfl (Or.inl rfl) (pe_lst (pa_cons (pe_lst (pa_cons pe_str (pa_cons pe_int (pa_cons pe_str pa_nil)))) (pa_cons (pe_lst (pa_cons pe_str (pa_cons pe_int (pa_cons pe_str pa_nil)))) (pa_cons (pe_lst (pa_cons pe_str (pa_cons pe_int (pa_cons pe_str pa_nil)))) (pa_cons (pe_lst (pa_cons pe_str (pa_cons pe_int (pa_cons pe_str pa_nil)))) (pa_cons (pe_lst (pa_cons pe_str (pa_cons pe_int (pa_cons pe_str pa_nil)))) (pa_cons (pe_lst (pa_cons pe_str (pa_cons pe_int (pa_cons pe_str pa_nil)))) pa_nil))))))))
  (pss_cons (ps_set (i := 0) sc__law_pieces.nd rfl (Or.inl rfl) (pe_op op_cat (pv 0) (pe_lst (pa_cons (pe_lst (pa_cons pe_str (pa_cons pe_int (pa_cons pe_str pa_nil)))) (pa_cons (pe_lst (pa_cons pe_str (pa_cons pe_int (pa_cons pe_str pa_nil)))) (pa_cons (pe_lst (pa_cons pe_str (pa_cons pe_int (pa_cons pe_str pa_nil)))) (pa_cons (pe_lst (pa_cons pe_str (pa_cons pe_int (pa_cons pe_str pa_nil)))) pa_nil)))))))
  (pss_cons (ps_set (i := 0) sc__law_pieces.nd rfl (Or.inl rfl) (pe_op op_cat (pv 0) (pe_lst (pa_cons (pe_lst (pa_cons pe_str (pa_cons pe_int (pa_cons pe_str pa_nil)))) (pa_cons (pe_lst (pa_cons pe_str (pa_cons pe_int (pa_cons pe_str pa_nil)))) (pa_cons (pe_lst (pa_cons pe_str (pa_cons pe_int (pa_cons pe_str pa_nil)))) (pa_cons (pe_lst (pa_cons pe_str (pa_cons pe_int (pa_cons pe_str pa_nil)))) (pa_cons (pe_lst (pa_cons pe_str (pa_cons pe_int (pa_cons pe_str pa_nil)))) (pa_cons (pe_lst (pa_cons pe_str (pa_cons pe_int (pa_cons pe_str pa_nil)))) pa_nil)))))))))
  (pss_cons (ps_set (i := 0) sc__law_pieces.nd rfl (Or.inl rfl) (pe_op op_cat (pv 0) (pe_lst (pa_cons (pe_lst (pa_cons pe_str (pa_cons pe_int (pa_cons pe_str pa_nil)))) (pa_cons (pe_lst (pa_cons pe_str (pa_cons pe_int (pa_cons pe_str pa_nil)))) (pa_cons (pe_lst (pa_cons pe_str (pa_cons pe_int (pa_cons pe_str pa_nil)))) (pa_cons (pe_lst (pa_cons pe_str (pa_cons pe_int (pa_cons pe_str pa_nil)))) (pa_cons (pe_lst (pa_cons pe_str (pa_cons pe_int (pa_cons pe_str pa_nil)))) (pa_cons (pe_lst (pa_cons pe_str (pa_cons pe_int (pa_cons pe_str pa_nil)))) pa_nil)))))))))
  (pss_one (ps_ret (pe_op op_cat (pv 0) (pe_lst (pa_cons (pe_lst (pa_cons pe_str (pa_cons pe_int (pa_cons pe_str pa_nil)))) (pa_cons (pe_lst (pa_cons pe_str (pa_cons pe_int (pa_cons pe_str pa_nil)))) (pa_cons (pe_lst (pa_cons pe_str (pa_cons pe_int (pa_cons pe_str pa_nil)))) (pa_cons (pe_lst (pa_cons pe_str (pa_cons pe_int (pa_cons pe_str pa_nil)))) (pa_cons (pe_lst (pa_cons pe_str (pa_cons pe_int (pa_cons pe_str pa_nil)))) (pa_cons (pe_lst (pa_cons pe_str (pa_cons pe_int (pa_cons pe_str pa_nil)))) pa_nil)))))))))))))), ?_⟩
  have n6 : ∀ {σ : L2.St} {H : Hp} {a b c d e f : Str × Nat × Str}, [a, b, c, d, e, f].length ≤ 100 := fun {σ H a b c d e f} => by show 6 ≤ 100; decide
  refine pcl_first (rs := rows1) (erl_cons rfl (erl_cons rfl (erl_cons rfl (erl_cons rfl (erl_cons rfl (erl_cons rfl erl_nil)))))) (by decide) fun p1 x1 G1 e1 g1 h1 r1 => ?_
  refine st_seq (go_asg (pcl_cat (rs := rows1) (ss := rows2) rfl h1 r1 (erl_cons rfl (erl_cons rfl (erl_cons rfl (erl_cons rfl erl_nil)))) (by decide) (by decide) e1 fun p2 x2 G2 e2 g2 h2 r2 => ?_))
  dsimp only [gName]
  refine st_seq (go_asg (pcl_cat (rs := rows1 ++ rows2) (ss := rows3) rfl h2 r2 (erl_cons rfl (erl_cons rfl (erl_cons rfl (erl_cons rfl (erl_cons rfl (erl_cons rfl erl_nil)))))) (by decide) (by decide) (e1.trans e2) fun p3 x3 G3 e3 g3 h3 r3 => ?_))
  dsimp only [gName]
  refine st_seq (go_asg (pcl_cat (rs := rows1 ++ rows2 ++ rows3) (ss := rows4) rfl h3 r3 (erl_cons rfl (erl_cons rfl (erl_cons rfl (erl_cons rfl (erl_cons rfl (erl_cons rfl erl_nil)))))) (by decide) (by decide) ((e1.trans e2).trans e3) fun p4 x4 G4 e4 g4 h4 r4 => ?_))
  dsimp only [gName]
  refine go_ret (pcl_cat (rs := rows1 ++ rows2 ++ rows3 ++ rows4) (ss := rows5) rfl h4 r4 (erl_cons rfl (erl_cons rfl (erl_cons rfl (erl_cons rfl (erl_cons rfl (erl_cons rfl erl_nil)))))) (by decide) (by decide) (((e1.trans e2).trans e3).trans e4) fun p5 x5 G5 e5 g5 h5 r5 => ?_)
  exact k p5 x5 G5 g5 ((((e1.trans e2).trans e3).trans e4).trans e5) h5 r5.1 r5.2
end
/-- what stands behind a piece -/
def gapP (a : Str) : List Nat := if a = "&lt" ∨ a = "x\n&amp" then [32] else []
theorem rows_zip : (rowsL.zip pcs).all (fun x => decide (x.2.1 = x.1.1.cps.toList ++ gapP x.1.1) && decide (x.2.2 = x.1.2)) = true := by decide +kernel
theorem rows_len : rowsL.length = 28 ∧ pcs.length = 28 := by decide
/-- a row of the law is a piece of the model -/
theorem rows_pcs {i : Nat} {r : Str × Nat × Str} (h : rowsL[i]? = some r) : ∃ p ∈ pcs, p.1 = r.1.cps.toList ++ gapP r.1 ∧ p.2 = r.2 := by
  obtain ⟨hi, e⟩ := List.getElem?_eq_some_iff.mp h
  have hi2 : i < pcs.length := by
    have := rows_len
    omega
  have hz : (r, pcs[i]) ∈ rowsL.zip pcs := by
    refine List.mem_of_getElem? (i := i) ?_
    rw [List.getElem?_zip_eq_some]
    exact ⟨h, List.getElem?_eq_getElem hi2⟩
  have := List.all_eq_true.mp rows_zip _ hz
  rw [Bool.and_eq_true, decide_eq_true_eq, decide_eq_true_eq] at this
  exact ⟨pcs[i], List.getElem_mem hi2, this.1, this.2⟩
/-! ### readings that give data -/
/-- H3 still has what H2 has in H or beyond H1 -/
def Fp (H H1 H2 H3 : Hp) : Prop := ∀ a o, H2 a = some o → (H a ≠ none ∨ H1 a = none) → H3 a = some o
theorem Fp.base {H H1 H2 H3 : Hp} (f : Fp H H1 H2 H3) (e : Ex H H2) : Ex H H3 := fun a o h => f a o (e a o h) (.inl (by rw [h]; intro z; cases z))
theorem Fp.self {H H1 H2 : Hp} : Fp H H1 H2 H2 := fun _ _ h _ => h
theorem Fp.ex {H H1 H2 H3 : Hp} (e : Ex H2 H3) : Fp H H1 H2 H3 := fun a o h _ => e a o h
/-- from a later start: less is asked -/
theorem Fp.late {H H1 G1 H2 H3 : Hp} (f : Fp H H1 H2 H3) (e : Ex H1 G1) : Fp H G1 H2 H3 := fun a o h q => f a o h (q.imp id fun z => fresh_back e z)
/-- what was there earlier -/
theorem Fp.early {H H1 G2 H2 H3 : Hp} (f : Fp H H1 H2 H3) (e : Ex G2 H2) : Fp H H1 G2 H3 := fun a o h q => f a o (e a o h) q
def EvD (K : PySem.W.Frag) (te : TE) (σ : L2.St) (H : Hp) (d : PyData) : Prop := ∀ H1, Ex H H1 → ∀ Q : VK, (∀ v H2, Ex H1 H2 → (∀ H3, Fp H H1 H2 H3 → Dp K H3 v d) → Q v H2) → te σ H1 Q
def EvDs (K : PySem.W.Frag) (ta : TA) (σ : L2.St) (H : Hp) (ds : List PyData) : Prop := ∀ H1, Ex H H1 → ∀ Q : List V → Hp → Prop, (∀ vs H2, Ex H1 H2 → (∀ H3, Fp H H1 H2 H3 → DpAll K H3 vs ds) → Q vs H2) → ta σ H1 Q
def SpD (K : PySem.W.Frag) (sp : Sp) (vs : List V) (H : Hp) (d : PyData) : Prop := ∀ H1, Ex H H1 → ∀ Q : VK, (∀ v H2, Ex H1 H2 → (∀ H3, Fp H H1 H2 H3 → Dp K H3 v d) → Q v H2) → ∀ E : XK, sp vs H1 Q E
section
variable {K : PySem.W.Frag} {σ : L2.St} {H : Hp} {ta tb te tf : TE} {v : V} {d : PyData} {ds : List PyData}
theorem ed_val (h : Ev te σ H v) (hd : Dp K H v d) : EvD K te σ H d := fun H1 e _ q => h H1 e _ fun H2 e2 => q v H2 e2 fun _ f => dp_ex (f.base (e.trans e2)) hd
theorem ed_var {i : Nat} (h : σ[i]? = some (some v)) (hd : Dp K H v d) : EvD K (tVar i) σ H d := ed_val (ev_var h) hd
theorem ed_int {i : Int} (h : Ev te σ H (.int i)) : EvD K te σ H (.int i) := ed_val h (.int i)
theorem ed_cint {i : Int} : EvD K (tC (.int i)) σ H (.int i) := ed_val ev_c (.int i)
theorem ed_cstr {w : Str} : EvD K (tC (.str w)) σ H (.str w) := ed_val ev_c (.str w)
theorem ed_cbl {b : Bool} : EvD K (tC (.bl b)) σ H (.bool b) := ed_val ev_c (.bl b)
theorem ed_cnon : EvD K (tC .non) σ H .none := ed_val ev_c .non
theorem ed_ints {ns : List Int} (h : EvL te σ H (ns.map V.int)) : EvD K te σ H (.list (ns.map PyData.int)) := fun H1 e _ q => h H1 e _ fun p H2 hp e2 h2 => q _ H2 e2 fun H3 f => .lst (SqL.of (f _ _ h2 (.inr hp))) (dpAll_ints ns)
theorem eds_nil : EvDs K tNil σ H [] := fun H1 _ _ q => q [] H1 (Ex.refl _) fun _ _ => .nil
theorem eds_cons {tr : TA} (h : EvD K te σ H d) (hr : EvDs K tr σ H ds) : EvDs K (tCons te tr) σ H (d :: ds) := fun H1 e _ q =>
  h H1 e _ fun v H2 e2 dv => hr H2 (e.trans e2) _ fun vs H3 e3 dvs => q (v :: vs) H3 (e2.trans e3) fun H4 f => .cons (dv H4 (f.early e3)) (dvs H4 (f.late e2))
theorem ed_tup {ta : TA} (h : EvDs K ta σ H ds) (hl : ds.length ≤ 100000) : EvD K (tTup ta) σ H (.tuple ds) := fun H1 e _ q => h H1 e _ fun vs H2 e2 dvs =>
  ⟨sz_of (by rw [dpa_len (dvs H2 Fp.self)]; exact hl), fun p hp => q (.ref p) _ (e2.trans (Ex.new hp)) fun H3 f => .tup (SqT.of (f _ _ upd_same (.inr (fresh_back e2 hp)))) (dvs H3 (f.early (Ex.new hp)))⟩
theorem ed_lst {ta : TA} (h : EvDs K ta σ H ds) (hl : ds.length ≤ 100000) : EvD K (tLst ta) σ H (.list ds) := fun H1 e _ q => h H1 e _ fun vs H2 e2 dvs =>
  ⟨sz_of (by rw [dpa_len (dvs H2 Fp.self)]; exact hl), fun p hp => q (.ref p) _ (e2.trans (Ex.new hp)) fun H3 f => .lst (SqL.of (f _ _ upd_same (.inr (fresh_back e2 hp)))) (dvs H3 (f.early (Ex.new hp)))⟩
theorem ed_call {sp : Sp} {dvs vs : List V} {E : XK} {ta : TA} (h : EvA ta σ H vs) (hs : SpD K sp (vs ++ dvs) H d) : EvD K (tCall sp dvs E ta) σ H d := fun H1 e Q q =>
  h H1 e _ fun H2 e2 => hs H2 (e.trans e2) Q (fun v H3 e3 dv => q v H3 (e2.trans e3) fun H4 f => dv H4 (f.late e2)) E
/-- what a promise of a new tuple of data gives -/
theorem spd_tup {xs : List V} {H1 : Hp} {Q : VK} (hd : ∀ H3, DpAll K H3 xs ds) (q : ∀ v H2, Ex H1 H2 → (∀ H3, Fp H H1 H2 H3 → Dp K H3 v (.tuple ds)) → Q v H2) : ∀ t H2, H1 t = none → Ex H1 H2 → H2 t = some (.tup xs) → Q (.ref t) H2 :=
  fun t H2 ht e2 h2 => q _ H2 e2 fun H3 f => .tup (SqT.of (f _ _ h2 (.inr ht))) (hd H3)
theorem spd_val {H1 : Hp} {Q : VK} (hd : ∀ H3, Dp K H3 v d) (q : ∀ v H2, Ex H1 H2 → (∀ H3, Fp H H1 H2 H3 → Dp K H3 v d) → Q v H2) : ∀ H2, Ex H1 H2 → Q v H2 := fun H2 e2 => q _ H2 e2 fun H3 _ => hd H3
theorem eqD {d e : PyData} (h1 : EvD K ta σ H d) (h2 : EvD K tb σ H e) (s1 : SeqAt.shaped d = true) (s2 : SeqAt.shaped e = true) : Ev (tOp (rEqD K) ta tb) σ H (.bl (PyData.eqv d e)) :=
  fun H1 e1 _ q => h1 H1 e1 _ fun v H2 e2 dv => h2 H2 (e1.trans e2) _ fun u H3 e3 du => ⟨d, e, dv H3 (Fp.ex e3), du H3 Fp.self, s1, s2, q _ (e2.trans e3)⟩
theorem neD {d e : PyData} (h1 : EvD K ta σ H d) (h2 : EvD K tb σ H e) (s1 : SeqAt.shaped d = true) (s2 : SeqAt.shaped e = true) : Ev (tOp (rNeD K) ta tb) σ H (.bl (!PyData.eqv d e)) :=
  fun H1 e1 _ q => h1 H1 e1 _ fun v H2 e2 dv => h2 H2 (e1.trans e2) _ fun u H3 e3 du => ⟨d, e, dv H3 (Fp.ex e3), du H3 Fp.self, s1, s2, q _ (e2.trans e3)⟩
/-- [.. for j in range(n)] -/
theorem ed_lcR {ta : TA} {j : Nat} {vs : List Nat} {n : Int} (f : Nat → PyData) (h : EvA ta σ H [.int n]) (hn : 0 ≤ n ∧ n ≤ 40000) (hw : ∀ x, wipe ((wipe σ vs).set j (some x)) vs = wipe σ vs)
    (he : ∀ (i : Nat) H1, Ex H H1 → (i : Int) < n → EvD K te ((wipe σ vs).set j (some (.int (i : Int)))) H (f i)) : EvD K (tLc (iRng1 ta) (gName j) tYes te vs) σ H (.list ((List.range n.toNat).map f)) := fun H0 e Q q =>
  h H0 e _ fun H1 e1 => ⟨n, rfl, by omega, by omega, fun L hL => lc_range (lo := 0) (n := n.toNat)
    (fun i G => Ex H1 G ∧ ∃ acc, G L = some (.lst acc) ∧ acc.length = i ∧ ∀ H5, (∀ a o, G a = some o → (H a ≠ none ∨ (H1 a = none ∧ a ≠ L)) → H5 a = some o) → DpAll K H5 acc ((List.range i).map f))
    ⟨Ex.new hL, [], upd_same, rfl, fun _ _ => .nil⟩ (by
      rintro i G hi ⟨eG, acc, ha, hl, hdp⟩
      have nLH : ∀ a, H a ≠ none → a ≠ L := fun a h z => h (by rw [z]; exact fresh_back (e.trans e1) hL)
      have e0 : (0 : Int) + (i : Int) = (i : Int) := Int.zero_add _
      show wipe ((wipe σ vs).set j (some (.int ((0 : Int) + (i : Int))))) vs = wipe σ vs ∧ te ((wipe σ vs).set j (some (.int ((0 : Int) + (i : Int))))) G _
      rw [e0]
      refine ⟨hw _, he i H1 (e.trans e1) (by omega) G ((e.trans e1).trans eG) _ fun v G2 eG2 dv => ⟨acc, eG2 _ _ ha, sz_lt (by omega), ?_, acc ++ [v], upd_same, by rw [List.length_append, hl]; rfl, fun H5 hH5 => ?_⟩⟩
      · exact (eG.trans eG2).mut hL
      · have hup : ∀ a o, G2 a = some o → a ≠ L → upd G2 L (.lst (acc ++ [v])) a = some o := fun a o h hne => by rw [upd_ne hne]; exact h
        rw [List.range_succ, List.map_append]
        refine dpAll_snoc (hdp H5 fun a o ho hq => hH5 a o (hup a o (eG2 a o ho) (hq.elim (nLH a) fun z => z.2)) hq) (dv H5 fun a o ho hq => ?_)
        have hne : a ≠ L := hq.elim (nLH a) fun z y => by rw [y, ha] at z; cases z
        exact hH5 a o (hup a o ho hne) (hq.imp id fun z => ⟨fresh_back eG z, hne⟩)) (by
      rintro G ⟨eG, acc, ha, hl, hdp⟩
      refine q (.ref L) G (e1.trans eG) fun H3 f3 => .lst (SqL.of (f3 _ _ ha (.inr (fresh_back e1 hL)))) (hdp H3 fun a o ho hq => f3 a o ho (hq.imp id fun z => fresh_back e1 z.1)))⟩
variable {D : Ends} {tz : TS}
theorem q_asgD {i : Nat} (h : EvD K te σ H d) (k : ∀ v H1, Ex H H1 → Dp K H1 v d → tz D (σ.set i (some v)) H1) : tSeq (tAsg te (gName i)) tz D σ H := h H (Ex.refl H) _ fun v H1 e dv => k v H1 e (dv H1 Fp.self)
end
/-! ### the law -/
def spLaw (K : PySem.W.Frag) : Sp := fun vs H Q _ => ∃ (a : Addr) (ns : List Int), vs = [.ref a] ∧ SqL K H a (ns.map V.int) ∧ ns.length ≤ 63 ∧ ∀ H', Q (.bl true) H'
theorem law_start {K : PySem.W.Frag} {H : Hp} {a : Addr} {ns : List Int} (hl : ns.length ≤ 63) (_ : ∀ z ∈ ns, Builtin.Int.intBits z ≤ 1048576) (_ : Only H) (hS : SqL K H a (ns.map V.int)) : spLaw K [.ref a] H (fun v _ => v = .bl true) fun _ _ _ => False := ⟨a, ns, rfl, hS, hl, fun _ => rfl⟩
section
variable {K : PySem.W.Frag} {σ : L2.St} {H : Hp} {te tf : TE} {d : PyData} {z y : Str}
theorem spd_lst {ds : List PyData} {xs : List V} {H1 : Hp} {Q : VK} (hd : ∀ H3, DpAll K H3 xs ds) (q : ∀ v H2, Ex H1 H2 → (∀ H3, Fp H H1 H2 H3 → Dp K H3 v (.list ds)) → Q v H2) : ∀ t H2, H1 t = none → Ex H1 H2 → H2 t = some (.lst xs) → Q (.ref t) H2 :=
  fun t H2 ht e2 h2 => q _ H2 e2 fun H3 f => .lst (SqL.of (f _ _ h2 (.inr ht))) (hd H3)
/-- _law_error(text) -/
theorem err_no {j : Nat} (h : Ev te σ H (.str z)) (hz : z.cps.size ≤ 200000) (e : rdDoc z.cps.toList = .no j y) : EvD K (tCall (spErr K) [] E0 (tCons te tNil)) σ H (.list [.int (lineZ z j), .int (colZ z j), .str y]) := ed_call (vs := [.str z]) (ea_cons h ea_nil) (by
  intro H1 e1 Q q E
  refine ⟨z, rfl, hz, ?_, ?_⟩
  · intro j' y' e'
    rw [e] at e'
    cases e'
    exact spd_lst (fun _ => .cons (.int _) (.cons (.int _) (.cons (.str _) .nil))) q
  · intro nm t ds l i n e'
    rw [e] at e'
    cases e')
theorem err_ok {nm : Str} {t : Tr} {ds : List Tr} {l : List Nat} {i n : Nat} (h : Ev te σ H (.str z)) (hz : z.cps.size ≤ 200000) (e : rdDoc z.cps.toList = .ok [(nm, t :: ds)] l i n) : EvD K (tCall (spErr K) [] E0 (tCons te tNil)) σ H (.list []) := ed_call (vs := [.str z]) (ea_cons h ea_nil) (by
  intro H1 e1 Q q E
  refine ⟨z, rfl, hz, ?_, ?_⟩
  · intro j' y' e'
    rw [e] at e'
    cases e'
  · intro nm' t' ds' l' i' n' e'
    exact spd_lst (fun _ => .nil) q)
/-- a reading that gives data -/
def EvE (K : PySem.W.Frag) (te : TE) (σ : L2.St) (H : Hp) (d : PyData) : Prop := ∀ H1, Ex H H1 → ∀ Q : VK, (∀ v H2, Ex H1 H2 → Dp K H2 v d → Q v H2) → te σ H1 Q
theorem ee_of {d : PyData} (h : EvD K te σ H d) : EvE K te σ H d := fun H1 e _ q => h H1 e _ fun v H2 e2 dv => q v H2 e2 (dv H2 Fp.self)
theorem sameE {n : Nat} {d : PyData} (h1 : EvE K te σ H d) (h2 : EvE K tf σ H d) (hd : d.depth < n) (hz : lenD d < 2 ^ 62) : Ev (tCall (spSame K n) [] E0 (tCons te (tCons tf tNil))) σ H (.bl true) :=
  fun H1 e _ q => h1 H1 e _ fun v H2 e2 dv => h2 H2 (e.trans e2) _ fun u H3 e3 du => ⟨v, u, d, rfl, dp_ex e3 dv, du, hd, hz, q _ (e2.trans e3)⟩
theorem ed_ofL {xs : List V} {ds : List PyData} (h : EvL te σ H xs) (hd : ∀ G, DpAll K G xs ds) : EvD K te σ H (.list ds) := fun H1 e _ q => h H1 e _ fun p H2 hp e2 h2 => q _ H2 e2 fun H3 f => .lst (SqL.of (f _ _ h2 (.inr hp))) (hd H3)
/-- _law_error(text), the new list -/
theorem err_noL {j : Nat} (h : Ev te σ H (.str z)) (hz : z.cps.size ≤ 200000) (e : rdDoc z.cps.toList = .no j y) : EvL (tCall (spErr K) [] E0 (tCons te tNil)) σ H [.int (lineZ z j), .int (colZ z j), .str y] := el_call (vs := [.str z]) (ea_cons h ea_nil) (by
  intro H1 e1 Q q E
  refine ⟨z, rfl, hz, ?_, ?_⟩
  · intro j' y' e'
    rw [e] at e'
    cases e'
    exact fun p H' hp ex hh => q p H' hp ex hh
  · intro nm t ds l i n e'
    rw [e] at e'
    cases e')
/-- _law_place(text, at), the new list -/
theorem place_isL {j : Nat} (h : Ev te σ H (.str z)) (h2 : Ev tf σ H (.int (j : Int))) (hj : j ≤ z.cps.size) (hz : z.cps.size ≤ 40000) : EvL (tCall (spPlace K) [] E0 (tCons te (tCons tf tNil))) σ H [.int (lineZ z j), .int (colZ z j)] := el_call (vs := [.str z, .int (j : Int)]) (ea_cons h (ea_cons h2 ea_nil)) (by
  intro H1 e1 Q q E
  exact ⟨z, j, rfl, hj, hz, fun p H' hp ex hh => q p H' hp ex hh⟩)
/-- _law_place(text, at) + [reason], with the error's own place -/
theorem due_isL {tg : TE} {z' : Str} {j : Nat} (h : Ev te σ H (.str z)) (h2 : Ev tf σ H (.int (j : Int))) (h3 : Ev tg σ H (.str y)) (hj : j ≤ z.cps.size) (hz : z.cps.size ≤ 40000) (hj' : j ≤ z'.cps.size) (e : z.cps.toList.take j = z'.cps.toList.take j) : EvL (tOp rCat (tCall (spPlace K) [] E0 (tCons te (tCons tf tNil))) (tLst (tCons tg tNil))) σ H [.int (lineZ z' j), .int (colZ z' j), .str y] := by
  have e1 : lineZ z' j = lineZ z j := by
    show Txt.countIn z' "\n" 0 (j : Int) + 1 = Txt.countIn z "\n" 0 (j : Int) + 1
    rw [place_line hj, place_line hj', e]
  have e2 : colZ z' j = colZ z j := by
    show (j : Int) - Txt.rfindIn z' "\n" 0 (j : Int) = (j : Int) - Txt.rfindIn z "\n" 0 (j : Int)
    rw [place_col hj, place_col hj', e]
  rw [e1, e2]
  exact el_cat (place_isL h h2 hj hz) (el_lst (ea_cons h3 ea_nil) (by show 1 ≤ 100000; decide)) (by show 2 + 1 ≤ 100000; decide)
theorem dp3 {A B : Int} : ∀ G, DpAll K G [.int A, .int B, .str y] [.int A, .int B, .str y] := fun _ => .cons (.int _) (.cons (.int _) (.cons (.str _) .nil))
theorem sh3 (A B : Int) (y : Str) : (PyData.list [.int A, .int B, .str y]).depth < 11 ∧ lenD (PyData.list [.int A, .int B, .str y]) < 2 ^ 62 := ⟨by
  rw [PyData.depth, PyData.depthAll, PyData.depthAll, PyData.depthAll, PyData.depthAll, PyData.depth, PyData.depth, PyData.depth]
  decide, by
  rw [lenD, lenAll, lenAll, lenAll, lenAll, lenD, lenD, lenD]
  decide⟩
theorem same3 {tg : TE} {z' : Str} {j : Nat} {tw : TE} (hw : Ev tw σ H (.str z')) (hzw : z'.cps.size ≤ 200000) (e : rdDoc z'.cps.toList = .no j y) (h : Ev te σ H (.str z)) (h2 : Ev tf σ H (.int (j : Int))) (h3 : Ev tg σ H (.str y)) (hj : j ≤ z.cps.size) (hz : z.cps.size ≤ 40000) (hj' : j ≤ z'.cps.size) (et : z.cps.toList.take j = z'.cps.toList.take j) :
    Ev (tCall (spSame K 11) [] E0 (tCons (tCall (spErr K) [] E0 (tCons tw tNil)) (tCons (tOp rCat (tCall (spPlace K) [] E0 (tCons te (tCons tf tNil))) (tLst (tCons tg tNil))) tNil))) σ H (.bl true) :=
  sameE (ee_of (ed_ofL (err_noL hw hzw e) dp3)) (ee_of (ed_ofL (due_isL h h2 h3 hj hz hj' et) dp3)) (sh3 _ _ _).1 (sh3 _ _ _).2
theorem ed3 {ta tb tc : TE} {A B : Int} (h1 : Ev ta σ H (.int A)) (h2 : Ev tb σ H (.int B)) (h3 : Ev tc σ H (.str y)) : EvD K (tLst (tCons ta (tCons tb (tCons tc tNil)))) σ H (.list [.int A, .int B, .str y]) := ed_lst (eds_cons (ed_int h1) (eds_cons (ed_int h2) (eds_cons (ed_val h3 (.str _)) eds_nil))) (by show 3 ≤ 100000; decide)
end
theorem lines_no0 {z : Str} {i : Nat} (h : i ≤ z.cps.size) (hn : 10 ∉ z.cps.toList.take i) : lineZ z i = 1 ∧ colZ z i = (i : Int) + 1 := by
  have e1 := line_eq h
  have e2 := col_none h hn
  refine ⟨?_, ?_⟩
  · show Txt.countIn z "\n" 0 (i : Int) + 1 = 1
    rw [e1, List.count_eq_zero.mpr hn]
    rfl
  · show (i : Int) - Txt.rfindIn z "\n" 0 (i : Int) = (i : Int) + 1
    rw [e2]
    omega
theorem cut_fromS {z : Str} {j : Nat} (h : j ≤ z.cps.size) : cutS z (some (j : Int)) none = sL (z.cps.toList.drop j) := by
  refine sL_ext ?_
  unfold cutS
  rw [HT.sIx_nat, HT.sIx_none]
  show (z.cps.toList.drop (min j z.cps.size)).take (z.cps.size - min j z.cps.size) = _
  rw [Nat.min_eq_left h]
  exact List.take_of_length_le (by rw [List.length_drop, Array.length_toList]; omega)
theorem cut_toS {z : Str} {j : Nat} : cutS z none (some (j : Int)) = sL (z.cps.toList.take j) := by
  have h0 : remS z 0 z.cps.toList := ⟨Nat.zero_le _, rfl⟩
  have := h0.cut (k := j)
  rw [Nat.zero_add] at this
  exact this
def others5 : List Str := ["x", " <a/>", "&lt;a/>", "/a>", "\n<a/>"]
def mores5 : List Str := ["x", " ", "<a/>", "\n", "&"]
theorem mores : ∀ y ∈ mores5, why y.cps.toList "more" = "more" ∧ y.cps.toList ≠ [] ∧ y.length ≤ 4 := by decide +kernel
def noK (j : Nat) (y : PySem.Str) : RR → Bool
  | .no i x => Nat.beq i j && decide (x = y)
  | .ok .. => false
theorem noK_eq {j : Nat} {y : PySem.Str} {r : RR} (h : noK j y r = true) : r = .no j y := by
  cases r with
  | ok => cases h
  | no i x =>
    unfold noK at h
    rw [Bool.and_eq_true, decide_eq_true_eq] at h
    rw [Nat.eq_of_beq_eq_true h.1, h.2]
theorem others : ∀ y ∈ others5, noK 0 "element" (rdDoc y.cps.toList) = true ∧ y.cps.size ≤ 10 := by decide +kernel
theorem three : (noK 0 "open" (rdDoc ("" : Str).cps.toList) && noK 1 "open" (rdDoc ("<" : Str).cps.toList) && noK 1 "name" (rdDoc ("</a>" : Str).cps.toList)) = true := by decide +kernel
theorem rows_in : rowsL.all (fun r => inV (.str r.1) [.str "&lt", .str "x\n&amp"] == !(gapP r.1).isEmpty) = true := by decide +kernel
theorem gap_or (a : Str) : gapP a = [32] ∨ gapP a = [] := by
  unfold gapP
  split
  · exact .inl rfl
  · exact .inr rfl
theorem app_list (a b : Str) : (a ++ b).cps.toList = a.cps.toList ++ b.cps.toList := by
  show (a.cps ++ b.cps).toList = _
  rw [Array.toList_append]
theorem len_app (a b : Str) : (a ++ b).length = a.length + b.length := by
  show (a.cps ++ b.cps).size = _
  rw [Array.size_append]
  rfl
theorem ev_strs {σ : L2.St} {H : Hp} {ta tb : TE} {a b c : Str} (h1 : Ev ta σ H (.str a)) (h2 : Ev tb σ H (.str b)) (hl : a.length + b.length ≤ 1000000) (e : a ++ b = c) : Ev (tOp (fun x y H Q => ∃ i j, x = V.str i ∧ y = V.str j ∧ i.length + j.length ≤ sizeLine ∧ Q (V.str (i ++ j)) H) ta tb) σ H (.str c) := fun H1 e1 Q q =>
  h1 H1 e1 _ fun H2 e2 => h2 H2 (e1.trans e2) _ fun H3 e3 => ⟨_, _, rfl, rfl, Nat.le_trans hl (by decide), by rw [e]; exact q _ (e2.trans e3)⟩
theorem pcs_le : pcs.all (fun p => decide (p.2.1 ≤ p.1.length) && decide (p.1.length ≤ 30)) = true := by decide +kernel
theorem shaped3 (A B : Int) {y : Str} (hy : PyData.strOk y = true) : SeqAt.shaped (.list [.int A, .int B, .str y]) = true := by
  simp [SeqAt.shaped, PyData.canLay0, PyData.canLayAll0, PyData.depth, PyData.depthAll, hy]
theorem err_at {K : PySem.W.Frag} {σ : L2.St} {H : Hp} {te : TE} {z y : Str} {j : Nat} {A B : Int} (h : Ev te σ H (.str z)) (hz : z.cps.size ≤ 200000) (e : noK j y (rdDoc z.cps.toList) = true) (hj : j ≤ z.cps.size) (hn : 10 ∉ z.cps.toList.take j) (hA : A = 1) (hB : B = (j : Int) + 1) : EvD K (tCall (spErr K) [] E0 (tCons te tNil)) σ H (.list [.int A, .int B, .str y]) := by
  obtain ⟨e1, e2⟩ := lines_no0 hj hn
  have g := ed_ofL (err_noL (K := K) h hz (noK_eq e)) (dp3 (K := K))
  rw [e1, e2] at g
  rw [hA, hB]
  exact g
theorem rows_sz : rowsL.all (fun r => decide (r.1.length ≤ 20)) = true := by decide +kernel
section
variable {P : Program} {w : World} {K : PySem.W.Frag} {mg : Str → Option Value} {base : Heap}
theorem ok_law (T : TX K mg) (fd : FuncData) (F : FunD K "law" "law" (defArgs s_law) (defBody s_law) (defScope s_law) [] [] (He.fAd K at_law) fd) : FnOk P w K mg base CX0 34 (He.fAd K at_law) fd ps_law (spLaw K) := by
  obtain ⟨fd__law_draws, G__law_draws, ds__law_draws, v__law_draws, b__law_draws⟩ := ok__law_draws (P := P) (w := w) (base := base) T
  obtain ⟨fd__law_take, G__law_take, ds__law_take, v__law_take, b__law_take⟩ := ok__law_take (P := P) (w := w) (base := base) T
  obtain ⟨fd__law_names, G__law_names, ds__law_names, v__law_names, b__law_names⟩ := ok__law_names (P := P) (w := w) (base := base) T
  obtain ⟨fd__law_error, G__law_error, ds__law_error, v__law_error, b__law_error⟩ := ok__law_error (P := P) (w := w) (base := base) T
  obtain ⟨fd__law_place, G__law_place, ds__law_place, v__law_place, b__law_place⟩ := ok__law_place (P := P) (w := w) (base := base) T
  obtain ⟨fd__law_pieces, G__law_pieces, ds__law_pieces, v__law_pieces, b__law_pieces⟩ := ok__law_pieces (P := P) (w := w) (base := base) T
  obtain ⟨fd_t, G__law_tree, ds_t, v__law_tree, b__law_tree⟩ := ok__law_tree (P := P) (w := w) (base := base) T 4
  obtain ⟨fd_w, G__law_written, ds_w, v__law_written, b__law_written⟩ := ok__law_written (P := P) (w := w) (base := base) T 5
  obtain ⟨fd_s, G__law_same, ds_s, v__law_same, b__law_same⟩ := ok_same (P := P) (w := w) (base := base) T 11
  refine def0 F sc_law (fun vs H Q E h => by
    obtain ⟨a, ns, rfl, _⟩ := h
    rfl) fun cdv A outer s H vs Q E hr h => ?_
  obtain ⟨a, ns, rfl, hS, hl, k⟩ := h
  refine ⟨_, (pss_cons (ps_set (i := 1) sc_law.nd rfl (Or.inl rfl) (pe_call G__law_draws (hr.mono (by first | decide | omega)) rfl T.g__law_draws T.k__law_draws b__law_draws v__law_draws pass0 (pa_cons (pv 0) pa_nil)))
  (pss_cons (ps_set (i := 2) sc_law.nd rfl (Or.inl rfl) (pe_call G__law_tree (hr.mono (by first | decide | omega)) rfl T.g__law_tree T.k__law_tree b__law_tree v__law_tree pass0 (pa_cons (pv 1) (pa_cons pe_int (pa_cons (pe_call G__law_names (hr.mono (by first | decide | omega)) rfl T.g__law_names T.k__law_names b__law_names v__law_names pass0 (pa_cons (pv 1) pa_nil)) pa_nil)))))
  (pss_cons (ps_set (i := 3) sc_law.nd rfl (Or.inr rfl) (pe_call G__law_written (hr.mono (by first | decide | omega)) rfl T.g__law_written T.k__law_written b__law_written v__law_written pass0 (pa_cons (pv 2) (pa_cons pe_bl pa_nil))))
  (pss_cons (ps_if (pt_not (pt_val (pe_call G__law_same (hr.mono (by first | decide | omega)) rfl T.g__law_same T.k__law_same b__law_same v__law_same pass0 (pa_cons (pe_call G__law_error (hr.mono (by first | decide | omega)) rfl T.g__law_error T.k__law_error b__law_error v__law_error pass0 (pa_cons (pv 3) pa_nil)) (pa_cons (pe_lst pa_nil) pa_nil))))) (pss_one (ps_ret pe_bl)) pss_nil)
  (pss_cons (ps_setLc (i := 4) (own := [("k", 13)]) (g := gName 13) rfl sc_law.nd rfl rfl (sw_true rfl rfl rfl (by decide +kernel)) (pi_range1 rfl T.n_range (pa_cons (pe_callB call_len_str (by rfl) T.n_len PySem.boot_len (pa_cons (pv 3) pa_nil)) pa_nil)) (blkOk_by (own := [("k", 13)]) (N := N_law) (sc := defScope s_law) (by decide +kernel)) (fun _ _ _ _ _ => by exact (pg_name (i := 13) sc_law.nd rfl (Or.inl rfl))) (fun _ _ _ _ _ => by exact pts_one (PW.pt (pw_and (pt_cmpR op_eq (pe_ix ix_str (pv 3) (pv 13) (fun _ _ => rfl)) pe_str (nomark _)) (pw_and1 (pt_cmpR op_notin_str pe_str (pe_slice sl_str (pv 3) (po_some (eBm K rfl PySem.F.plainAttrs_str PySem.F.slot_str_rfind PySem.F.type_str_rfind mt_rfind (pe_slice sl_str (pv 3) po_none (po_some (pv 13))) (pa_cons pe_str pa_nil))) (po_some (pv 13))) (by rfl)))))) (fun _ _ _ _ _ => by exact (pe_op op_add (pv 13) pe_int)))
  (pss_cons (ps_set (i := 5) sc_law.nd rfl (Or.inl rfl) (pe_ix (ixL K rfl) (pv 4) (pe_call G__law_take (hr.mono (by first | decide | omega)) rfl T.g__law_take T.k__law_take b__law_take v__law_take pass0 (pa_cons (pv 1) (pa_cons (pe_callB (cLen K rfl) (by rfl) T.n_len PySem.boot_len (pa_cons (pv 4) pa_nil)) pa_nil))) (fun _ _ => rfl)))
  (pss_cons (ps_set (i := 6) sc_law.nd rfl (Or.inl rfl) (pe_call0 G__law_pieces (hr.mono (by first | decide | omega)) rfl T.g__law_pieces T.k__law_pieces b__law_pieces v__law_pieces pass0))
  (pss_cons (ps_set (i := 7) sc_law.nd rfl (Or.inl rfl) (pe_ix (ixL K rfl) (pv 6) (pe_call G__law_take (hr.mono (by first | decide | omega)) rfl T.g__law_take T.k__law_take b__law_take v__law_take pass0 (pa_cons (pv 1) (pa_cons (pe_callB (cLen K rfl) (by rfl) T.n_len PySem.boot_len (pa_cons (pv 6) pa_nil)) pa_nil))) (fun _ _ => rfl)))
  (pss_cons (ps_set (i := 8) sc_law.nd rfl (Or.inl rfl) (pe_op op_add_str (pe_op op_add_str (pe_slice sl_str (pv 3) po_none (po_some (pv 5))) (pe_ix (ixL K rfl) (pv 7) pe_int (fun _ _ => rfl))) (pe_slice sl_str (pv 3) (po_some (pe_op op_add (pv 5) (pe_op op_mul (pe_call G__law_take (hr.mono (by first | decide | omega)) rfl T.g__law_take T.k__law_take b__law_take v__law_take pass0 (pa_cons (pv 1) (pa_cons pe_int pa_nil))) (pe_op op_sub (pe_callB call_len_str (by rfl) T.n_len PySem.boot_len (pa_cons (pv 3) pa_nil)) (pv 5))))) po_none)))
  (Evl.pss_cut (ps_if (pt_cmpR (oIn K rfl) (pe_ix (ixL K rfl) (pv 7) pe_int (fun _ _ => rfl)) (pe_lst (pa_cons pe_str (pa_cons pe_str pa_nil))) (by rfl)) (pss_one (ps_set (i := 8) sc_law.nd rfl (Or.inl rfl) (pe_op op_add_str (pe_op op_add_str (pe_op op_add_str (pe_slice sl_str (pv 3) po_none (po_some (pv 5))) (pe_ix (ixL K rfl) (pv 7) pe_int (fun _ _ => rfl))) pe_str) (pe_slice sl_str (pv 3) (po_some (pv 5)) po_none)))) pss_nil)
  (pss_cons (ps_if (pt_not (pt_val (pe_call G__law_same (hr.mono (by first | decide | omega)) rfl T.g__law_same T.k__law_same b__law_same v__law_same pass0 (pa_cons (pe_call G__law_error (hr.mono (by first | decide | omega)) rfl T.g__law_error T.k__law_error b__law_error v__law_error pass0 (pa_cons (pv 8) pa_nil)) (pa_cons (pe_op op_cat (pe_call G__law_place (hr.mono (by first | decide | omega)) rfl T.g__law_place T.k__law_place b__law_place v__law_place pass0 (pa_cons (pv 8) (pa_cons (pe_op op_add (pv 5) (pe_ix (ixL K rfl) (pv 7) pe_int (fun _ _ => rfl))) pa_nil))) (pe_lst (pa_cons (pe_ix (ixL K rfl) (pv 7) pe_int (fun _ _ => rfl)) pa_nil))) pa_nil))))) (pss_one (ps_ret pe_bl)) pss_nil)
  (pss_cons (ps_set (i := 9) sc_law.nd rfl (Or.inl rfl) (pe_op op_add_str (pv 3) (pe_ix (ixL K rfl) (pe_lst (pa_cons pe_str (pa_cons pe_str (pa_cons pe_str (pa_cons pe_str (pa_cons pe_str pa_nil)))))) (pe_call G__law_take (hr.mono (by first | decide | omega)) rfl T.g__law_take T.k__law_take b__law_take v__law_take pass0 (pa_cons (pv 1) (pa_cons pe_int pa_nil))) (fun _ _ => rfl))))
  (pss_cons (ps_if (pt_not (pt_val (pe_call G__law_same (hr.mono (by first | decide | omega)) rfl T.g__law_same T.k__law_same b__law_same v__law_same pass0 (pa_cons (pe_call G__law_error (hr.mono (by first | decide | omega)) rfl T.g__law_error T.k__law_error b__law_error v__law_error pass0 (pa_cons (pv 9) pa_nil)) (pa_cons (pe_op op_cat (pe_call G__law_place (hr.mono (by first | decide | omega)) rfl T.g__law_place T.k__law_place b__law_place v__law_place pass0 (pa_cons (pv 9) (pa_cons (pe_callB call_len_str (by rfl) T.n_len PySem.boot_len (pa_cons (pv 3) pa_nil)) pa_nil))) (pe_lst (pa_cons pe_str pa_nil))) pa_nil))))) (pss_one (ps_ret pe_bl)) pss_nil)
  (pss_cons (ps_if (pt_not (pt_val (pe_call G__law_same (hr.mono (by first | decide | omega)) rfl T.g__law_same T.k__law_same b__law_same v__law_same pass0 (pa_cons (pe_call G__law_error (hr.mono (by first | decide | omega)) rfl T.g__law_error T.k__law_error b__law_error v__law_error pass0 (pa_cons (pe_op op_add_str (pv 3) pe_str) pa_nil)) (pa_cons (pe_op op_cat (pe_call G__law_place (hr.mono (by first | decide | omega)) rfl T.g__law_place T.k__law_place b__law_place v__law_place pass0 (pa_cons (pv 3) (pa_cons (pe_callB call_len_str (by rfl) T.n_len PySem.boot_len (pa_cons (pv 3) pa_nil)) pa_nil))) (pe_lst (pa_cons pe_str pa_nil))) pa_nil))))) (pss_one (ps_ret pe_bl)) pss_nil)
  (pss_cons (ps_for PassesOwn.never rfl (iLst K rfl (pe_lst (pa_cons pe_str (pa_cons pe_str (pa_cons pe_str (pa_cons pe_str (pa_cons pe_str pa_nil))))))) (pg_name (i := 10) sc_law.nd rfl (Or.inl rfl))
  (pss_one (ps_if (pt_not (pt_val (pe_call G__law_same (hr.mono (by first | decide | omega)) rfl T.g__law_same T.k__law_same b__law_same v__law_same pass0 (pa_cons (pe_call G__law_error (hr.mono (by first | decide | omega)) rfl T.g__law_error T.k__law_error b__law_error v__law_error pass0 (pa_cons (pv 10) pa_nil)) (pa_cons (pe_lst (pa_cons pe_int (pa_cons pe_int (pa_cons pe_str pa_nil)))) pa_nil))))) (pss_one (ps_ret pe_bl)) pss_nil)))
  (pss_cons (ps_if (pt_not (pt_val (pe_call G__law_same (hr.mono (by first | decide | omega)) rfl T.g__law_same T.k__law_same b__law_same v__law_same pass0 (pa_cons (pe_lst (pa_cons (pe_call G__law_error (hr.mono (by first | decide | omega)) rfl T.g__law_error T.k__law_error b__law_error v__law_error pass0 (pa_cons pe_str pa_nil)) (pa_cons (pe_call G__law_error (hr.mono (by first | decide | omega)) rfl T.g__law_error T.k__law_error b__law_error v__law_error pass0 (pa_cons pe_str pa_nil)) (pa_cons (pe_call G__law_error (hr.mono (by first | decide | omega)) rfl T.g__law_error T.k__law_error b__law_error v__law_error pass0 (pa_cons pe_str pa_nil)) pa_nil)))) (pa_cons (pe_lst (pa_cons (pe_lst (pa_cons pe_int (pa_cons pe_int (pa_cons pe_str pa_nil)))) (pa_cons (pe_lst (pa_cons pe_int (pa_cons pe_int (pa_cons pe_str pa_nil)))) (pa_cons (pe_lst (pa_cons pe_int (pa_cons pe_int (pa_cons pe_str pa_nil)))) pa_nil)))) pa_nil))))) (pss_one (ps_ret pe_bl)) pss_nil)
  (pss_cons (ps_set (i := 11) sc_law.nd rfl (Or.inl rfl) (pe_call G__law_take (hr.mono (by first | decide | omega)) rfl T.g__law_take T.k__law_take b__law_take v__law_take pass0 (pa_cons (pv 1) (pa_cons (pe_callB call_len_str (by rfl) T.n_len PySem.boot_len (pa_cons (pv 3) pa_nil)) pa_nil))))
  (pss_cons (ps_set (i := 12) sc_law.nd rfl (Or.inl rfl) (pe_call G__law_error (hr.mono (by first | decide | omega)) rfl T.g__law_error T.k__law_error b__law_error v__law_error pass0 (pa_cons (pe_slice sl_str (pv 3) po_none (po_some (pv 11))) pa_nil)))
  (pss_one (ps_ret (pe_or (pe_cmpR (oEqD K rfl hr.units) (pv 12) (pe_op op_cat (pe_call G__law_place (hr.mono (by first | decide | omega)) rfl T.g__law_place T.k__law_place b__law_place v__law_place pass0 (pa_cons (pv 3) (pa_cons (pv 11) pa_nil))) (pe_lst (pa_cons pe_str pa_nil))) (nomark _)) (pe_one (pe_and (pe_cmpR (oIn K rfl) (pe_ix (ixL K rfl) (pv 12) pe_int (fun _ _ => rfl)) (pe_lst (pa_cons pe_str (pa_cons pe_str pa_nil))) (by rfl)) (pe_one (pe_cmpR op_eq (pe_callB (cLen K rfl) (by rfl) T.n_len PySem.boot_len (pa_cons (pv 12) pa_nil)) pe_int (nomark _)))))))))))))))))))))))))), ?_⟩
  refine st_seq (go_asg ⟨_, rfl, a, ns, rfl, hS, hl, fun d H1 hd D1 e1 => ?_⟩)
  dsimp only [gName]
  refine st_seq (go_asg ⟨_, rfl, _, rfl, d, rfl, D1, fun p names H2 hp hn0 hn4 hns D2 e2 hpl => ⟨d, p, 3, names, rfl, by decide, D2, D1.ne hp, hpl, hn0, hn4, hns, fun v nm cs H3 hok D3 e3 N => ?_⟩⟩)
  dsimp only [gName]
  have hdp : Dp K H3 v (Tr.el nm cs).d := N H3 fun _ _ _ h => h
  clear N
  have hnm : nm ∈ fourNames := hok.1
  have hnod : nod (.el nm cs) ≤ 4000 := Nat.le_trans (nod_le hok) (by decide)
  have hL : (wr true (.el nm cs)).length ≤ 10000 := Nat.le_trans (wr_len true hok) (bnd_le (by decide))
  obtain ⟨z, hz⟩ : ∃ z, z = sL (wr true (.el nm cs)) := ⟨_, rfl⟩
  have hzl : z.cps.toList = wr true (.el nm cs) := by rw [hz, sL_list]
  have hzs : z.cps.size = (wr true (.el nm cs)).length := by rw [← hzl, Array.length_toList]
  have hzline : z.length ≤ sizeLine := by
    show z.cps.size ≤ sizeLine
    rw [hzs]
    exact Nat.le_trans hL (by decide)
  refine q_asg (v := .str z) (ev_call (ea_cons (ev_var rfl) (ea_cons ev_c ea_nil)) fun Ha ea Q q E => ⟨v, true, .el nm cs, 4, rfl, by decide, by decide, hok, dp_ex ea hdp, fun H' e' => by rw [← hz]; exact q H' e'⟩) fun H4 e4 => ?_
  obtain ⟨ri, rn, hrd⟩ := rdDoc_wr hok (by decide) (by omega)
  rw [← hzl] at hrd
  refine q_when (b := false) (et_not (a := true) (et_B (sameE (ee_of (err_ok (ev_var rfl) (by omega) hrd)) (ee_of (ed_lst eds_nil (by show 0 ≤ 100000; decide))) (by rw [PyData.depth, PyData.depthAll]; decide) (by rw [lenD, lenAll]; decide)))) nofun fun _ H5 e5 => ?_
  have hlenT : ∀ {σ : L2.St} {G : Hp}, σ[3]? = some (some (.str z)) → Val (tCB (fun xs H Q => ∃ z, xs = [V.str z] ∧ z.length ≤ sizeLine ∧ Q (V.int (z.length : Int)) H) (tCons (tVar 3) tNil)) σ G (.int ((z.cps.size : Nat) : Int)) := fun h => val_is (val_cb (v := .int (z.length : Int)) (va_one (val_var h)) fun Q q => ⟨_, rfl, hzline, q⟩) rfl
  refine q_asgL (xs := ((List.range z.cps.size).filter (tgB z)).map fun k : Nat => V.int ((k + 1 : Nat) : Int)) (el_lcR1 (n := ((z.cps.size : Nat) : Int)) (tgB z) (fun k : Nat => V.int ((k + 1 : Nat) : Int)) (ea_cons (ev_val fun _ _ => hlenT rfl) ea_nil) (by omega) (fun x => rfl) (fun i H1 e1 hi => ?_) (fun i H1 e1 hi _ => ev_val fun _ _ => val_is (val_I (g := fun i j => .int (i + j)) (val_var rfl) val_c) rfl)) fun p6 H6 hp6 e6 h6 => ?_
  · have hi' : i < z.cps.size := by omega
    have hi2 : i < z.cps.toList.length := by rw [Array.length_toList]; exact hi'
    refine et_and (et_test (ev_val fun _ _ => val_is (val_eq (val_op (val_var rfl) (val_var rfl) fun Q q => ⟨z, (i : Int), z.cps.toList[i], rfl, rfl, hzline, atI_nat (List.getElem?_eq_getElem hi2), q⟩) val_c rfl) ?_)) fun _ => et_test (ev_val fun Hx _ Q q => ?_)
    · congr 1
      rw [decide_eq_decide, List.getElem?_eq_getElem hi2]
      have hnl : (">" : Str) = sL [62] := by decide +kernel
      rw [hnl]
      exact ⟨fun h => by rw [(List.cons.inj (sL_inj (V.str.inj h))).1], fun h => by rw [Option.some.inj h]; rfl⟩
    · refine ⟨_, rfl, _, rfl, _, rfl, _, rfl, z, rfl, hzline, ⟨rfl, _, _, rfl, rfl, _, rfl, _, rfl, _, rfl, z, rfl, hzline, _, _, rfl, rfl, ?_⟩⟩
      have hsl : ("/" : Str) = ⟨#[47]⟩ := by decide +kernel
      rw [hsl, StrLaws.found_one, cut_toS]
      exact q
  have hpos : 0 < ((List.range z.cps.size).filter (tgB z)).length := by
    have ht := tg_tgB (z := z) (k := 1 + nm.cps.toList.length) (by rw [hzl]; exact tg_root hnm)
    refine List.length_pos_of_mem (a := 1 + nm.cps.toList.length) (List.mem_filter.mpr ⟨List.mem_range.mpr ?_, ht⟩)
    obtain ⟨g, _⟩ := List.getElem?_eq_some_iff.mp (show z.cps.toList[1 + nm.cps.toList.length]? = some 62 by rw [hzl]; exact (tg_root (cs := cs) hnm).1)
    rw [Array.length_toList] at g
    exact g
  have D6 := ((D3.keep e4).keep e5).keep e6
  refine st_seq (go_asg ⟨_, rfl, rd_take rfl (val_lenL (val_var rfl) (SqL.of h6)) (by rw [List.length_map]; omega) D6 fun q H7 q0 q1 D7 e7 => ?_⟩)
  obtain ⟨q, rfl⟩ : ∃ n : Nat, q = (n : Int) := ⟨q.toNat, by omega⟩
  rw [List.length_map] at q1
  have hq : q < ((List.range z.cps.size).filter (tgB z)).length := by omega
  obtain ⟨k1, hk1⟩ : ∃ k1, ((List.range z.cps.size).filter (tgB z))[q]? = some k1 := ⟨_, List.getElem?_eq_getElem hq⟩
  have hmem := List.mem_filter.mp (List.mem_of_getElem? hk1)
  have hk1z : k1 < z.cps.size := List.mem_range.mp hmem.1
  have h60 : z.cps.toList[0]? = some 60 := by
    rw [hzl, show wr true (.el nm cs) = 60 :: (nm.cps.toList ++ 62 :: (wrs true cs ++ 60 :: 47 :: (nm.cps.toList ++ 62 :: []))) by have := wr_el nm cs []; rwa [List.append_nil] at this]
    rfl
  have hTg := tgB_tg h60 hmem.2
  rw [hzl] at hTg
  have hOp := tg_opn _ _ hok _ hTg
  obtain ⟨m, hm⟩ : ∃ m, m = k1 + 1 := ⟨_, rfl⟩
  rw [← hm] at hOp
  have hmz : m ≤ z.cps.size := by omega
  have hrun := opn_run hOp hok
  refine ⟨p6, _, _, .int (m : Int), rfl, rfl, SqL.of (e7.at h6 (by simpa using ((D3.keep e4).keep e5).ne hp6)), atI_nat (by rw [List.getElem?_map, hk1, hm]; rfl), ?_⟩
  dsimp only [gName]
  refine st_seq (go_asg ⟨rfl, fun p8 xs8 H8 hp8 e8 h8 f8 R8 => ?_⟩)
  dsimp only [gName]
  have D8 := D7.keep e8
  refine st_seq (go_asg ⟨_, rfl, rd_take rfl (val_lenL (val_var rfl) (SqL.of h8)) (by rw [R8.len, rows_len.1]; decide) D8 fun q2 H9 q0 q1 D9 e9 => ?_⟩)
  obtain ⟨q2, rfl⟩ : ∃ n : Nat, q2 = (n : Int) := ⟨q2.toNat, by omega⟩
  rw [R8.len] at q1
  have hq2 : q2 < rowsL.length := by omega
  obtain ⟨r, hr2⟩ : ∃ r, rowsL[q2]? = some r := ⟨_, List.getElem?_eq_getElem hq2⟩
  obtain ⟨t9, hx9, ht9⟩ := R8.at hr2
  have hne9 : t9 ∉ [d] := by simpa using D7.ne (f8 t9 (List.mem_of_getElem? hx9))
  refine ⟨p8, xs8, _, _, rfl, rfl, SqL.of (e9.at h8 (by simpa using D7.ne hp8)), atI_nat hx9, ?_⟩
  dsimp only [gName]
  have ht9' := e9.at ht9 hne9
  obtain ⟨pc, hpc, hp1, hp2⟩ := rows_pcs hr2
  have hrl : r.1.length ≤ 20 := of_decide_eq_true (List.all_eq_true.mp rows_sz r (List.mem_of_getElem? hr2))
  have hno := pcs_no hOp hok (by decide) hnod (rest := (wr true (.el nm cs)).drop m) hrun pc hpc
  have hno0 := pcs_no hOp hok (by decide) hnod (rest := []) (by show 0 ≤ 5; decide) pc hpc
  have hpl : ((wr true (.el nm cs)).take m).length = m := by rw [List.length_take]; omega
  clear hOp hTg hmem hk1 h6 R8 f8 h8 hx9
  have ht9l : (sL (z.cps.toList.take m)).length + r.1.length ≤ sizeLine := by
    rw [sL_len, List.length_take, Array.length_toList]
    exact Nat.le_trans (show min m z.cps.size + r.1.length ≤ 20000 by omega) (by decide)
  refine st_seq (go_asg ⟨_, rfl, _, rfl, _, rfl, z, rfl, hzline, ⟨_, rfl, t9, _, 0, .str r.1, rfl, rfl, SqL.of ht9', rfl, ⟨_, _, rfl, rfl, ?_, ?_⟩⟩⟩)
  · rw [cut_toS]
    exact ht9l
  rw [cut_toS]
  refine ⟨_, rfl, ⟨_, rfl, rd_take rfl val_c (by decide) D9 fun b H10 b0 b1 D10 e10 => val_I (g := fun i j => .int (i - j)) (hlenT rfl) (val_var rfl) _ ⟨b, _, rfl, rfl, .inl ⟨by omega, by omega⟩, ⟨_, _, rfl, rfl, ⟨_, rfl, z, rfl, hzline, ?_⟩⟩⟩⟩⟩
  obtain ⟨rest1, hrest1, hcut⟩ : ∃ rest1, (rest1 = z.cps.toList.drop m ∨ rest1 = []) ∧ cutS z (some ((m : Int) + b * (((z.cps.size : Nat) : Int) - (m : Int)))) none = sL rest1 := by
    rcases (show b = 0 ∨ b = 1 by omega) with rfl | rfl
    · exact ⟨_, .inl rfl, by rw [show (m : Int) + 0 * (((z.cps.size : Nat) : Int) - (m : Int)) = ((m : Nat) : Int) by omega]; exact cut_fromS hmz⟩
    · exact ⟨_, .inr rfl, by rw [show (m : Int) + 1 * (((z.cps.size : Nat) : Int) - (m : Int)) = ((z.cps.size : Nat) : Int) by omega, cut_fromS (Nat.le_refl _), List.drop_of_length_le (by rw [Array.length_toList]; exact Nat.le_refl _)]⟩
  rw [hcut]
  have hrl1 : rest1.length ≤ 10000 := by
    rcases hrest1 with rfl | rfl
    · rw [List.length_drop, Array.length_toList]
      omega
    · exact Nat.zero_le _
  have htl : (sL (z.cps.toList.take m)).length ≤ 10000 := by
    rw [sL_len, List.length_take, Array.length_toList]
    omega
  refine ⟨_, _, rfl, rfl, by
    rw [len_app, sL_len rest1]
    exact Nat.le_trans (show _ ≤ 30000 by omega) (by decide), ?_⟩
  dsimp only [gName]
  have ht10 := e10.at ht9' hne9
  have hdl : (sL (z.cps.toList.drop m)).length ≤ 10000 := by
    rw [sL_len, List.length_drop, Array.length_toList]
    omega
  refine q_cut (M := fun σ' G => ∃ (wz : Str) (rest : List Nat), σ' = [some (.ref a), some (.ref d), some v, some (.str z), some (.ref p6), some (.int (m : Int)), some (.ref p8), some (.ref t9), some (.str wz), none, none, none, none, none] ∧ wz.cps.toList = z.cps.toList.take m ++ (pc.1 ++ rest) ∧ (rest = z.cps.toList.drop m ∨ rest = []) ∧ Ex H10 G) ?_ ?_
  · have hin := List.all_eq_true.mp rows_in r (List.mem_of_getElem? hr2)
    rw [beq_iff_eq] at hin
    refine s_when (b := inV (.str r.1) [.str "&lt", .str "x\n&amp"]) (et_test (ev_opL (ev_val fun H' e' => val_ixL (val_var rfl) val_c (SqL.of (e' _ _ ht10)) rfl) (el_lst (ea_cons ev_c (ea_cons ev_c ea_nil)) (by show 2 ≤ 100000; decide)) fun p H1 h _ => rv_isL (sq_of h) rfl rfl)) (fun hb G eG => ?_) (fun hb G eG => ?_)
    · rw [hin] at hb
      have hg : gapP r.1 = [32] := by
        rcases gap_or r.1 with h | h
        · exact h
        · rw [h] at hb
          cases hb
      have hs1 : (" " : Str).length = 1 := by decide +kernel
      refine s_asg (v := .str (((sL (z.cps.toList.take m) ++ r.1) ++ " ") ++ sL (z.cps.toList.drop m))) (ev_strs (a := (sL (z.cps.toList.take m) ++ r.1) ++ " ") (b := sL (z.cps.toList.drop m)) (ev_strs (a := sL (z.cps.toList.take m) ++ r.1) (b := " ") (ev_strs (a := sL (z.cps.toList.take m)) (b := r.1) (ev_val fun _ _ Q q => ⟨_, rfl, _, rfl, _, rfl, z, rfl, hzline, by rw [cut_toS]; exact q⟩) (ev_val fun H' e' => val_ixL (val_var rfl) val_c (SqL.of (e' _ _ (eG _ _ ht10))) rfl) (by omega) rfl) ev_c (by rw [len_app]; omega) rfl) (ev_val fun _ _ Q q => ⟨_, rfl, _, rfl, _, rfl, z, rfl, hzline, by rw [cut_fromS hmz]; exact q⟩) (by rw [len_app, len_app]; omega) rfl) fun G2 eG2 => ?_
      refine ⟨_, z.cps.toList.drop m, rfl, ?_, .inl rfl, eG.trans eG2⟩
      rw [app_list, app_list, app_list, sL_list, sL_list, hp1, hg, show (" " : Str).cps.toList = [32] by decide +kernel]
      simp
    · rw [hin] at hb
      have hg : gapP r.1 = [] := by
        rcases gap_or r.1 with h | h
        · rw [h] at hb
          cases hb
        · exact h
      refine ⟨_, rest1, rfl, ?_, hrest1, eG⟩
      rw [app_list, app_list, sL_list, sL_list, hp1, hg]
      simp
  rintro σ' G ⟨wz, rest, rfl, hwz, hrest, eG⟩
  have DG := D10.keep eG
  have htG := eG _ _ ht10
  rw [← hzl] at hno
  have hwno : rdDoc wz.cps.toList = .no (m + r.2.1) r.2.2 := by
    rw [hwz]
    rcases hrest with rfl | rfl
    · have := hno
      rw [hzl] at this ⊢
      rw [this, hpl, hp2]
    · have := hno0
      rw [hzl]
      rw [this, hpl, hp2]
  have hpc2 := List.all_eq_true.mp pcs_le pc hpc
  rw [Bool.and_eq_true, decide_eq_true_eq, decide_eq_true_eq, hp2] at hpc2
  have hwsz : wz.cps.size = m + (pc.1.length + rest.length) := by
    rw [← Array.length_toList, hwz, List.length_append, List.length_append, List.length_take, Array.length_toList]
    omega
  have hrl2 : rest.length ≤ 10000 := by
    rcases hrest with rfl | rfl
    · rw [List.length_drop, Array.length_toList]
      omega
    · exact Nat.zero_le _
  refine q_when (b := false) (et_not (a := true) (et_B (same3 (z := wz) (z' := wz) (j := m + r.2.1) (y := r.2.2) (ev_var rfl) (by omega) hwno (ev_var rfl) (ev_val fun H' e' => val_is (val_I (g := fun i j => .int (i + j)) (val_var rfl) (val_ixL (v := .int (r.2.1 : Int)) (i := 1) (val_var rfl) val_c (SqL.of (e' _ _ htG)) rfl)) rfl) (ev_val fun H' e' => val_ixL (i := 2) (val_var rfl) val_c (SqL.of (e' _ _ htG)) rfl) (by omega) (by omega) (by omega) rfl))) nofun fun _ H11 e11 => ?_
  clear hwno hno hno0 htG hwz hpc2 hcut ht10 ht9' hp1 hp2 hpc
  have D11 := DG.keep e11
  refine st_seq (go_asg ⟨_, rfl, ⟨by show 5 ≤ sizeLine; decide, fun p hp => rd_take rfl val_c (by decide) (D11.put hp) fun q H12 q0 q1 D12 e12 => ?_⟩⟩)
  obtain ⟨q, rfl⟩ : ∃ n : Nat, q = (n : Int) := ⟨q.toNat, by omega⟩
  obtain ⟨y, hy, hym⟩ : ∃ y, [V.str "x", .str " ", .str "<a/>", .str "\n", .str "&"][q]? = some (.str y) ∧ y ∈ mores5 := by
    have hq5 : q < mores5.length := by show q < 5; omega
    exact ⟨mores5[q], by show (mores5.map V.str)[q]? = _; rw [List.getElem?_map, List.getElem?_eq_getElem hq5]; rfl, List.getElem_mem hq5⟩
  obtain ⟨hy1, hy2, hy3⟩ := mores y hym
  refine ⟨p, _, _, _, rfl, rfl, SqL.of (e12.at upd_same (by simpa using D11.ne hp)), atI_nat hy, ⟨_, _, rfl, rfl, ?_, ?_⟩⟩
  · show z.cps.size + y.length ≤ sizeLine
    exact Nat.le_trans (show _ ≤ 20000 by omega) (by decide)
  dsimp only [gName]
  have hmz9 : (z ++ y).cps.size ≤ 20000 := by
    have := len_app z y
    have e : (z ++ y).length = (z ++ y).cps.size := rfl
    have e2 : z.length = z.cps.size := rfl
    omega
  have hmz8 : z.cps.size ≤ (z ++ y).cps.size := by
    have := len_app z y
    have e : (z ++ y).length = (z ++ y).cps.size := rfl
    have e2 : z.length = z.cps.size := rfl
    omega
  have hmno : rdDoc (z ++ y).cps.toList = .no z.cps.size "more" := by
    rw [app_list, hzl, rdDoc_more hok (by decide) (by omega) hy2, hy1, hzs]
  refine q_when (b := false) (et_not (a := true) (et_B (same3 (z := z ++ y) (z' := z ++ y) (j := z.cps.size) (ev_var rfl) (by omega) hmno (ev_var rfl) (ev_val fun _ _ => hlenT rfl) ev_c hmz8 (by omega) hmz8 rfl))) nofun fun _ H13 e13 => ?_
  have htb : ("\t" : Str).cps.toList = [9] := by decide +kernel
  have htl9 : (z ++ "\t").cps.size = z.cps.size + 1 := by
    rw [← Array.length_toList, app_list, htb, List.length_append, Array.length_toList]
    rfl
  have hcno : rdDoc (z ++ "\t").cps.toList = .no z.cps.size "character" := by
    rw [app_list, hzl, htb, rdDoc_more hok (by decide) (by omega) (by simp), hzs]
    rfl
  have ht1 : ("\t" : Str).length = 1 := by decide +kernel
  have hz1 : z.length = z.cps.size := rfl
  refine q_when (b := false) (et_not (a := true) (et_B (same3 (z := z) (z' := z ++ "\t") (j := z.cps.size) (ev_strs (a := z) (b := "\t") (ev_var rfl) ev_c (by omega) rfl) (by omega) hcno (ev_var rfl) (ev_val fun _ _ => hlenT rfl) ev_c (Nat.le_refl _) (by omega) (by omega) (by rw [app_list, List.take_append_of_le_length (by rw [Array.length_toList]; exact Nat.le_refl _)])))) nofun fun _ H14 e14 => ?_
  refine q_forNLn (xs := others5.map V.str) (el_lst (ea_cons ev_c (ea_cons ev_c (ea_cons ev_c (ea_cons ev_c (ea_cons ev_c ea_nil))))) (by show 5 ≤ 100000; decide)) (fun p i σ' G => ∃ v10 : Option V, σ' = [some (.ref a), some (.ref d), some v, some (.str z), some (.ref p6), some (.int (m : Int)), some (.ref p8), some (.ref t9), some (.str wz), some (.str (z ++ y)), v10, none, none, none] ∧ Ex H14 G ∧ G p = some (.lst (others5.map V.str))) (fun p G hp e h => ⟨_, rfl, e, h⟩) (fun p i σ' G _ h => by
    obtain ⟨_, _, _, h⟩ := h
    exact SqL.of h) (fun p i x σ' G hx h => ?_) fun p σ' G h => ?_
  · obtain ⟨v10, rfl, eG, hG⟩ := h
    obtain ⟨y5, hy5, rfl⟩ := List.mem_map.mp (List.mem_of_getElem? hx)
    obtain ⟨o1, o2⟩ := others y5 hy5
    refine s_when (b := false) (et_not (a := true) (et_B (sameE (ee_of (err_at (ev_var rfl) (by omega) o1 (Nat.zero_le _) (by simp) rfl rfl)) (ee_of (ed3 ev_c ev_c ev_c)) (sh3 _ _ _).1 (sh3 _ _ _).2))) nofun fun _ G2 eG2 => ⟨_, rfl, eG.trans eG2, eG2 _ _ hG⟩
  obtain ⟨v10, rfl, eG2, _⟩ := h
  have h3 := three
  rw [Bool.and_eq_true, Bool.and_eq_true] at h3
  obtain ⟨⟨h31, h32⟩, h33⟩ := h3
  refine q_when (b := false) (et_not (a := true) (et_B (sameE (d := .list [.list [.int 1, .int 1, .str "open"], .list [.int 1, .int 2, .str "open"], .list [.int 1, .int 2, .str "name"]]) (ee_of (ed_lst (eds_cons (err_at (z := "") ev_c (by decide +kernel) h31 (Nat.zero_le _) (by simp) rfl rfl) (eds_cons (err_at (z := "<") ev_c (by decide +kernel) h32 (by decide +kernel) (by decide +kernel) rfl rfl) (eds_cons (err_at (z := "</a>") ev_c (by decide +kernel) h33 (by decide +kernel) (by decide +kernel) rfl rfl) eds_nil))) (by show 3 ≤ 100000; decide)))
    (ee_of (ed_lst (eds_cons (ed3 ev_c ev_c ev_c) (eds_cons (ed3 ev_c ev_c ev_c) (eds_cons (ed3 ev_c ev_c ev_c) eds_nil))) (by show 3 ≤ 100000; decide))) (by simp [PyData.depth, PyData.depthAll]) (by simp [lenD, lenAll])))) nofun fun _ H15 e15 => ?_
  have D15 := (((D12.keep e13).keep e14).keep eG2).keep e15
  refine st_seq (go_asg (rd_take rfl (hlenT rfl) (by
    have := hpos
    have : 0 < z.cps.size := by omega
    omega) D15 fun c H16 c0 c1 D16 e16 => ?_))
  dsimp only [gName]
  obtain ⟨c, rfl⟩ : ∃ n : Nat, c = (n : Int) := ⟨c.toNat, by omega⟩
  have hc : c < z.cps.size := by omega
  obtain ⟨tz, htz⟩ : ∃ tz, tz = sL (z.cps.toList.take c) := ⟨_, rfl⟩
  have htzl : tz.cps.toList = z.cps.toList.take c := by rw [htz, sL_list]
  have htzs : tz.cps.size = c := by
    rw [← Array.length_toList, htzl, List.length_take, Array.length_toList]
    omega
  obtain ⟨j, y8, hj8, hcok⟩ := rdDoc_cut hok (by decide) (by omega) (c := c) (by omega)
  rw [← hzl, ← htzl] at hj8
  refine q_asgL (err_noL (z := tz) (ev_val fun _ _ Q q => ⟨_, rfl, _, rfl, _, rfl, z, rfl, hzline, by rw [cut_toS, ← htz]; exact q⟩) (by omega) hj8) fun p17 H17 hp17 e17 h17 => ?_
  have hy8 : PyData.strOk y8 = true ∧ PyData.strOk "open" = true := by
    rcases hcok with ⟨rfl, rfl⟩ | rfl
    · decide +kernel
    · decide +kernel
  have evA : ∀ {σ : L2.St}, σ[12]? = some (some (.ref p17)) → σ[3]? = some (some (.str z)) → σ[11]? = some (some (.int (c : Int))) → Ev (tOp (rEqD K) (tVar 12) (tOp rCat (tCall (spPlace K) [] E0 (tCons (tVar 3) (tCons (tVar 11) tNil))) (tLst (tCons (tC (.str "open")) tNil)))) σ H17 (.bl (PyData.eqv (.list [.int (lineZ tz j), .int (colZ tz j), .str y8]) (.list [.int (lineZ tz c), .int (colZ tz c), .str "open"]))) := fun s1 s2 s3 =>
    eqD (ed_var s1 (.lst (SqL.of h17) (dp3 _))) (ed_ofL (due_isL (z := z) (z' := tz) (j := c) (ev_var s2) (ev_var s3) ev_c (by omega) (by omega) (by omega) (by rw [htzl, List.take_take, Nat.min_self])) dp3) (shaped3 _ _ hy8.1) (shaped3 _ _ hy8.2)
  rcases hcok with ⟨rfl, rfl⟩ | rfl
  · refine s_ret (v := .bl true) (ev_is (ev_orV (b := true) (evA rfl rfl rfl) fun hb => ?_) (by rw [Bool.or_true])) fun G _ => k G
    rw [SeqAt.eqv_refl _ (SeqAt.canLay_of_shaped (shaped3 _ _ hy8.1))] at hb
    cases hb
  · refine s_ret (v := .bl true) (ev_is (ev_orV (b := true) (evA rfl rfl rfl) fun hb => ?_) (by rw [Bool.or_true])) fun G _ => k G
    refine ev_is (ev_andV (a := inV (.str "sign") [.str "sign", .str "end"]) (b := true) (ev_opL (ev_val fun H' e' => val_ixL (i := 2) (val_var rfl) val_c (SqL.of (e' _ _ h17)) rfl) (el_lst (ea_cons ev_c (ea_cons ev_c ea_nil)) (by show 2 ≤ 100000; decide)) fun p H1 h _ => rv_isL (sq_of h) rfl rfl) fun _ => ?_) (by decide +kernel)
    exact ev_val fun H' e' => val_is (val_eq (val_lenL (val_var rfl) (SqL.of (e' _ _ h17))) val_c rfl) rfl
end

/-! ### the head and the end -/
abbrev R : PySem.W.OpenRow := PySem.W.OpenLaw.row PySem.Challenge.rw_topiary_k19_first_error_of_a_text
abbrev hk : PySem.W.Hook := hook 5 fa fn fx
def obs (s : PySem.W.SharedT) : Seen := lookAt 5 fa fn fx (HandSHeadRun.getT s)
theorem obs_eq (s : PySem.W.SharedT) : obs s = hk.obs s.abs := look_eq (HandSHeadRun.getT_eq s)
def names : List Str := ["TopiaryError", "TextError", "TooLarge", "is_sign", "is_letter", "_refuse", "Reading", "read_document", "_law_draws", "_law_take", "_law_same", "_law_string", "_law_tree", "_law_names", "_law_escaped", "_law_written", "_law_error", "_law_place", "_law_pieces", "NAME_LETTERS", "TEXT_CHARACTERS", "MOST_NODES", "MOST_DEPTH", "MOST_CHARACTERS", "WRITTEN_SIGNS"]
theorem run (w : World) : HandSHeadRun.RunEq R (PySem.W.view R.prog [29]) hk obs 3000 names w := by
  intro os
  kernel_rfl
theorem facts {w : World} {K : PySem.W.Frag} {h : Heap} {mg : Str → Option Value} {f : Addr} (X : K.In h) (G : h.Ns mainGlobals mg) (hfa : mg ("law" : Str) = some (.ref f)) (c : seen fa fn fx K = told fn) :
    ∃ fd : FuncData, (∀ (s : Shared) (v : Value), BindsTo s fd ⟨[v], []⟩ [("script", v)]) ∧ ∀ base : Heap, K.In base → base.Ns mainGlobals mg → FnOk (PySem.Challenge.rw_topiary_k19_first_error_of_a_text).prog w K mg base (L2.CX0) 34 f fd ["script"] (spLaw K) := by
  have T : TX K mg := txt_of X G c
  obtain ⟨fd, F⟩ := T.d 28 _ rfl
  have e := hfa.symm.trans T.g_law
  cases e
  exact ⟨fd, fun s v => FunD.bindsA (ps := ["script"]) F (fun _ _ _ _ _ _ us hl => match us, hl with | [_], _ => rfl) s [v] rfl, fun base _ _ => ok_law T fd F⟩
end Tp
open PySem PySem.W PySem.Calls PyProof.Rows
set_option maxRecDepth 100000 in
set_option maxHeartbeats 0 in
theorem PySem.Challenge.cw_topiary_k19_first_error_of_a_text_holds : PySem.Challenge.rw_topiary_k19_first_error_of_a_text.Holds := by
  w_on; o_law
  refine HandSHeadRun.head_any (r := OpenLaw.row PySem.Challenge.rw_topiary_k19_first_error_of_a_text) (q := view (OpenLaw.row PySem.Challenge.rw_topiary_k19_first_error_of_a_text).prog [29]) (H := Tp.hk) (ob := Tp.obs) (M := 3000) (loose := Tp.names) (d := HandSHeadRun.topDef (OpenLaw.row PySem.Challenge.rw_topiary_k19_first_error_of_a_text).prog 29) (kwd := []) Tp.obs_eq
    (by kernel_rfl) (fun s => by kernel_rfl) Tp.run (by kernel_rfl) (by kernel_rfl) (by kernel_rfl) (by rfl) (by first | assumption | decide +kernel) (by decide +kernel) ⟨rfl, rfl, rfl, rfl, rfl, by decide +kernel⟩ ?hw ?hc
  case hw => w_witness2
  case hc =>
    refine Tp.ends (l := PySem.Challenge.rw_topiary_k19_first_error_of_a_text) (n := 63) (k := 34) (x := "script") (CX := fun _ => L2.CX0) rfl (by decide) (by kernel_rfl) ⟨rfl, by decide, by decide⟩ ?F (fun _ _ _ _ _ z => z)
    intro w mg fa h Y G hmg0
    obtain ⟨K, KX, c⟩ := Y
    have hmg : mg ("law" : PySem.Str) = some (.ref fa) := by
      have e : (HandSHeadRun.topDef (OpenLaw.row PySem.Challenge.rw_topiary_k19_first_error_of_a_text).prog 29).name = ("law" : PySem.Str) := by kernel_rfl
      rw [← e]
      exact hmg0
    obtain ⟨fd, hb, hF⟩ := Tp.facts (w := w) KX G hmg c
    exact ⟨K, fd, Tp.spLaw K, KX, hb, fun H a ns hl hz hO hS => Tp.law_start hl hz hO hS, hF⟩
