import PyProof.Rows.All
import Wide.All
import OpenK.AllK
import Wide.FinOn
import KE.KStateDown
import HandS.ForMost
import HandS.Exc
import HandS.WordsExc
import HandS.ExcInit
import HandS.ExcField
import KE.KExcIs
import HandS.ExcIs
import HandS.Star
import HandS.DictComp
import HandS.Wide
import HandS.IsInst
import HandS.EndBits
import HandS.Evl
import HandS.Defaults
import HandS.Zip
import HandS.Steps
import HandS.Walk
import HandS.SortInts
import HandS.More
import HandS.SetKeys
import HandS.Head0
import HandS.Head1
import HandS.Head2
import HandS.HeadEnd
import HandS.HeadHook1
import HandS.HeadHook2
import HandS.HeadHook3
import HandS.HeadHook4
import HandS.HeadWalk
import HandS.FStr
import HandS.Text
import HandS.StrMore
import HandS.Codes
import HandS.Rev
import HandS.RevTup
import PyProof.ListNew
import HandS.ReplaceList
import HandS.ReplaceLit
import HandS.ReplaceDef
import PySem.Challenge.RW_topiary_k36_first_error_of_a_question
set_option Elab.async false
set_option linter.all false
set_option maxRecDepth 100000
set_option maxHeartbeats 4000000
/-! Words of my own over the hand layer: what the head tells (facts, defs, own exceptions), ends, heaps that change at few places. -/
namespace Tp
open PySem PySem.Spec PyProof.Rows L2

/-! ### own exceptions as the head tells them -/
def excShape (C : Addr) : Obj → Bool
  | ⟨.type t, _, .cls cd, sl⟩ => decide (t = "type") && (cd.hasDict && (!cd.hasDel && (match cd.mro, sl.toList with
    | .ref C' :: bm, [_, _, _, _, some (.builtin n), _] => decide (C' = C) && (decide (n = "ValueError.__new__") && PySem.HandSPX.refsVE bm)
    | _, _ => false)))
  | _ => false
theorem two {a b : Bool} (h : (a && b) = true) : a = true ∧ b = true := Bool.and_eq_true_iff.mp h
theorem excShape_ok {C : Addr} {o : Obj} (h : excShape C o = true) : ∃ nm q N bs bm sn sub ab col dd k0 k1 k2 k3 k5, o = excClassObj nm q C N bs bm true sn sub ab col dd k0 k1 k2 k3 k5 "ValueError.__new__" ∧ PySem.HandSPX.refsVE bm = true := by
  obtain ⟨oc, od, dt, sl⟩ := o
  cases oc with
  | type t =>
    cases dt with
    | cls cd =>
      obtain ⟨h1, h⟩ := two h
      obtain ⟨h2, h⟩ := two h
      obtain ⟨h3, h⟩ := two h
      obtain ⟨nm, bs, mro, ns, qn, hd, sn, sb, ab, col, del⟩ := cd
      obtain ⟨sl⟩ := sl
      have e1 : t = "type" := of_decide_eq_true h1
      subst e1
      cases del with
      | true => cases h3
      | false =>
        have e2 : hd = true := h2
        subst e2
        match mro, sl, h with
        | .ref C' :: bm, [k0, k1, k2, k3, some (.builtin n), k5], h =>
          obtain ⟨h4, h⟩ := two h
          obtain ⟨h5, h6⟩ := two h
          have e3 : C' = C := of_decide_eq_true h4
          have e4 : n = "ValueError.__new__" := of_decide_eq_true h5
          subst e3 e4
          exact ⟨nm, qn, ns, bs, bm, sn, sb, ab, col, od, k0, k1, k2, k3, k5, rfl, h6⟩
    | _ => cases h
  | _ => cases dt <;> cases h
/-- the class x of the module: an own exception -/
def excB (K : PySem.W.Frag) (x : Str) : Bool := (match K.lookup (He.ga K x) with
  | some o => excShape (He.ga K x) o
  | none => false) && (decide (PySem.W.findIn K (.ref (He.ga K x)) "__setattr__" = some (some (.builtin "object.__setattr__"))) && (decide (PySem.W.subIn K (.ref (He.ga K x)) (.type "BaseException") = some true) &&
  (decide (PySem.W.typeIn K (.ref (He.ga K x)) = some (.type "type")) && PySem.W.keepIn K (.ref (He.ga K x)))))
theorem excB_ok {K : PySem.W.Frag} {x : Str} (h : excB K x = true) : OexC K (He.ga K x) := by
  obtain ⟨h1, h⟩ := two h
  obtain ⟨h2, h⟩ := two h
  obtain ⟨h3, h⟩ := two h
  obtain ⟨h4, h5⟩ := two h
  refine ⟨?_, of_decide_eq_true h2, of_decide_eq_true h3, of_decide_eq_true h4, h5⟩
  cases q : K.lookup (He.ga K x) with
  | none =>
    rw [q] at h1
    cases h1
  | some o =>
    rw [q] at h1
    obtain ⟨nm, qn, N, bs, bm, sn, sub, ab, col, dd, k0, k1, k2, k3, k5, e, r⟩ := excShape_ok h1
    exact ⟨nm, qn, N, bs, bm, sn, sub, ab, col, dd, k0, k1, k2, k3, k5, by rw [e], r⟩
/-- its own __init__ -/
def iniB (K : PySem.W.Frag) (x : Str) : Bool := decide (PySem.W.findIn K (.ref (He.ga K x)) "__init__" = some (some (.ref (He.ma K (He.ga K x) "__init__")))) && decide (PySem.W.typeIn K (.ref (He.ma K (He.ga K x) "__init__")) = some (.type "function"))
theorem iniB_ok {K : PySem.W.Frag} {x : Str} (h : iniB K x = true) : PySem.W.findIn K (.ref (He.ga K x)) "__init__" = some (some (.ref (He.ma K (He.ga K x) "__init__"))) ∧ PySem.W.typeIn K (.ref (He.ma K (He.ga K x) "__init__")) = some (.type "function") := by
  obtain ⟨h1, h2⟩ := two h
  exact ⟨of_decide_eq_true h1, of_decide_eq_true h2⟩
/-- what isinstance of a caught own error asks of its class -/
def excCB (K : PySem.W.Frag) (D : Addr) : Bool := decide (PySem.W.findIn K (.ref D) "__getattribute__" = some (some (.builtin "BaseException.__getattribute__"))) && (decide (PySem.W.findIn K (.ref D) "__getattr__" = some none) && (decide (PySem.W.subIn K (.ref D) (.type "BaseException") = some true) && (PySem.W.hasDictIn K D &&
  (decide (PySem.W.findIn K (.ref D) "__class__" = some (some (.builtin "object.__class__"))) && (decide (PySem.W.specialIn K (.builtin "object.__class__") "__get__" = some (some (.builtin "getset_descriptor.__get__"))) && (decide (PySem.W.takesIn K (.builtin "object.__class__") = some true) && decide (PySem.W.mroIn K D (.type "object") = some true)))))))
theorem excCB_ok {K : PySem.W.Frag} {D : Addr} (h : excCB K D = true) : ExcC K D := by
  obtain ⟨h1, h⟩ := two h
  obtain ⟨h2, h⟩ := two h
  obtain ⟨h3, h⟩ := two h
  obtain ⟨h4, h⟩ := two h
  obtain ⟨h5, h⟩ := two h
  obtain ⟨h6, h⟩ := two h
  obtain ⟨h7, h8⟩ := two h
  exact ⟨of_decide_eq_true h1, of_decide_eq_true h2, of_decide_eq_true h3, h4, of_decide_eq_true h5, of_decide_eq_true h6, of_decide_eq_true h7, of_decide_eq_true h8⟩
/-- isinstance(e, t), e the caught error of the own class C with its dict -/
def rIsX (a : Addr) (cls : Value) (d : Option Addr) (C : Addr) (t : String) (b : Bool) : List V → Hp → VK → Prop := fun xs H Q => xs = [.ref a, .ty t] ∧ cls = .ref C ∧ (∃ (dd : Addr) (fs : List (Str × V)), d = some dd ∧ H dd = some (.xd fs)) ∧ Q (.bl b) H
theorem call_isX {X : Cx} {a C : Addr} {oe : Obj} {cls : Value} {d : Option Addr} {pn : List (Addr × Obj)} {t : String} {b : Bool} (T : ExcC X.K C) (e : PySem.W.kitOne X.K (.ref C) (.type t) = some b) (hz : Zc cls d oe) (hf : ∃ vs, oe.data = .fields vs) : CallR (X.suite a ((a, oe) :: pn)) (.builtin "isinstance") (rIsX a cls d C t b) := by
  intro pins s σ H xs us Q I r h
  obtain ⟨rfl, ec, ⟨dd, fs, ed, ea⟩, q⟩ := h
  subst ec
  subst ed
  cases r with
  | cons rx rr =>
    cases rr with
    | cons rt rr =>
      cases rr
      cases rx
      cases rt
      obtain ⟨ha, _⟩ := I.pin (a, oe) (List.mem_append_left _ List.mem_cons_self)
      obtain ⟨vs, hd⟩ := hf
      have hx : ObjOk X.prog X.w H s.heap dd (.xd fs) := I.hok dd _ ea
      obtain ⟨mA, hns, hr⟩ := hx
      obtain ⟨od, ho, hl⟩ := lookIn_ns hns
      have J : PySem.W.InstAt s.heap a oe C (some od) := ⟨ha, hz.1, by unfold PySem.W.notCls; rw [hd] <;> rfl, by rw [hz.2]; exact ho⟩
      have hcl : (PySem.W.clsIn X.K C).isSome = true := by
        obtain ⟨cd, hc, _⟩ := PySem.W.any_some T.hd
        rw [hc] <;> rfl
      exact PySem.W.kia_one (PySem.W.kitx_exc hcl T.hg T.hk T.hs T.ha T.hn T.ht T.hm) I.kIn J e (fun z => nomatch z) fun tk => ⟨.bl b, H, I.kept (t' := tk) fun _ _ z => z, rfl, q⟩
/-- a tuple of texts in the written part -/
def strV : Value → Option Str
  | .str z _ => some z
  | _ => none
def strsB (K : PySem.W.Frag) (a : Addr) (zs : List Str) : Bool := match K.lookup a with
  | some ⟨.type "tuple", _, .seq its _, _⟩ => decide (its.size ≤ 1000) && decide (its.toList.map strV = zs.map some)
  | _ => false
def refV : Value → Option Addr
  | .ref a => some a
  | _ => none
def tupsB (K : PySem.W.Frag) (a : Addr) (zs : List (List Str)) : Bool := match K.lookup a with
  | some ⟨.type "tuple", _, .seq its _, _⟩ => decide (its.size ≤ 1000) && decide (its.size = zs.length) && (its.toList.zip zs).all fun p => match refV p.1 with
    | some b => strsB K b p.2
    | none => false
  | _ => false
theorem vals_strs : ∀ {us : List Value} {zs : List Str}, us.map strV = zs.map some → Vals (zs.map V.str) us
  | [], [], _ => .nil
  | [], _ :: _, h => by cases h
  | _ :: _, [], h => by cases h
  | u :: us, z :: zs, h => by
    rw [List.map_cons, List.map_cons] at h
    obtain ⟨h1, h2⟩ := List.cons.inj h
    refine .cons ?_ (vals_strs h2)
    cases u with
    | str y t =>
      cases h1
      exact ⟨t, rfl⟩
    | _ => cases h1
theorem strsB_ok {K : PySem.W.Frag} {a : Addr} {zs : List Str} (h : strsB K a zs = true) (H : Hp) : SqT K H a (zs.map V.str) := by
  unfold strsB at h
  split at h
  · rename_i its n sl e
    have h' := Bool.and_eq_true_iff.mp h
    exact .inr ⟨_, its, n, e, rfl, rfl, Nat.le_trans (of_decide_eq_true h'.1) (by decide), vals_strs (of_decide_eq_true h'.2)⟩
  · cases h
theorem tups_refs {K : PySem.W.Frag} : ∀ {us : List Value} {zs : List (List Str)}, us.length = zs.length → ((us.zip zs).all fun p => match refV p.1 with
    | some b => strsB K b p.2
    | none => false) = true → ∃ as : List Addr, Vals (as.map V.ref) us ∧ as.length = zs.length ∧ ∀ (i : Nat) (a : Addr) (z : List Str), as[i]? = some a → zs[i]? = some z → strsB K a z = true
  | [], [], _, _ => ⟨[], .nil, rfl, fun i a z h => by cases h⟩
  | [], _ :: _, h, _ => by cases h
  | _ :: _, [], h, _ => by cases h
  | u :: us, z :: zs, hl, h => by
    rw [List.zip_cons_cons, List.all_cons] at h
    obtain ⟨h1, h2⟩ := Bool.and_eq_true_iff.mp h
    obtain ⟨as, g1, g2, g3⟩ := tups_refs (Nat.succ.inj hl) h2
    cases u with
    | ref a =>
      refine ⟨a :: as, .cons rfl g1, by rw [List.length_cons, List.length_cons, g2], fun i b y e1 e2 => ?_⟩
      cases i with
      | zero =>
        cases e1
        cases e2
        exact h1
      | succ i => exact g3 i b y e1 e2
    | _ => cases h1
/-- a tuple of tuples of texts -/
def TupsC (K : PySem.W.Frag) (a : Addr) (zs : List (List Str)) : Prop := ∃ as : List Addr, as.length = zs.length ∧ (∀ H, SqT K H a (as.map V.ref)) ∧ ∀ (i : Nat) (b : Addr) (z : List Str), as[i]? = some b → zs[i]? = some z → ∀ H, SqT K H b (z.map V.str)
theorem tupsB_ok {K : PySem.W.Frag} {a : Addr} {zs : List (List Str)} (h : tupsB K a zs = true) : TupsC K a zs := by
  unfold tupsB at h
  split at h
  · rename_i its n sl e
    obtain ⟨h', h3⟩ := Bool.and_eq_true_iff.mp h
    obtain ⟨h1, h2⟩ := Bool.and_eq_true_iff.mp h'
    obtain ⟨as, g1, g2, g3⟩ := tups_refs (us := its.toList) (by rw [Array.length_toList]; exact of_decide_eq_true h2) h3
    exact ⟨as, g2, fun H => .inr ⟨_, its, n, e, rfl, rfl, Nat.le_trans (of_decide_eq_true h1) (by decide), g1⟩, fun i b z e1 e2 H => strsB_ok (g3 i b z e1 e2) H⟩
  · cases h
/-- one more fact of the head: an exception's class; one whose fields are read; a sub-question of two classes -/
inductive Fx where
  | tups (x : Str) (zs : List (List Str))
  | strs (x : Str) (zs : List Str)
  | dvals (x : Str) (kvs : List (Str × He.Dv))
  | exc (x : Str)
  | ini (x : Str)
  | xf (x : Str)
  | sub (x y : Str) (b : Bool)
  | isC (x : Str)
  | isx (x : Str) (t : String) (b : Bool)
def Fx.ok (K : PySem.W.Frag) : Fx → Bool
  | .tups x zs => tupsB K (He.ga K x) zs
  | .strs x zs => strsB K (He.ga K x) zs
  | .dvals x kvs => He.valsB K (He.ga K x) kvs
  | .exc x => excB K x
  | .ini x => iniB K x
  | .xf x => xfB K (He.ga K x)
  | .sub x y b => decide (PySem.W.exmOne K (.ref (He.ga K x)) (.ref (He.ga K y)) = some b)
  | .isC x => PySem.W.isClsIn K (He.ga K x)
  | .isx x t b => excCB K (He.ga K x) && decide (PySem.W.kitOne K (.ref (He.ga K x)) (.type t) = some b)

/-! ### the head's Hook -/
abbrev Seen : Type := He.AlD × Bool
def seen (fa : List He.Fa) (fn : List He.DefD) (fx : List Fx) (K : PySem.W.Frag) : Seen := (He.obsD fa fn K, fx.all fun f => f.ok K)
def told (fn : List He.DefD) : Seen := (He.valD fn, true)
def lookAt (n : Nat) (fa : List He.Fa) (fn : List He.DefD) (fx : List Fx) (g : Addr → Option Obj) : Seen := seen fa fn fx (He.frG g (He.asD g n))
def hook (n : Nat) (fa : List He.Fa) (fn : List He.DefD) (fx : List Fx) : PySem.W.Hook where
  α := Seen
  obs := fun s => lookAt n fa fn fx s.heap.get?
  val := fun _ => told fn
  says := fun _ h => ∃ K : PySem.W.Frag, K.In h ∧ seen fa fn fx K = told fn
  of := fun _ _ e => ⟨_, He.frG_in, e⟩
  keeps := fun _ _ _ ⟨K, hK, c⟩ k => ⟨K, PySem.W.Frag.In.keeps hK k, c⟩
theorem look_eq {n : Nat} {fa : List He.Fa} {fn : List He.DefD} {fx : List Fx} {g : Addr → Option Obj} {s : Shared} (h : ∀ a, g a = s.heap.get? a) : lookAt n fa fn fx g = (hook n fa fn fx).obs s := by
  have e : g = s.heap.get? := funext h
  subst e
  rfl
/-- what the walk leans on, by places in the lists -/
structure Txt (fa : List He.Fa) (fn : List He.DefD) (fx : List Fx) (K : PySem.W.Frag) (mg : Str → Option Value) : Prop where
  f : ∀ (i : Nat) (f : He.Fa), fa[i]? = some f → f.ok K = true
  d : ∀ (i : Nat) (d : He.DefD), fn[i]? = some d → ∃ fd, FunD K d.name d.qual d.params d.body d.scope (d.dvs K) (d.kws K) (He.fAd K d.at_) fd
  x : ∀ (i : Nat) (f : Fx), fx[i]? = some f → f.ok K = true
  gl : ∀ (i : Nat) (x : Str), fa[i]? = some (.glo x) → mg x = some (.ref (He.ga K x))
  no : ∀ (i : Nat) (x : Str), fa[i]? = some (.free x) → mg x = none
  int : ∀ (i : Nat) (x : Str) (n : Int), fa[i]? = some (.int x n) → ∃ t, mg x = some (.int n t)
  str : ∀ (i : Nat) (x z : Str), fa[i]? = some (.str x z) → ∃ t, mg x = some (.str z t)
theorem txt_of {fa : List He.Fa} {fn : List He.DefD} {fx : List Fx} {K : PySem.W.Frag} {mg : Str → Option Value} {h : Heap} (X : K.In h) (G : h.Ns mainGlobals mg) (c : seen fa fn fx K = told fn) : Txt fa fn fx K mg := by
  have c1 : He.SaysD fa fn K := congrArg (fun z : Seen => z.1) c
  have c2 : (fx.all fun f => f.ok K) = true := congrArg (fun z : Seen => z.2) c
  exact ⟨fun i f e => c1.fact i e, fun i d e => c1.def_ i e, fun i f e => List.all_eq_true.mp c2 f (List.mem_of_getElem? e), fun i x e => He.glo_ok X G (c1.fact i e), fun i x e => He.free_ok X G (c1.fact i e),
    fun i x n e => He.int_ok X G (c1.fact i e), fun i x z e => He.str_ok X G (c1.fact i e)⟩

/-! ### defs -/
/-- a def that lets nothing out -/
theorem def0 {P : Program} {w : World} {K : PySem.W.Frag} {mg : Str → Option Value} {base : Heap} {x qual : Str} {params : Arguments} {body : List Stmt} {scope : Scope} {dvs : List V} {kws : List (Str × V)} {f : Addr} {fd : FuncData} {N ps : List Str} {k : Nat} {sp : Sp}
    (F : FunD K x qual params body scope dvs kws f fd) (S : FnScope N ps scope) (len : ∀ vs H Q E, sp vs H Q E → vs.length = ps.length)
    (hb : ∀ (cdv : Value) (A : Around) (outer : List Env) (s : Shared) (H : Hp) (vs : List V) (Q : VK) (E : XK), Room k (A.deeper (envOfC qual scope s.heap.objs.size f cdv)) → sp vs H Q E →
      ∃ t, PSs (cxOf CX0 P w K mg base N qual scope f cdv A outer s H E).nox body t ∧ t { nx := fun _ H' => Q .non H', rt := Q } (start N vs) H) : FnOk P w K mg base CX0 (k + 1) f fd ps sp :=
  F.ok S len fun cdv A outer s H vs Q E hr h => by
    obtain ⟨t, ht, q⟩ := hb cdv A outer s H vs Q E hr h
    exact ⟨t, PSs.nox ht, q⟩
/-- a def that may let out errors -/
theorem defX {P : Program} {w : World} {K : PySem.W.Frag} {mg : Str → Option Value} {base : Heap} {x qual : Str} {params : Arguments} {body : List Stmt} {scope : Scope} {dvs : List V} {kws : List (Str × V)} {f : Addr} {fd : FuncData} {N ps : List Str} {k : Nat} {sp : Sp}
    (F : FunD K x qual params body scope dvs kws f fd) (S : FnScope N ps scope) (len : ∀ vs H Q E, sp vs H Q E → vs.length = ps.length)
    (hb : ∀ (cdv : Value) (A : Around) (outer : List Env) (s : Shared) (H : Hp) (vs : List V) (Q : VK) (E : XK), Room k (A.deeper (envOfC qual scope s.heap.objs.size f cdv)) → sp vs H Q E →
      ∃ t, PSs (cxOf (L2.CX P w) P w K mg base N qual scope f cdv A outer s H E) body t ∧ t { nx := fun _ H' => Q .non H', rt := Q } (start N vs) H) : FnOk P w K mg base (L2.CX P w) (k + 1) f fd ps sp :=
  F.ok S len hb
/-- a def as callers want it: dvs the defaults that fill up -/
def Can (P : Program) (w : World) (K : PySem.W.Frag) (mg : Str → Option Value) (base : Heap) (CX : CXT) (k : Nat) (f : Addr) (ps : List Str) (dvs : List V) (sp : Sp) : Prop := ∃ fd, FnOk P w K mg base CX k f fd ps sp ∧ ∃ ds, Vals dvs ds ∧ Binds K fd ps ds

/-! ### the law's end -/
theorem ends {l : PySem.W.OpenLaw} {n k : Nat} {q : Program} {loose : List Str} {XP : (Str → Option Value) → Heap → Prop} {YP : World → Heap → Prop} {d : DefRec} {CX : World → CXT} {x : Str}
    (hn : l.most = some n) (hn2 : n ≤ sizeLine) (hdf : d.params.defaults = []) (hr : Room k callerA)
    (F : ∀ (w : World) (mg : Str → Option Value) (fa : Addr) (h : Heap), YP w h → h.Ns mainGlobals mg → mg d.name = some (.ref fa) →
      ∃ (K : PySem.W.Frag) (fd : FuncData) (sp : Sp), K.In h ∧ (∀ (s : Shared) (u : Value), BindsTo s fd ⟨[u], []⟩ [(x, u)]) ∧
        (∀ (H : Hp) (a : Addr) (ns : List Int), ns.length ≤ n → (∀ z ∈ ns, Builtin.Int.intBits z ≤ 1048576) → Only H → SqL K H a (ns.map V.int) → sp [.ref a] H (fun v _ => v = .bl true) fun _ _ _ => False) ∧
        ∀ base : Heap, K.In base → base.Ns mainGlobals mg → FnOk l.prog w K mg base (CX w) k fa fd [x] sp)
    (hCX : ∀ (w : World) (H : Hp) (s : Shared) (e : Value) (s' : Shared), CX w [] H s (fun _ _ _ => False) e s' → False) :
    PySem.W.WalkO q loose XP YP l.row.toRowW d [] (fun f vs => PySem.call f vs) := by
  refine Att.attach_callB hn hdf fun w s₀ s₁ mg mb fa o pm cd doc a vs ns G Y ho hd hcd hmg hobj hints hlen hbits hg => ?_
  obtain ⟨K, fd, sp, KX, hb, hsp, hF⟩ := F w mg fa _ Y G.T.g hmg
  exact law_call KX G.T.g G.T.b G.T.builtins G.T.nolimit hg hobj hints (Nat.le_trans hlen hn2) hr hF hb (fun H hO hS => hsp H a ns hlen hbits hO hS) fun H e s' => hCX w H s₁ e s'
theorem no_leak {P : Program} {w : World} {H : Hp} {s : Shared} {e : Value} {s' : Shared} (h : L2.CX P w [] H s (fun _ _ _ => False) e s') : False := by
  obtain ⟨_, _, _, _, _, _, _, _, _, _, _, _, z⟩ := h
  exact z.elim

/-! ### heaps: all but some places stay -/
/-- what H tracks but at the places of S stays -/
def Kp (S : List Addr) (H H' : Hp) : Prop := ∀ a o, a ∉ S → H a = some o → H' a = some o
theorem Kp.refl {S : List Addr} {H : Hp} : Kp S H H := fun _ _ _ e => e
theorem Kp.trans {S : List Addr} {H H1 H2 : Hp} (a : Kp S H H1) (b : Kp S H1 H2) : Kp S H H2 := fun x o n e => b x o n (a x o n e)
theorem Kp.new {S : List Addr} {H : Hp} {p : Addr} {o : HO} (h : H p = none) : Kp S H (upd H p o) := fun a u _ e => by
  rw [upd_ne (ne_of_none e h)]
  exact e
theorem Kp.put {S : List Addr} {H : Hp} {p : Addr} {o : HO} (h : p ∈ S) : Kp S H (upd H p o) := fun a u n e => by
  rw [upd_ne (fun z => n (by rw [z]; exact h))]
  exact e
/-- an object that H does not know may change -/
theorem Kp.mut {S : List Addr} {H H' : Hp} {p : Addr} {o : HO} (e : Kp S H H') (h : H p = none) : Kp S H (upd H' p o) := fun a u n ha => by
  rw [upd_ne (ne_of_none ha h)]
  exact e a u n ha
theorem Kp.mono {S S' : List Addr} {H H' : Hp} (e : Kp S H H') (h : ∀ a ∈ S, a ∈ S') : Kp S' H H' := fun a o n ha => e a o (fun z => n (h a z)) ha
theorem Kp.ex {H H' : Hp} (e : Kp [] H H') : Evl.Ex H H' := fun a o h => e a o (by simp) h
theorem Kp.of {S : List Addr} {H H' : Hp} (e : Evl.Ex H H') : Kp S H H' := fun a o _ h => e a o h
theorem Kp.of' {S : List Addr} {H H' : Hp} (e : Same H H') : Kp S H H' := fun a o _ h => e a o h
theorem Kp.fresh {H H' : Hp} {p : Addr} (e : Kp [] H H') (h : H' p = none) : H p = none := Evl.fresh_back e.ex h
/-- fresh behind, fresh ahead, where the places of S are known -/
theorem Kp.back {S : List Addr} {H H' : Hp} {p : Addr} (e : Kp S H H') (hs : ∀ a ∈ S, H' a ≠ none) (h : H' p = none) : H p = none := by
  cases q : H p with
  | none => rfl
  | some o =>
    by_cases hp : p ∈ S
    · exact absurd h (hs p hp)
    · rw [e p o hp q] at h
      cases h
theorem Kp.up {H : Hp} {p : Addr} {o : HO} : Kp [p] H (upd H p o) := fun a u n e => by
  rw [upd_ne (fun z => n (by rw [z]; exact List.mem_singleton.mpr rfl))]
  exact e
theorem Kp.at {S : List Addr} {H H' : Hp} {a : Addr} {o : HO} (e : Kp S H H') (ha : H a = some o) (n : a ∉ S := by simp) : H' a = some o := e a o n ha

theorem Kp.sqL {K : PySem.W.Frag} {H H' : Hp} {p l C dx : Addr} {fs : List (Str × V)} {xs : List V} (e : Kp [p] H H') (hp : H p = some (.ins C dx fs)) (h : SqL K H l xs) : SqL K H' l xs := by
  rcases h with (h | ⟨o, h⟩) | h
  · exact .inl (.inl (e.at h fun z => by rw [List.mem_singleton.mp z, hp] at h; cases h))
  · exact .inl (.inr ⟨o, e.at h fun z => by rw [List.mem_singleton.mp z, hp] at h; cases h⟩)
  · exact .inr h

/-! ### own exceptions made -/
theorem exo_end {H : Hp} {a d : Addr} {o1 o2 o3 u : HO} (hn : H a = none) (hd : d ≠ a) : upd (L2.del (upd (upd (upd H a o1) d o2) a o3) a) d u = upd H d u := by
  funext b
  by_cases h1 : b = d
  · subst h1
    rw [upd_same, upd_same]
  · rw [upd_ne h1, upd_ne h1]
    by_cases h2 : b = a
    · subst h2
      rw [del_same, hn]
    · rw [del_ne h2, upd_ne h2, upd_ne h1, upd_ne h2]
theorem exo_end2 {H : Hp} {a d : Addr} {o1 o2 o3 o4 u : HO} (hn : H a = none) (hd : d ≠ a) : upd (L2.del (upd (upd (upd (upd H a o1) d o2) a o3) d o4) a) d u = upd H d u := by
  funext b
  by_cases h1 : b = d
  · subst h1
    rw [upd_same, upd_same]
  · rw [upd_ne h1, upd_ne h1]
    by_cases h2 : b = a
    · subst h2
      rw [del_same, hn]
    · rw [del_ne h2, upd_ne h1, upd_ne h2, upd_ne h1, upd_ne h2]
/-- the __init__ of an own exception with one field -/
def spX1 (K : PySem.W.Frag) (C : Addr) (f : Str) : Sp := fun vs H Q _ => ∃ (a : Addr) (y : V), vs = [.ref a, y] ∧ OexC K C ∧ PySem.W.findIn K (.ref C) f = some none ∧ H a = some (exo a C none) ∧
  ∀ dx, H dx = none → dx ≠ a → Q .non (upd (upd H dx (exd dx [(f, y)])) a (exo a C (some dx)))
/-- .. with two fields -/
def spX2 (K : PySem.W.Frag) (C : Addr) (f g : Str) : Sp := fun vs H Q _ => ∃ (a : Addr) (y z : V), vs = [.ref a, y, z] ∧ OexC K C ∧ PySem.W.findIn K (.ref C) f = some none ∧ PySem.W.findIn K (.ref C) g = some none ∧ H a = some (exo a C none) ∧
  ∀ dx, H dx = none → dx ≠ a → Q .non (upd (upd (upd H dx (exd dx [(f, y)])) a (exo a C (some dx))) dx (exd dx [(g, z), (f, y)]))
/-- C(e) is made, to be raised -/
theorem made1 {K : PySem.W.Frag} {C : Addr} {f : Str} {y : V} {H : Hp} {Q : XK} (T : OexC K C) (hno : PySem.W.findIn K (.ref C) f = some none) (h : ∀ d, H d = none → Q (.ref C) (some d) (upd H d (.xd [(f, y)]))) :
    [y].length ≤ 1000 ∧ ∀ a, H a = none → spX1 K C f (.ref a :: ([y] ++ [])) (upd H a (exo a C none)) (fun v H2 => v = .non ∧ ∃ (d : Addr) (fs : List (Str × V)), H2 a = some (exo a C (some d)) ∧ H2 d = some (exd d fs) ∧ H d = none ∧ Q (.ref C) (some d) (upd (L2.del H2 a) d (.xd fs))) (fun _ _ _ => False) := by
  refine ⟨by show 1 ≤ 1000; decide, fun a hn => ⟨a, y, rfl, T, hno, upd_same, fun dx hd ne => ⟨rfl, dx, _, upd_same, by rw [upd_ne ne, upd_same], ?_, ?_⟩⟩⟩
  · rw [upd_ne ne] at hd
    exact hd
  · rw [exo_end hn ne]
    rw [upd_ne ne] at hd
    exact h dx hd
theorem made2 {K : PySem.W.Frag} {C : Addr} {f g : Str} {y z : V} {H : Hp} {Q : XK} (T : OexC K C) (hf : PySem.W.findIn K (.ref C) f = some none) (hg : PySem.W.findIn K (.ref C) g = some none) (h : ∀ d, H d = none → Q (.ref C) (some d) (upd H d (.xd [(g, z), (f, y)]))) :
    [y, z].length ≤ 1000 ∧ ∀ a, H a = none → spX2 K C f g (.ref a :: ([y, z] ++ [])) (upd H a (exo a C none)) (fun v H2 => v = .non ∧ ∃ (d : Addr) (fs : List (Str × V)), H2 a = some (exo a C (some d)) ∧ H2 d = some (exd d fs) ∧ H d = none ∧ Q (.ref C) (some d) (upd (L2.del H2 a) d (.xd fs))) (fun _ _ _ => False) := by
  refine ⟨by show 2 ≤ 1000; decide, fun a hn => ⟨a, y, z, rfl, T, hf, hg, upd_same, fun dx hd ne => ⟨rfl, dx, _, by rw [upd_ne (Ne.symm ne), upd_same], upd_same, ?_, ?_⟩⟩⟩
  · rw [upd_ne ne] at hd
    exact hd
  · rw [exo_end2 hn ne]
    rw [upd_ne ne] at hd
    exact h dx hd

/-! ### fields -/
theorem putF_app : ∀ {fs : List (Str × V)} {f : Str} {v : V} {ks : List Str}, fs.map (·.1) = ks → ks.all (fun k => !decide (k = f)) = true → putF f v fs = fs ++ [(f, v)]
  | [], f, v, ks, _, _ => rfl
  | (g, x) :: r, f, v, ks, e, h => by
    subst e
    rw [List.map_cons, List.all_cons] at h
    obtain ⟨h1, h2⟩ := Bool.and_eq_true_iff.mp h
    have ne : ¬ g = f := fun z => by
      have h3 : (!decide (g = f)) = true := h1
      rw [decide_eq_true z] at h3
      cases h3
    show (if g = f then (g, v) :: r else (g, x) :: putF f v r) = (g, x) :: (r ++ [(f, v)])
    rw [if_neg ne, putF_app rfl h2]
theorem fld_at : ∀ {fs : List (Str × V)} {f : Str} {v : V} {ks : List Str} (i : Nat), fs.map (·.1) = ks → fs[i]? = some (f, v) → (ks.take i).all (fun k => !decide (k = f)) = true → fs.lookup f = some v
  | [], f, v, ks, i, _, e, _ => by cases i <;> cases e
  | (g, x) :: r, f, v, ks, 0, _, e, _ => by
    have e1 : (g, x) = (f, v) := Option.some.inj e
    cases e1
    show (match g == g with | true => some x | false => r.lookup g) = some x
    rw [beq_self_eq_true]
  | (g, x) :: r, f, v, ks, i + 1, hk, e, h => by
    subst hk
    rw [List.map_cons, List.take_succ_cons, List.all_cons] at h
    obtain ⟨h1, h2⟩ := Bool.and_eq_true_iff.mp h
    have ne : ¬ f = g := fun z => by
      have h3 : (!decide (g = f)) = true := h1
      rw [decide_eq_true z.symm] at h3
      cases h3
    show (match f == g with | true => some x | false => r.lookup f) = some v
    rw [beq_eq_false_iff_ne.mpr ne]
    exact fld_at i rfl e h2
theorem fld_no : ∀ {fs : List (Str × V)} {f : Str} {ks : List Str}, fs.map (·.1) = ks → ks.all (fun k => !decide (k = f)) = true → fs.lookup f = none
  | [], f, ks, _, _ => rfl
  | (g, x) :: r, f, ks, e, h => by
    subst e
    rw [List.map_cons, List.all_cons] at h
    obtain ⟨h1, h2⟩ := Bool.and_eq_true_iff.mp h
    have ne : ¬ f = g := fun z => by
      have h3 : (!decide (g = f)) = true := h1
      rw [decide_eq_true z.symm] at h3
      cases h3
    show (match f == g with | true => some x | false => r.lookup f) = none
    rw [beq_eq_false_iff_ne.mpr ne]
    exact fld_no rfl h2

/-! ### the rules by the written part's own name -/
def rLn (K : PySem.W.Frag) : List V → Hp → VK → Prop := fun xs H Q => ∃ p ys, xs = [.ref p] ∧ (SqL K H p ys ∨ SqT K H p ys) ∧ Q (.int ys.length) H
def rLs (K : PySem.W.Frag) : List V → Hp → VK → Prop := fun xs H Q => ∃ p ys, xs = [.ref p] ∧ (SqL K H p ys ∨ SqT K H p ys) ∧ ∀ l, H l = none → Q (.ref l) (upd H l (.lst ys))
def tTr (K : PySem.W.Frag) (ta : TE) : TT := fun σ H Q => ta σ H fun x H' => ∃ k, TruV K x H' k ∧ Q k H'
section
variable {X : Cx} (K : PySem.W.Frag)
theorem ixL (h : X.K = K) : IxR X (rIxL K) := h ▸ ix_list
theorem ixT (h : X.K = K) : IxR X (rIxT K) := h ▸ ix_tup
theorem ixS (h : X.K = K) : IxR X (rIx K) := h ▸ ix_seq
theorem slL (h : X.K = K) : SlR X (rSlL K) := h ▸ sl_list
theorem slT (h : X.K = K) : SlR X (rSlT K) := h ▸ sl_tup
theorem cLen (h : X.K = K) : CallR X (.builtin "len") (rLn K) := h ▸ call_len_seq
theorem cList (h : X.K = K) : CallR X (.type "list") (rLs K) := h ▸ call_list_of
theorem cSum (h : X.K = K) (hc : X.calm = true) : CallR X (.builtin "sum") (rSum K) := h ▸ cr_sum hc
theorem cMax (h : X.K = K) (hc : X.calm = true) : CallR X (.builtin "max") (rMax K) := h ▸ cr_max hc
theorem cMin (h : X.K = K) (hc : X.calm = true) : CallR X (.builtin "min") (rMin K) := h ▸ cr_min hc
theorem cAny (h : X.K = K) (hc : X.calm = true) : CallR X (.builtin "any") (rAny K) := h ▸ cr_any hc
theorem cAll (h : X.K = K) (hc : X.calm = true) : CallR X (.builtin "all") (rAll K) := h ▸ cr_all hc
theorem cIsi (h : X.K = K) : CallR X (.builtin "isinstance") (rIsi K) := h ▸ call_isi
theorem cSorted (h : X.K = K) : CallR X (.builtin "sorted") (rSortedI K) := h ▸ cr_sortedI
theorem oIn (h : X.K = K) : OpR X (compareOp .In) (rIn K false) := h ▸ op_in_seq
theorem oNotIn (h : X.K = K) : OpR X (compareOp .NotIn) (rIn K true) := h ▸ op_notIn_seq
theorem oEqD (h : X.K = K) (hu : X.A.units + 64 < cLine) : OpR X (compareOp .Eq) (rEqD K) := h ▸ op_eqD hu
theorem oNeD (h : X.K = K) (hu : X.A.units + 64 < cLine) : OpR X (compareOp .NotEq) (rNeD K) := h ▸ op_neD hu
theorem eFld (h : X.K = K) {e : Expr} {f : Str} {pos : Pos} {ta : TE} (he : PE X e ta) (hb : attributeBase e f X.env (eval e X.env) = eval e X.env := by rfl) : PE X (.Attribute e f pos) (tFld K ta f) := h ▸ pe_fld he hb
theorem tTruth (h : X.K = K) {a : Expr} {ta : TE} (ha : PE X a ta) (he : ∀ whole, isTrue a X.env whole = (do let v ← whole; standAt a.pos; holding [v] (truthy v)) := by intro _; rfl) : PT X a (tTr K ta) := h ▸ pt_truth ha he
theorem iLst (h : X.K = K) {tg l : Expr} {tl : TE} (hl : PE X l tl) : PI X tg l (iList K tl) := h ▸ pi_list hl
theorem iTpl (h : X.K = K) {tg l : Expr} {tl : TE} (hl : PE X l tl) : PI X tg l (iTup K tl) := h ▸ pi_tup hl
theorem iEnu (h : X.K = K) {e : Expr} {ta : TA} {p pos tpos : Pos} {elts : List Expr} {kk : Nat} (hg : Gl X "enumerate") (hm : X.mg "enumerate" = none) (ha : PA X [e] ta) (hs : starEach [e] X.env = [(false, eval e X.env)] := by rfl) :
    PI X (.Tuple elts kk tpos) (.Call (.Name "enumerate" p) [e] [] pos) (iEnum K ta) := h ▸ pi_enum hg hm ha hs
theorem iRvs (h : X.K = K) {tg e : Expr} {ta : TA} {p pos : Pos} (hg : Gl X "reversed") (hm : X.mg "reversed" = none) (ha : PA X [e] ta) (hs : starEach [e] X.env = [(false, eval e X.env)] := by rfl) :
    PI X tg (.Call (.Name "reversed" p) [e] [] pos) (iRev K ta) := h ▸ pi_reversed hg hm ha hs
theorem iZp (h : X.K = K) {e e2 : Expr} {ta : TA} {p pos tpos : Pos} {elts : List Expr} {kk : Nat} (hg : Gl X "zip") (hm : X.mg "zip" = none) (ha : PA X [e, e2] ta)
    (hs : starEach [e, e2] X.env = (false, eval e X.env) :: starEach [e2] X.env := by rfl) (hpl : (backTo pos (starEach [e2] X.env)).any (·.1) = false := by rfl) : PI X (.Tuple elts kk tpos) (.Call (.Name "zip" p) [e, e2] [] pos) (iZip K ta) := h ▸ pi_zip hg hm ha hs hpl
theorem sFd (h : X.K = K) {o value : Expr} {f : Str} {pos pos' : Pos} {ta tv : TE} (ha : PE X o ta) (hv : PE X value tv) (hs : swapsWith value (some (.Attribute o f pos')) pos.line X.env = pure false) : PS X (.Assign [.Attribute o f pos'] value pos) (sFld K ta tv f) := h ▸ ps_fld ha hv hs
theorem sFdAug (h : X.K = K) {o value : Expr} {f : Str} {pos tpos : Pos} {ta tv : TE} {op : Operator} {rd : V → V → Hp → VK → Prop} (hop : InOp X op rd) (ha : PE X o ta) (hv : PE X value tv) : PS X (.AugAssign (.Attribute o f tpos) op value pos) (sFldAug K ta tv rd f) := h ▸ ps_fldaug ha hv hop
theorem eBm (h : X.K = K) {T id : String} {name : Str} {o e : Expr} {es : List Expr} {to : TE} {t : TA} {r : V → List V → Hp → VK → Prop} {apos cpos : Pos} (pa : PlainAttrs T) (slot : Slot T name id) (hty : typeOf (.builtin id) = pure (.type "method_descriptor")) (hm : MtR X id r) (ho : PE X o to) (ha : PA X (e :: es) t)
    (hbase : attributeBase o name X.env (eval o X.env) = eval o X.env := by rfl)
    (hfew : ((backTo cpos (starEach (e :: es) X.env)).all (fun x => !x.1) && (backToKw cpos (keywordEach [] X.env)).all (fun x => x.1.isSome) && decide ((e :: es).length + ([] : List Keyword).length + (if ([] : List Keyword).isEmpty then 0 else 1) < 30)) = true := by rfl)
    (hline : (apos.endLine == cpos.line) = true := by rfl) (hs : starEach (e :: es) X.env = (false, eval e X.env) :: starEach es X.env := by rfl) (hplain : (backTo cpos (starEach es X.env)).any (·.1) = false := by rfl) :
    PE X (.Call (.Attribute o name apos) (e :: es) [] cpos) (tBM K T r to t) := h ▸ pe_bm pa slot hty hm ho ha hbase hfew hline hs hplain
theorem eBm0 (h : X.K = K) {T id : String} {name : Str} {o : Expr} {to : TE} {r : V → List V → Hp → VK → Prop} {apos cpos : Pos} (pa : PlainAttrs T) (slot : Slot T name id) (hty : typeOf (.builtin id) = pure (.type "method_descriptor")) (hm : MtR X id r) (ho : PE X o to)
    (hbase : attributeBase o name X.env (eval o X.env) = eval o X.env := by rfl) (hline : (apos.endLine == cpos.line) = true := by rfl) : PE X (.Call (.Attribute o name apos) [] [] cpos) (tBM0 K T r to) := h ▸ pe_bm0 pa slot hty hm ho hbase hline
end

/-! ### readings that leave the heap as it is -/
def ValA (ta : TA) (σ : L2.St) (H : Hp) (vs : List V) : Prop := ∀ Q : List V → Hp → Prop, Q vs H → ta σ H Q
section
variable {K : PySem.W.Frag} {σ : L2.St} {H : Hp} {ta tb te : TE} {x y v : V} {p : Addr} {xs : List V}
theorem va_nil : ValA tNil σ H [] := fun _ q => q
theorem va_cons {tr : TA} {vs : List V} (h : Val ta σ H x) (hr : ValA tr σ H vs) : ValA (tCons ta tr) σ H (x :: vs) := fun _ q => h _ (hr _ q)
theorem va_one (h : Val ta σ H x) : ValA (tCons ta tNil) σ H [x] := va_cons h va_nil
theorem va_two (h : Val ta σ H x) (h' : Val tb σ H y) : ValA (tCons ta (tCons tb tNil)) σ H [x, y] := va_cons h (va_one h')
theorem val_cb {r : List V → Hp → VK → Prop} {tl : TA} {vs : List V} (h : ValA tl σ H vs) (hr : ∀ Q : VK, Q v H → r vs H Q) : Val (tCB r tl) σ H v := fun Q q => h _ (hr Q q)
theorem val_isi {t n : String} {b : Bool} (h : Val ta σ H x) (ty : TyX K H x (.type t)) (e : kitB t n = some b) : Val (tCB (rIsi K) (tCons ta (tCons (tC (.ty n)) tNil))) σ H (.bl b) :=
  val_cb (va_two h val_c) fun _ q => ⟨x, .ty n, .type t, .type n, b, rfl, .ty n, ty, kit_ty e, q⟩
theorem val_lenL (h : Val ta σ H (.ref p)) (hs : SqL K H p xs) : Val (tCB (rLn K) (tCons ta tNil)) σ H (.int (xs.length : Int)) :=
  val_cb (va_one h) fun _ q => ⟨p, xs, rfl, .inl hs, q⟩
theorem val_lenT (h : Val ta σ H (.ref p)) (hs : SqT K H p xs) : Val (tCB (rLn K) (tCons ta tNil)) σ H (.int (xs.length : Int)) :=
  val_cb (va_one h) fun _ q => ⟨p, xs, rfl, .inr hs, q⟩
theorem val_ixL {i : Int} (h : Val ta σ H (.ref p)) (hi : Val tb σ H (.int i)) (hs : SqL K H p xs) (e : atI xs i = some v) : Val (tOp (rIxL K) ta tb) σ H v := val_op h hi fun _ q => ⟨p, xs, i, v, rfl, rfl, hs, e, q⟩
theorem val_ixT {i : Int} (h : Val ta σ H (.ref p)) (hi : Val tb σ H (.int i)) (hs : SqT K H p xs) (e : atI xs i = some v) : Val (tOp (rIxT K) ta tb) σ H v := val_op h hi fun _ q => ⟨p, xs, i, v, rfl, rfl, hs, e, q⟩
theorem val_ixSL {i : Int} (h : Val ta σ H (.ref p)) (hi : Val tb σ H (.int i)) (hs : SqL K H p xs) (e : atI xs i = some v) : Val (tOp (rIx K) ta tb) σ H v := val_op h hi fun _ q => .inl ⟨p, xs, i, v, rfl, rfl, hs, e, q⟩
theorem val_ixST {i : Int} (h : Val ta σ H (.ref p)) (hi : Val tb σ H (.int i)) (hs : SqT K H p xs) (e : atI xs i = some v) : Val (tOp (rIx K) ta tb) σ H v := val_op h hi fun _ q => .inr (.inl ⟨p, xs, i, v, rfl, rfl, hs, e, q⟩)
theorem val_I {g : Int → Int → V} {i j : Int} (h : Val ta σ H (.int i)) (h' : Val tb σ H (.int j)) : Val (tOp (rI0 g) ta tb) σ H (g i j) := val_op h h' fun _ q => ⟨i, j, rfl, rfl, q⟩
theorem val_IC {C : Int → Int → Prop} {g : Int → Int → V} {i j : Int} (h : Val ta σ H (.int i)) (h' : Val tb σ H (.int j)) (c : C i j) : Val (tOp (rI C g) ta tb) σ H (g i j) := val_op h h' fun _ q => ⟨i, j, rfl, rfl, c, q⟩
theorem val_eq (h : Val ta σ H x) (h' : Val tb σ H y) (s : scal x y = true) : Val (tOp rEq ta tb) σ H (.bl (decide (x = y))) := val_op h h' fun _ q => ⟨s, q⟩
theorem val_ne (h : Val ta σ H x) (h' : Val tb σ H y) (s : scal x y = true) : Val (tOp rNe ta tb) σ H (.bl (!decide (x = y))) := val_op h h' fun _ q => ⟨s, q⟩
theorem val_is {w : V} (h : Val ta σ H v) (e : v = w) : Val ta σ H w := e ▸ h
theorem val_and {a b : Bool} (h : Val ta σ H (.bl a)) (h' : a = true → Val tb σ H (.bl b)) : Val (tAndV ta tb) σ H (.bl (a && b)) := fun Q q => h _ ⟨a, rfl, by
  cases a with
  | true => exact iteT (h' rfl Q q)
  | false => exact iteF q⟩
theorem val_or {a b : Bool} (h : Val ta σ H (.bl a)) (h' : a = false → Val tb σ H (.bl b)) : Val (tOrV ta tb) σ H (.bl (a || b)) := fun Q q => h _ ⟨a, rfl, by
  cases a with
  | true => exact iteT q
  | false => exact iteF (h' rfl Q q)⟩
theorem val_not {a : Bool} (h : Val ta σ H (.bl a)) : Val (tNotV ta) σ H (.bl (!a)) := fun Q q => h _ ⟨a, rfl, q⟩
theorem val_if {t : TT} {b : Bool} (h : Ans t σ H b) (h1 : b = true → Val ta σ H v) (h2 : b = false → Val tb σ H v) : Val (tIf t ta tb) σ H v := fun Q q => h _ (by
  cases b with
  | true => exact iteT (h1 rfl Q q)
  | false => exact iteF (h2 rfl Q q))
theorem val_isN (h : Val ta σ H x) : Val (tOp rIsN ta (tC .non)) σ H (.bl (decide (x = .non))) := val_op h val_c fun _ q => ⟨rfl, q⟩
theorem ans_is {t : TT} {a b : Bool} (h : Ans t σ H a) (e : a = b) : Ans t σ H b := e ▸ h
theorem ans_v {b : Bool} (h : Val te σ H (.bl b)) : Ans (tTest te) σ H b := fun _ q => h _ ⟨b, rfl, q⟩
theorem ans_or2 {t u : TT} {a b : Bool} (h : Ans t σ H a) (h' : a = false → Ans u σ H b) : Ans (tOr t u) σ H (a || b) := by
  cases a with
  | true => exact ans_or1 h
  | false => exact ans_or h (h' rfl)
theorem ans_and3 {t u : TT} {a b : Bool} (h : Ans t σ H a) (h' : a = true → Ans u σ H b) : Ans (tAnd t u) σ H (a && b) := by
  cases a with
  | true => exact ans_and h (h' rfl)
  | false => exact ans_and0 h
/-- a call whose promise leaves the heap -/
theorem val_call {sp : Sp} {dvs vs : List V} {E : XK} {tl : TA} (h : ValA tl σ H vs) (hs : ∀ Q : VK, Q v H → sp (vs ++ dvs) H Q E) : Val (tCall sp dvs E tl) σ H v := fun Q q => h _ (hs Q q)
theorem val_ev (h : Val te σ H v) : ∀ Q : VK, Q v H → te σ H Q := h
/-- x in a written pair of ints -/
theorem val_chain {tc : TE} {g g' : Int → Int → Bool} {a b c : Int} (h1 : Val ta σ H (.int a)) (h2 : Val tb σ H (.int b)) (h3 : Val tc σ H (.int c)) : Val (tChain (rI0 fun i j => .bl (g i j)) (rI0 fun i j => .bl (g' i j)) ta tb tc) σ H (.bl (g a b && g' b c)) := fun Q q => by
  refine h1 _ (h2 _ ⟨a, b, rfl, rfl, g a b, rfl, ?_⟩)
  cases e : g a b with
  | true => exact iteT (h3 _ ⟨b, c, rfl, rfl, by rw [e] at q; exact q⟩)
  | false => exact iteF (by rw [e] at q; exact q)
theorem go_asg {D : Ends} {g : TG} (h : te σ H fun x H1 => g x σ H1 D.nx) : tAsg te g D σ H := h
theorem go_ret {D : Ends} (h : te σ H D.rt) : tRet te D σ H := h
theorem go_drop {D : Ends} (h : te σ H fun _ H1 => D.nx σ H1) : tDrop te D σ H := h
/-- raise C(e), C of one field -/
theorem st_raise1 {W : WX} {C : Addr} {f : Str} {y : V} (T : OexC K C) (hno : PySem.W.findIn K (.ref C) f = some none) (h : Val te σ H y) (q : ∀ d, H d = none → W (.ref C) (some d) σ (upd H d (.xd [(f, y)]))) :
    tMkO C (spX1 K C f) [] (tCons te tNil) σ H (fun cls d H' => W cls d σ H') := h _ (made1 (Q := fun cls d H' => W cls d σ H') T hno q)
theorem st_raise2 {W : WX} {C : Addr} {f g : Str} {y z : V} (T : OexC K C) (hf : PySem.W.findIn K (.ref C) f = some none) (hg : PySem.W.findIn K (.ref C) g = some none) (h : Val ta σ H y) (h' : Val tb σ H z) (q : ∀ d, H d = none → W (.ref C) (some d) σ (upd H d (.xd [(g, z), (f, y)]))) :
    tMkO C (spX2 K C f g) [] (tCons ta (tCons tb tNil)) σ H (fun cls d H' => W cls d σ H') := h _ (h' _ (made2 (Q := fun cls d H' => W cls d σ H') T hf hg q))
theorem val_un {r : V → Hp → VK → Prop} {z : V} (h : Val ta σ H x) (hr : ∀ Q : VK, Q z H → r x H Q) : Val (tUn r ta) σ H z := fun Q q => h _ (hr Q q)
theorem val_neg {i : Int} (h : Val ta σ H (.int i)) : Val (tUn (rU fun i => .int (-i)) ta) σ H (.int (-i)) := val_un h fun _ q => ⟨i, rfl, q⟩
theorem st_app {D : Ends} {l : Addr} (hl : H l = some (.lst xs)) (ha : Val ta σ H (.ref l)) (h : Val te σ H v) (hz : xs.length < sizeLine) (k : D.nx σ (upd H l (.lst (xs ++ [v])))) : tDrop (tBM K "list" rAppend ta (tCons te tNil)) D σ H :=
  ha _ ⟨Or.inl ⟨rfl, xs, Evl.sq_of hl⟩, h _ ⟨l, xs, v, rfl, rfl, hl, hz, k⟩⟩
theorem st_if {c : TT} {t u : TS} {D : Ends} {b : Bool} (h : Ans c σ H b) (h1 : b = true → t D σ H) (h2 : b = false → u D σ H) : tIfS c t u D σ H := by
  cases b with
  | true => exact st_yes h (h1 rfl)
  | false => exact st_no h (h2 rfl)
theorem st_forR {D : Ends} {tl : TA} {t : TS} {j n : Nat} (h : ValA tl σ H [.int (n : Int)]) (hn : n < 2 ^ 62) (Pv : Nat → L2.St → Hp → Prop) (h0 : Pv 0 σ H)
    (hs : ∀ i σ' H', i < n → Pv i σ' H' → t { D with nx := Pv (i + 1), ct := Pv (i + 1), bk := D.nx } (σ'.set j (some (.int (i : Int)))) H') (hd : ∀ σ' H', Pv n σ' H' → D.nx σ' H') : tFor (iRng1 tl) (gName j) t D σ H :=
  h _ ⟨(n : Int), rfl, by omega, by omega, for_range (lo := 0) (n := n) Pv h0 (fun i σ' H' hi p => by
    show t _ (σ'.set j (some (.int (0 + (i : Int))))) H'
    rw [Int.zero_add]
    exact hs i σ' H' hi p) hd⟩
theorem st_forL {D : Ends} {tl : TE} {t : TS} {j : Nat} (h : Val tl σ H (.ref p)) (hx : SqL K H p xs) (Pv : Nat → L2.St → Hp → Prop) (h0 : Pv 0 σ H) (hl : ∀ i σ' H', i ≤ xs.length → Pv i σ' H' → SqL K H' p xs)
    (hs : ∀ i x σ' H', xs[i]? = some x → Pv i σ' H' → t { D with nx := Pv (i + 1), ct := Pv (i + 1), bk := D.nx } (σ'.set j (some x)) H') (hd : ∀ σ' H', Pv xs.length σ' H' → D.nx σ' H') : tFor (iList K tl) (gName j) t D σ H :=
  h _ ⟨p, rfl, ⟨xs, hx⟩, for_list Pv h0 hl hs hd⟩
end

/-! ### readings that may make new things -/
section
open Evl
variable {K : PySem.W.Frag} {σ : L2.St} {H : Hp} {ta tb te : TE} {x y v : V} {p : Addr} {xs ys : List V}
theorem ev_val (h : ∀ H1, Ex H H1 → Val te σ H1 v) : Ev te σ H v := fun H1 e Q q => h H1 e Q (q H1 (Ex.refl _))
theorem et_ans {t : TT} {b : Bool} (h : ∀ H1, Ex H H1 → Ans t σ H1 b) : EvT t σ H b := fun H1 e Q q => h H1 e Q (q H1 (Ex.refl _))
theorem ev_meth {C a : Addr} {m : Str} {sp : Sp} {dvs vs : List V} {E : XK} {tl : TA} {dx : Addr} {fs : List (Str × V)} (h : Ev ta σ H (.ref a)) (ho : H a = some (.ins C dx fs)) (hn : fs.lookup m = none) (hv : EvA tl σ H vs)
    (hs : SpV sp (.ref a :: (vs ++ dvs)) H v) : Ev (tMeth C m sp dvs E ta tl) σ H v := fun H1 e Q q => h H1 e _ fun H2 e2 => ⟨a, dx, fs, rfl, e2 _ _ (e _ _ ho), hn, hv H2 (e.trans e2) _ fun H3 e3 => hs H3 ((e.trans e2).trans e3) Q (fun H4 e4 => q H4 ((e2.trans e3).trans e4)) E⟩
theorem el_meth {C a : Addr} {m : Str} {sp : Sp} {dvs vs : List V} {E : XK} {tl : TA} {dx : Addr} {fs : List (Str × V)} (h : Ev ta σ H (.ref a)) (ho : H a = some (.ins C dx fs)) (hn : fs.lookup m = none) (hv : EvA tl σ H vs)
    (hs : SpL sp (.ref a :: (vs ++ dvs)) H xs) : EvL (tMeth C m sp dvs E ta tl) σ H xs := fun H1 e Q q => h H1 e _ fun H2 e2 => ⟨a, dx, fs, rfl, e2 _ _ (e _ _ ho), hn, hv H2 (e.trans e2) _ fun H3 e3 => hs H3 ((e.trans e2).trans e3) Q (fun p H4 hp e4 h4 => q p H4 (fresh_back (e2.trans e3) hp) ((e2.trans e3).trans e4) h4) E⟩
/-- a call one of whose arguments is a new list: the value by what the list holds -/
theorem ev_callL {sp : Sp} {dvs : List V} {E : XK} {tr : TA} {vs : List V} (h : EvL te σ H xs) (hr : EvA tr σ H vs) (hs : ∀ p H1, H1 p = some (.lst xs) → Ex H H1 → SpV sp (.ref p :: (vs ++ dvs)) H1 v) : Ev (tCall sp dvs E (tCons te tr)) σ H v := fun H1 e Q q =>
  h H1 e _ fun p H2 _ e2 h2 => hr H2 (e.trans e2) _ fun H3 e3 => hs p H3 (e3 _ _ h2) ((e.trans e2).trans e3) H3 (Ex.refl _) Q (fun H4 e4 => q H4 ((e2.trans e3).trans e4)) E
/-- a built-in of a new list -/
theorem ev_cbL {r : List V → Hp → VK → Prop} (h : EvL te σ H xs) (hs : ∀ p H1, H1 p = some (.lst xs) → Ex H H1 → RC r [.ref p] H1 v) : Ev (tCB r (tCons te tNil)) σ H v := fun H1 e Q q =>
  h H1 e _ fun p H2 _ e2 h2 => hs p H2 h2 (e.trans e2) H2 (Ex.refl _) Q (fun H3 e3 => q H3 (e2.trans e3))
theorem rc_of {r : List V → Hp → VK → Prop} {vs : List V} (h : ∀ H1, Ex H H1 → ∀ Q : VK, Q v H1 → r vs H1 Q) : RC r vs H v := fun H1 e Q q => h H1 e Q (q H1 (Ex.refl _))
theorem ev_sum {ns : List Int} (h : EvL te σ H (ns.map V.int)) : Ev (tCB (rSum K) (tCons te tNil)) σ H (.int ns.sum) := ev_cbL h fun p H1 h1 _ => rc_of fun H2 e _ q => ⟨p, ns, rfl, ex_l e (sq_of h1), q⟩
theorem ev_sumV {ns : List Int} (h : Ev te σ H (.ref p)) (hs : SqL K H p (ns.map V.int)) : Ev (tCB (rSum K) (tCons te tNil)) σ H (.int ns.sum) := fun H1 e Q q =>
  h H1 e _ fun H2 e2 => ⟨p, ns, rfl, ex_l (e.trans e2) hs, q H2 e2⟩
theorem ev_lenV (h : Ev te σ H (.ref p)) (hs : SqL K H p xs) : Ev (tCB (rLn K) (tCons te tNil)) σ H (.int (xs.length : Int)) := fun H1 e Q q =>
  h H1 e _ fun H2 e2 => ⟨p, xs, rfl, .inl (ex_l (e.trans e2) hs), q H2 e2⟩
theorem ev_fld {C dx a : Addr} {fs : List (Str × V)} {f : Str} (h : Ev ta σ H (.ref a)) (ho : H a = some (.ins C dx fs)) (hc : Cls K C) (hn : NoAttr K C f) (hl : fs.lookup f = some v) : Ev (tFld K ta f) σ H v := fun H1 e Q q =>
  h H1 e _ fun H2 e2 => ⟨a, C, dx, fs, v, rfl, e2 _ _ (e _ _ ho), hc, hn, hl, q H2 e2⟩
/-- xs + ys, both new -/
theorem el_cat (h : EvL ta σ H xs) (h' : EvL tb σ H ys) (hz : xs.length + ys.length ≤ 100000) : EvL (tOp rCat ta tb) σ H (xs ++ ys) := fun H1 e Q q =>
  h H1 e _ fun p H2 _ e2 h2 => h' H2 (e.trans e2) _ fun r H3 _ e3 h3 => ⟨p, r, xs, ys, rfl, rfl, e3 _ _ h2, h3, sz_of hz, fun u hu => q u _ (fresh_back (e2.trans e3) hu) ((e2.trans e3).trans (Ex.new hu)) upd_same⟩
theorem el_lst0 : EvL (tLst tNil) σ H [] := el_lst ea_nil (by decide)
/-- an item of a new list -/
theorem ev_ixN {i : Int} (h : EvL ta σ H xs) (hi : ∀ H1, Ex H H1 → Ev tb σ H1 (.int i)) (e : atI xs i = some v) : Ev (tOp (rIxL K) ta tb) σ H v := ev_opL1 h hi fun p H1 h1 _ => rv_ixL (sq_of h1) e
end

/-! ### slices -/
theorem cut_to {xs : List V} {j : Nat} (h : j ≤ xs.length) : cutV xs none (some (j : Int)) = xs.take j := by
  show (xs.drop (HT.sIx xs.length 0 none)).take (HT.sIx xs.length xs.length (some (j : Int)) - HT.sIx xs.length 0 none) = _
  rw [HT.sIx_none, HT.sIx_nat, Nat.min_eq_left h]
  rfl
theorem cut_from {xs : List V} {j : Nat} (h : j ≤ xs.length) : cutV xs (some (j : Int)) none = xs.drop j := by
  show (xs.drop (HT.sIx xs.length 0 (some (j : Int)))).take (HT.sIx xs.length xs.length none - HT.sIx xs.length 0 (some (j : Int))) = _
  rw [HT.sIx_none, HT.sIx_nat, Nat.min_eq_left h]
  exact List.take_of_length_le (by rw [List.length_drop]; omega)
theorem cut_in {xs : List V} {i j : Nat} (hi : i ≤ xs.length) (h : j ≤ xs.length) : cutV xs (some (i : Int)) (some (j : Int)) = (xs.drop i).take (j - i) := by
  show (xs.drop (HT.sIx xs.length 0 (some (i : Int)))).take (HT.sIx xs.length xs.length (some (j : Int)) - HT.sIx xs.length 0 (some (i : Int))) = _
  rw [HT.sIx_nat, HT.sIx_nat, Nat.min_eq_left h, Nat.min_eq_left hi]
/-! ### a op1 b op2 c op3 d -/
section
open PyProof PyProof.Rows
variable {X : Cx} {a b c d : Expr} {pos : Pos} {ta tb tc td : TE}
def tChain3 (r r' r2 : R2) (ta tb tc td : TE) : TE := fun σ H Q => ta σ H fun x H1 => tb σ H1 fun y H2 => r x y H2 fun z H3 => ∃ k, z = .bl k ∧
  (if k = true then tc σ H3 fun w' H4 => r' y w' H4 fun z2 H5 => ∃ k2, z2 = .bl k2 ∧ (if k2 = true then td σ H5 fun u H6 => r2 w' u H6 Q else Q (.bl false) H5) else Q (.bl false) H3)
theorem pt_chain3 {op op' op2 : CmpOp} {r r' r2 : R2} (ho : OpR X (compareOp op) r) (ho' : OpR X (compareOp op') r') (ho2 : OpR X (compareOp op2) r2) (ha : PE X a ta) (hb : PE X b tb) (hc : PE X c tc) (hd : PE X d td)
    (hm : lastMarks [op, op', op2] [b, c, d] = false := by with_unfolding_all rfl) : PT X (.Compare a [op, op', op2] [b, c, d] pos) (tTest (tChain3 r r' r2 ta tb tc td)) := by
  refine ⟨fun pins s σ H Q I h => ?_⟩
  refine isTrue_chain (thn (ha.run pins s σ H _ I h) fun v s1 ⟨x, H1, I1, r1, q1⟩ => test_link (thn (hb.run pins s1 σ H1 _ I1 q1) fun u s2 ⟨y, H2, I2, r2, q2⟩ =>
    thn (ho pins s2 σ H2 x y v u _ I2 r1 r2 q2) fun d s3 ⟨z, H3, I3, r3, k, e, q3⟩ => ?_)) hm
  subst e
  cases r3
  refine wpAny_truthy_bool ?_
  cases k with
  | false =>
    obtain ⟨k', e', q'⟩ := q3
    cases e'
    exact ite_ff ⟨H3, I3, q'⟩
  | true =>
    refine ite_tt (test_link (thn (hc.run pins s3 σ H3 _ I3 q3) fun w' s4 ⟨z', H4, I4, r4, q4⟩ => thn (ho' pins s4 σ H4 y z' u w' _ I4 r2 r4 q4) fun d' s5 ⟨z2, H5, I5, r5, k2, e2, q5⟩ => ?_))
    subst e2
    cases r5
    refine wpAny_truthy_bool ?_
    cases k2 with
    | false =>
      obtain ⟨k', e', q'⟩ := q5
      cases e'
      exact ite_ff ⟨H5, I5, q'⟩
    | true =>
      refine ite_tt (test_last (thn (hd.run pins s5 σ H5 _ I5 q5) fun w2 s6 ⟨z3, H6, I6, r6, q6⟩ => thn (ho2 pins s6 σ H6 z' z3 w' w2 _ I6 r4 r6 q6) fun d2 s7 ⟨z4, H7, I7, r7, k3, e3, q7⟩ => ?_))
      subst e3
      cases r7
      exact wpAny_truthy_bool ⟨H7, I7, q7⟩
theorem val_chain3 {σ : L2.St} {H : Hp} {g g' g2 : Int → Int → Bool} {a b c d : Int} (h1 : Val ta σ H (.int a)) (h2 : Val tb σ H (.int b)) (h3 : Val tc σ H (.int c)) (h4 : Val td σ H (.int d)) :
    Val (tChain3 (rI0 fun i j => .bl (g i j)) (rI0 fun i j => .bl (g' i j)) (rI0 fun i j => .bl (g2 i j)) ta tb tc td) σ H (.bl (g a b && (g' b c && g2 c d))) := fun Q q => by
  refine h1 _ (h2 _ ⟨a, b, rfl, rfl, g a b, rfl, ?_⟩)
  cases e : g a b with
  | true =>
    refine iteT (h3 _ ⟨b, c, rfl, rfl, g' b c, rfl, ?_⟩)
    cases e2 : g' b c with
    | true => exact iteT (h4 _ ⟨c, d, rfl, rfl, by rw [e, e2] at q; exact q⟩)
    | false => exact iteF (by rw [e, e2] at q; exact q)
  | false => exact iteF (by rw [e] at q; exact q)
end

/-! ### a dict of ints under ints -/
def tk (ks : List Int) (c : Int → Int) : List (Key × V) := ks.map fun s => ((Sum.inl s : Key), V.int (c s))
theorem tk_keys (ks : List Int) (c : Int → Int) : (tk ks c).map (·.1) = ks.map Sum.inl := by
  unfold tk
  rw [List.map_map] <;> rfl
theorem tk_len (ks : List Int) (c : Int → Int) : (tk ks c).length = ks.length := by unfold tk; rw [List.length_map]
theorem tk_val (ks : List Int) (c : Int → Int) (u : Int) : valV (tk ks c) (.inl u) = if u ∈ ks then some (.int (c u)) else none := by
  induction ks with
  | nil => rfl
  | cons s r ih =>
    unfold tk valV at ih ⊢
    rw [List.map_cons, List.find?_cons]
    by_cases h : s = u
    · subst h
      rw [decide_eq_true rfl, if_pos (List.mem_cons_self ..)]
      rfl
    · rw [decide_eq_false (fun q => h (Sum.inl.inj q))]
      show Option.map _ (List.find? _ (List.map _ r)) = _
      rw [ih]
      by_cases h2 : u ∈ r
      · rw [if_pos h2, if_pos (List.mem_cons_of_mem _ h2)]
      · rw [if_neg h2, if_neg (fun q => by
          rcases List.mem_cons.mp q with q | q
          · exact h q.symm
          · exact h2 q)]
theorem tk_congr {ks : List Int} {c c' : Int → Int} (h : ∀ s ∈ ks, c s = c' s) : tk ks c = tk ks c' := List.map_congr_left fun s hs => by rw [h s hs]
theorem tk_put {ks : List Int} {c c' : Int → Int} {u y : Int} (hy : c' u = y) (h : ∀ s, s ≠ u → c s = c' s) : putK (tk ks c) (.inl u) (.int y) = tk (if u ∈ ks then ks else ks ++ [u]) c' := by
  by_cases hu : u ∈ ks
  · rw [if_pos hu]
    unfold putK
    rw [valV_any, tk_val, if_pos hu, if_pos (show (some (V.int (c u))).isSome = true from rfl)]
    unfold tk
    rw [List.map_map]
    refine List.map_congr_left fun s _ => ?_
    show (if (Sum.inl s : Key) = Sum.inl u then ((Sum.inl s : Key), V.int y) else (Sum.inl s, V.int (c s))) = _
    by_cases e : s = u
    · subst e
      rw [if_pos rfl, hy]
    · rw [if_neg (fun q => e (Sum.inl.inj q)), h s e]
  · rw [if_neg hu, putK_new _ (by rw [tk_val, if_neg hu])]
    unfold tk
    rw [List.map_append, List.map_cons, List.map_nil, hy]
    congr 1
    refine List.map_congr_left fun s hs => ?_
    rw [h s (fun e => hu (e ▸ hs))]

/-! ### rows of different ints -/
theorem nodup_le : ∀ {l m : List Int}, l.Nodup → (∀ x ∈ l, x ∈ m) → l.length ≤ m.length
  | [], _, _, _ => Nat.zero_le _
  | x :: r, m, h, hs => by
    have hx := hs x (List.mem_cons_self ..)
    have h1 := List.nodup_cons.mp h
    have := nodup_le (l := r) (m := m.erase x) h1.2 fun y hy => (List.mem_erase_of_ne (fun e : y = x => h1.1 (by rw [← e]; exact hy))).mpr (hs y (List.mem_cons_of_mem _ hy))
    rw [List.length_erase_of_mem hx] at this
    have := List.length_pos_of_mem hx
    rw [List.length_cons]
    omega
theorem asc_eq : ∀ {l m : List Int}, l.Pairwise (· < ·) → m.Pairwise (· < ·) → (∀ x, x ∈ l ↔ x ∈ m) → l = m
  | [], [], _, _, _ => rfl
  | [], y :: m, _, _, h => absurd ((h y).mpr (List.mem_cons_self ..)) (by simp)
  | x :: l, [], _, _, h => absurd ((h x).mp (List.mem_cons_self ..)) (by simp)
  | x :: l, y :: m, hl, hm, h => by
    obtain ⟨hl1, hl2⟩ := List.pairwise_cons.mp hl
    obtain ⟨hm1, hm2⟩ := List.pairwise_cons.mp hm
    have e : x = y := by
      rcases List.mem_cons.mp ((h x).mp (List.mem_cons_self ..)) with e | e
      · exact e
      · rcases List.mem_cons.mp ((h y).mpr (List.mem_cons_self ..)) with e' | e'
        · exact e'.symm
        · have := hm1 x e
          have := hl1 y e'
          omega
    subst e
    rw [asc_eq hl2 hm2 fun z => ⟨fun hz => ?_, fun hz => ?_⟩]
    · rcases List.mem_cons.mp ((h z).mp (List.mem_cons_of_mem _ hz)) with e | e
      · have := hl1 z hz
        omega
      · exact e
    · rcases List.mem_cons.mp ((h z).mpr (List.mem_cons_of_mem _ hz)) with e | e
      · have := hm1 z hz
        omega
      · exact e
theorem asc_of {l : List Int} (h : l.Pairwise (· ≤ ·)) (n : l.Nodup) : l.Pairwise (· < ·) := by
  induction l with
  | nil => exact .nil
  | cons x r ih =>
    obtain ⟨h1, h2⟩ := List.pairwise_cons.mp h
    obtain ⟨n1, n2⟩ := List.nodup_cons.mp n
    refine List.pairwise_cons.mpr ⟨fun y hy => ?_, ih h2 n2⟩
    have := h1 y hy
    have : x ≠ y := fun e => n1 (e ▸ hy)
    omega
theorem asc_nodup {l : List Int} (h : l.Pairwise (· < ·)) : l.Nodup := h.imp fun {a b} q e => by omega
/-- how often the items of ks stand in l, all in all -/
theorem counts_sum : ∀ (l ks : List Int), ks.Nodup → (∀ x ∈ l, x ∈ ks) → (ks.map fun s => ((l.count s : Nat) : Int)).sum = (l.length : Int)
  | [], ks, _, _ => by
    have : (ks.map fun s => (((([] : List Int).count s : Nat)) : Int)) = ks.map fun _ => (0 : Int) := List.map_congr_left fun s _ => by rw [List.count_nil]; rfl
    rw [this]
    clear this
    induction ks with
    | nil => rfl
    | cons s r ih => rw [List.map_cons, List.sum_cons]; simp_all
  | x :: l, ks, hn, h => by
    have ih := counts_sum l ks hn fun y hy => h y (List.mem_cons_of_mem _ hy)
    have hx := h x (List.mem_cons_self ..)
    have key : ∀ ks : List Int, ks.Nodup → (ks.map fun s => (((x :: l).count s : Nat) : Int)).sum = (ks.map fun s => ((l.count s : Nat) : Int)).sum + if x ∈ ks then 1 else 0 := by
      intro ks
      induction ks with
      | nil => intro _; rfl
      | cons s r ih =>
        intro hn
        obtain ⟨n1, n2⟩ := List.nodup_cons.mp hn
        rw [List.map_cons, List.sum_cons, List.map_cons, List.sum_cons, ih n2, List.count_cons]
        by_cases e : x = s
        · subst e
          rw [if_neg n1, if_pos (List.mem_cons_self ..), if_pos (by simp)]
          omega
        · have e1 : (x == s) = false := by simpa using e
          rw [e1]
          by_cases e2 : x ∈ r
          · rw [if_pos e2, if_pos (List.mem_cons_of_mem _ e2)]
            simp
            omega
          · have e3 : ¬ x ∈ s :: r := fun q => by
              rcases List.mem_cons.mp q with q | q
              · exact e q
              · exact e2 q
            rw [if_neg e2, if_neg e3, if_neg (by decide)]
            omega
    rw [key ks hn, ih, if_pos hx, List.length_cons]
    omega
/-! ### range(0, m, 2), range(0, m, 3) -/
theorem rgC_up {m c : Int} (hc : c = 2 ∨ c = 3) (hm : 0 ≤ m) (hm2 : m ≤ 40000) : ∃ n, RgC 0 m c n ∧ ∀ i : Nat, i < n → (i : Int) * c < m := by
  refine ⟨(Builtin.Range.rangeSize 0 m c).toNat, ⟨by omega, by omega, ?_, ?_⟩, fun i hi => ?_⟩
  · unfold Builtin.Range.small Builtin.Range.rangeSize
    simp only [Builtin.Range.rangeFitsLong, Bool.and_eq_true, Bool.or_eq_true, decide_eq_true_eq, beq_iff_eq]
    rcases hc with rfl | rfl <;> simp <;> split <;> omega
  · unfold Builtin.Range.rangeSize
    rcases hc with rfl | rfl <;> simp <;> split <;> omega
  · unfold Builtin.Range.rangeSize at hi
    rcases hc with rfl | rfl <;> simp at hi <;> split at hi <;> omega
theorem q_forR3 {ta : TA} {t : TS} {tz : TS} {D : Ends} {σ : L2.St} {H : Hp} {j : Nat} {m c : Int} (h : Evl.EvA ta σ H [.int 0, .int m, .int c]) (hc : c = 2 ∨ c = 3) (hm : 0 ≤ m ∧ m ≤ 40000) (Pv : Int → L2.St → Hp → Prop) (h0 : ∀ H1, Evl.Ex H H1 → Pv 0 σ H1)
    (hs : ∀ (i : Int) σ' H', 0 ≤ i → i < m → Pv i σ' H' → t { D with nx := Pv (i + c), ct := Pv (i + c), bk := tz D } (σ'.set j (some (.int i))) H') (hd : ∀ i σ' H', Pv i σ' H' → tz D σ' H') : tSeq (tFor (iRng3 ta) (gName j) t) tz D σ H :=
  h H (Evl.Ex.refl H) _ fun H1 e => by
    obtain ⟨n, hn, hb⟩ := rgC_up hc hm.1 hm.2
    refine ⟨0, m, c, n, rfl, hn, for_rangeC (D := { D with nx := tz D }) (fun i σ H => Pv ((i : Int) * c) σ H) (by have := h0 H1 e; rwa [show (((0 : Nat) : Int)) * c = 0 from by simp]) (fun i σ' H' hi p => ?_) (fun σ' H' p => hd _ σ' H' p)⟩
    have := hb i hi
    rw [Int.zero_add, show (((i + 1 : Nat)) : Int) * c = (i : Int) * c + c from by rw [Int.natCast_add, Int.add_mul]; simp]
    exact hs _ σ' H' (by rcases hc with rfl | rfl <;> omega) this p
/-- a suite asked only where the frame has its n slots -/
theorem ps_len {X : Cx} {st : List Stmt} {t : TS} {n : Nat} (hn : X.N.length = n) (h : PSs X st t) : PSs X st (fun D σ H => σ.length = n → t D σ H) := ⟨fun pins s σ H D I hw => h.run pins s σ H D I (hw (I.len.trans hn))⟩
/-! ### several except clauses, each with a name or without -/
abbrev Clause := Value × Option Nat × (Addr → Value → Option Addr → TS)
/-- behind a suite with a name the name's slot is empty -/
def emptied (D : Ends) : Option Nat → Ends
  | none => D
  | some i => { nx := fun τ G => D.nx (τ.set i none) G, rt := D.rt, bk := fun τ G => D.bk (τ.set i none) G, ct := fun τ G => D.ct (τ.set i none) G }
def named (τ : L2.St) (a : Addr) : Option Nat → L2.St
  | none => τ
  | some i => τ.set i (some (.ref a))
/-- what the clauses, one after the other, wish of what the body lets out -/
def wMix (K : PySem.W.Frag) (Wout : WX) (D : Ends) : List Clause → WX
  | [] => Wout
  | (c, o, ts) :: r => fun cls d τ G => ∃ b, PySem.W.exmOne K cls c = some b ∧ (b = true → ∀ a, G a = none → ts a cls d (emptied D o) (named τ a o) G) ∧ (b = false → wMix K Wout D r cls d τ G)
inductive Clauses (X : Cx) : List ExceptHandler → List Clause → Prop
  | nil : Clauses X [] []
  | bare {x : Str} {c : Value} {ts : Addr → Value → Option Addr → TS} {s0 : Stmt} {ss : List Stmt} {p1 p2 : Pos} {hds : List ExceptHandler} {l : List Clause} (hc : Names X x c)
      (hS : ∀ (a : Addr) (oe : Obj) (cls : Value) (d : Option Addr) (pn : List (Addr × Obj)), Zc cls d oe → (∃ vs, oe.data = .fields vs) → PSs (X.suite a ((a, oe) :: pn)) (s0 :: ss) (ts a cls d)) (r : Clauses X hds l) :
      Clauses X (.ExceptHandler (some (.Name x p1)) none (s0 :: ss) p2 :: hds) ((c, none, ts) :: l)
  | as {x n : Str} {i : Nat} {c : Value} {ts : Addr → Value → Option Addr → TS} {s0 : Stmt} {ss : List Stmt} {p1 p2 : Pos} {hds : List ExceptHandler} {l : List Clause} (hi : X.N[i]? = some n) (hk : X.env.kindOf n = some .local) (hc : Names X x c)
      (hS : ∀ (a : Addr) (oe : Obj) (cls : Value) (d : Option Addr) (pn : List (Addr × Obj)), Zc cls d oe → (∃ vs, oe.data = .fields vs) → PSs (X.suite a ((a, oe) :: pn)) (s0 :: ss) (ts a cls d)) (r : Clauses X hds l) :
      Clauses X (.ExceptHandler (some (.Name x p1)) (some n) (s0 :: ss) p2 :: hds) ((c, some i, ts) :: l)
section
variable {X : Cx} {body : List Stmt} {h₀ : ExceptHandler} {hds : List ExceptHandler} {l : List Clause} {pos : Pos} {tb : WX → TS} {Wout : WX}
theorem ps_try_mix (hs : X.stack = X.env :: X.outer) (hf : X.env.frame = some X.env.locals) (hN : X.N.Nodup) (tk : Takes X Wout)
    (hb : ∀ (W : WX) (pn : List (Addr × Obj)) (xe : Value → Shared → Prop), Takes (X.tr pn xe) W → PassesOwn (model X.prog X.w) X.A X.env xe → PSs (X.tr pn xe) body (tb W))
    (hh : Clauses X (h₀ :: hds) l) : PS X (.Try body (h₀ :: hds) [] [] pos) (fun D τ G => tb (wMix X.K Wout D l) D τ G) := by
  constructor
  intro pins s τ G D I h
  have okX := I.ok
  let caught : Value → Shared → Prop := fun e t1 => wpAny (model X.prog X.w) X.A (noteFrame e X.env) (fun _ t2 => wpAny (model X.prog X.w) X.A (setFlight e none) (fun _ t3 => wpAny (model X.prog X.w) X.A (handleBy e X.env (h₀ :: hds)) (SP X pins D) X.xe t3) X.xe t2) X.xe t1
  have back : ∀ (f : Flow) (t : Shared), SP (X.tr (X.pn ++ pins) caught) [] D f t → SP X pins D f t := by
    intro f t q
    cases f with
    | ret u =>
      obtain ⟨v, τ1, G1, J, rv, qq⟩ := q
      exact ⟨v, τ1, G1, J.ofTry okX, rv, qq⟩
    | next =>
      obtain ⟨τ1, G1, J, qq⟩ := q
      exact ⟨τ1, G1, J.ofTry okX, qq⟩
    | brk =>
      obtain ⟨τ1, G1, J, qq⟩ := q
      exact ⟨τ1, G1, J.ofTry okX, qq⟩
    | cont =>
      obtain ⟨τ1, G1, J, qq⟩ := q
      exact ⟨τ1, G1, J.ofTry okX, qq⟩
  refine wpAny_Try_except (wpAny_mono ((hb (wMix X.K Wout D l) (X.pn ++ pins) caught ?tk PassesOwn.looking).run [] s τ G D (I.toTry _) h) ?out fun _ _ he => he)
  case out =>
    intro f t q
    have q' := back f t q
    cases f with
    | next => exact wpAny_execs_nil q'
    | ret u => exact q'
    | brk => exact q'
    | cont => exact q'
  case tk =>
    rintro _ t ⟨a, B, sI, pins1, τ1, G1, cls, d, rfl, J0, nb, up, sky, na, os, ag, wish⟩
    have J := J0.ofTry okX
    rw [show (X.tr (X.pn ++ pins) caught).stack = X.env :: X.outer from hs] at sky
    show wpAny (model X.prog X.w) X.A (noteFrame (.ref a) X.env) _ _ _
    refine Sky.land Zc.steady (okX.frames.trans (congrArg some hs)) hf sky fun h3 fly up3 => ?_
    have J3 : Inv X pins τ1 G1 { t with heap := h3 } := J.landed nb fly.1 (up.trans up3) os ag
    obtain ⟨oe, vs, hget, hz, hdat⟩ := fly.there
    have off : a ∉ frs (X.env :: X.outer) := by
      intro hm
      obtain ⟨_, o1, g1, hne⟩ := fly.2.2.1.mem hm
      rw [hget] at g1
      cases g1
      exact hne _ hdat
    have offL : a ≠ X.env.locals := fun z => off (List.mem_filterMap.mpr ⟨X.env, List.mem_cons_self, by rw [hf, z]⟩)
    have offF : a ∉ X.fs := by
      intro hm
      obtain ⟨e, he, q⟩ := List.mem_filterMap.mp hm
      exact off (List.mem_filterMap.mpr ⟨e, List.mem_cons_of_mem _ he, q⟩)
    have Sus := J3.suite hget hdat na offL offF
    have kindIs : PySem.W.Looks (model X.prog X.w) h3 (typeOf (.ref a)) cls := fun _ _ _ _ look q => wpAny_typeOf_ref (look _ _ hget) (by rw [hz.1]; exact q)
    have reads : ∀ {x : Str} {c : Value} {p : Pos} {Q : Value → Shared → Prop} {E : Value → Shared → Prop}, Names X x c → Q c { t with heap := h3 } → wpAny (model X.prog X.w) (X.A.mark (some (.ref a))) (eval (.Name x p) X.env) Q E { t with heap := h3 } := by
      intro x c p Q E nm q
      obtain ⟨hg, hdbg, own | ⟨free, hv, hnn⟩⟩ := nm
      · exact ld_glob (X := X.suite a ((a, oe) :: (X.pn ++ pins))) Sus hg own q hdbg
      · exact ld_blt (X := X.suite a ((a, oe) :: (X.pn ++ pins))) Sus hg free hv q hnn hdbg
    have walk : ∀ (hs' : List ExceptHandler) (l' : List Clause), Clauses X hs' l' → wMix X.K Wout D l' cls d τ1 G1 → wpAny (model X.prog X.w) X.A (handleBy (.ref a) X.env hs') (SP X pins D) X.xe { t with heap := h3 } := by
      intro hs' l' hk
      induction hk with
      | nil =>
        intro wish
        refine wpAny_handleBy_nil ?_
        obtain ⟨_, _, _, oe', vs', T, _, _, g1, _, g2, g3, _⟩ := id fly
        have flies : wpAny (model X.prog X.w) X.A (setFlight (.ref a) X.env.frame) (fun _ t4 => wpAny (model X.prog X.w) X.A (throw (.ref a) : Sem Flow) (SP X pins D) X.xe t4) X.xe { t with heap := h3 } := by
          rw [hf]
          refine HandSPX.setFlight_upZ fly fun h4 held up4 => wpAny_throw (tk _ _ ⟨a, B, sI, pins, τ1, G1, cls, d, rfl, J, nb, (up.trans up3).trans up4, .inr (.inr ?_), na, os, ag, wish⟩)
          rw [hs]
          exact held
        unfold PySem.passOn
        refine wpAny_bind (wpAny_field g1 g2 g3 ?_)
        rw [if_neg (show ¬ ((Value.ref T == Value.none) = true) by simp)]
        first
          | exact wpAny_bind flies
          | exact wpAny_bind (wpAny_pure (wpAny_bind flies))
      | bare nm hS _ ih =>
        rintro ⟨b, hb1, yes, no⟩
        refine wpAny_handleBy_cons (codeAny_handlers_test ?_) (by intro q; cases q)
        refine reads nm ((PySem.W.exm_one (M := model X.prog X.w) J3.kIn kindIs hb1).here ?_)
        cases b with
        | false => exact ih (no rfl)
        | true =>
          refine codeAny_handlers_suite (HandSPX.lands_againZ fly fun h4 fly4 up4 => ?_)
          obtain ⟨oe4, vs4, hget4, hz4, hdat4⟩ := fly4.there
          have S4 := (J.landed nb fly4.1 ((up.trans up3).trans up4) os ag : Inv X pins τ1 G1 { t with heap := h4 }).suite hget4 hdat4 na offL offF
          refine wpAny_mono ((hS a oe4 cls d (X.pn ++ pins) hz4 ⟨_, hdat4⟩).run [] _ _ G1 _ S4 (yes rfl a na)) (fun f t6 q => ?_) fun _ _ z => z.elim
          cases f with
          | ret u =>
            obtain ⟨v, τ6, G6, S6, rv, q6⟩ := q
            exact ⟨v, τ6, G6, S6.unsuite okX, rv, q6⟩
          | next =>
            obtain ⟨τ6, G6, S6, q6⟩ := q
            exact ⟨τ6, G6, S6.unsuite okX, q6⟩
          | brk =>
            obtain ⟨τ6, G6, S6, q6⟩ := q
            exact ⟨τ6, G6, S6.unsuite okX, q6⟩
          | cont =>
            obtain ⟨τ6, G6, S6, q6⟩ := q
            exact ⟨τ6, G6, S6.unsuite okX, q6⟩
      | @as x n i c ts s0 ss p1 p2 hds2 l2 hi hloc nm hS _ ih =>
        rintro ⟨b, hb1, yes, no⟩
        refine wpAny_handleBy_cons (codeAny_handlers_test ?_) (by intro q; cases q)
        refine reads nm ((PySem.W.exm_one (M := model X.prog X.w) J3.kIn kindIs hb1).here ?_)
        cases b with
        | false => exact ih (no rfl)
        | true =>
          refine codeAny_handlers_suite_as (HandSPX.lands_againZ fly fun h4 fly4 up4 => ?_)
          obtain ⟨oe4, vs4, hget4, hz4, hdat4⟩ := fly4.there
          have S4 := (J.landed nb fly4.1 ((up.trans up3).trans up4) os ag : Inv X pins τ1 G1 { t with heap := h4 }).suite hget4 hdat4 na offL offF
          refine store_ok (X := X.suite a ((a, oe4) :: (X.pn ++ pins))) (v := .ref a) S4 hN hi (.inl hloc) rfl (fun t5 S5 => ?_) (.inr hloc)
          refine wpAny_mono ((hS a oe4 cls d (X.pn ++ pins) hz4 ⟨_, hdat4⟩).run [] t5 _ G1 _ S5 (yes rfl a na)) (fun f t6 q => ?_) fun _ _ z => z.elim
          cases f with
          | ret u =>
            obtain ⟨v, τ6, G6, S6, rv, q6⟩ := q
            exact gone_ok (S6.unsuite okX) hN hi hloc fun t7 J7 => ⟨v, _, _, J7, rv, q6⟩
          | next =>
            obtain ⟨τ6, G6, S6, q6⟩ := q
            exact gone_ok (S6.unsuite okX) hN hi hloc fun t7 J7 => ⟨_, _, J7, q6⟩
          | brk =>
            obtain ⟨τ6, G6, S6, q6⟩ := q
            exact gone_ok (S6.unsuite okX) hN hi hloc fun t7 J7 => ⟨_, _, J7, q6⟩
          | cont =>
            obtain ⟨τ6, G6, S6, q6⟩ := q
            exact gone_ok (S6.unsuite okX) hN hi hloc fun t7 J7 => ⟨_, _, J7, q6⟩
    exact walk _ _ hh wish
end

/-! ### stars, dict comprehensions -/
theorem aStar {X : Cx} (K : PySem.W.Frag) (h : X.K = K) {e : Expr} {es : List Expr} {te : TE} {t : TA} {p : Pos} (he : PE X e te) (hr : PA X es t) (hs : starEach (.Starred e p :: es) X.env = (true, eval e X.env) :: starEach es X.env := by rfl) : PA X (.Starred e p :: es) (StX.tStar K te t) := h ▸ StX.pa_star he hr hs
/-- a dict comprehension over whatever is walked -/
theorem dc_it {J : It} {n : Nat} {G : Hp → Prop} {Y : Nat → Hp → V → Hp → Prop} (w : Walk J n G Y) {g : TG} {tt : TT} {tk tv : TE} {vs : List Nat} {σ : L2.St} {H1 : Hp} {D : Addr} {Qd : Hp → Prop} (Pv : Nat → Hp → Prop) (h0 : Pv 0 (upd H1 D (.dK []))) (hG : ∀ i H, i ≤ n → Pv i H → G H)
    (turn : ∀ i x H H', i < n → Pv i H → Y i H x H' → g x (wipe σ vs) H' fun τ G2 => wipe τ vs = wipe σ vs ∧ tt τ G2 fun b G3 =>
      if b = true then tk τ G3 fun y G4 => tv τ G4 fun z G5 => ∃ kvs k, y = kV k ∧ G5 D = some (.dK kvs) ∧ kvs.length < sizeLine ∧ Pv (i + 1) (upd G5 D (.dK (putK kvs k z))) else Pv (i + 1) G3) (done : ∀ H, Pv n H → Qd H) :
    ∃ W : Nat → Nat → Hp → Prop, (∃ m, W 0 m (upd H1 D (.dK []))) ∧ ∀ i m H, W i m H →
      (J.stop i H ∧ Qd H) ∨ (J.go i H ∧ ∃ Nx : Hp → Prop, (∀ H', Nx H' → ∃ m', m' < m ∧ W (i + 1) m' H') ∧ ∀ x H', J.yld i H x H' → g x (wipe σ vs) H' fun τ G2 => wipe τ vs = wipe σ vs ∧ tt τ G2 fun b G3 =>
        if b = true then tk τ G3 fun y G4 => tv τ G4 fun z G5 => ∃ kvs k, y = kV k ∧ G5 D = some (.dK kvs) ∧ kvs.length < sizeLine ∧ Nx (upd G5 D (.dK (putK kvs k z))) else Nx G3) := by
  refine ⟨fun i m H => m + i = n ∧ Pv i H, ⟨n, rfl, h0⟩, ?_⟩
  rintro i m H ⟨hm, p⟩
  have q := hG i H (by omega) p
  by_cases hi : i = n
  · subst hi
    exact .inl ⟨w.stops H q, done H p⟩
  · have hlt : i < n := by omega
    exact .inr ⟨w.goes i H hlt q, Pv (i + 1), fun H' p' => ⟨m - 1, by omega, by omega, p'⟩, fun x H' y => turn i x H H' hlt p (w.yields i H x H' hlt q y)⟩
theorem mIdx {X : Cx} (K : PySem.W.Frag) (h : X.K = K) : MtR X "list.index" (rIndex K) := h ▸ mt_index
end Tp

set_option Elab.async false
set_option linter.all false
set_option maxRecDepth 100000
set_option maxHeartbeats 4000000
namespace Tp
open PySem PySem.Spec PyProof.Rows L2 Evl
/-! ### trees -/
inductive Tr where
  | txt (z : Str)
  | el (n : Str) (cs : List Tr)
mutual
def Tr.d : Tr → PyData
  | .txt z => .str z
  | .el n cs => .tuple [.str n, .list (Tr.ds cs)]
def Tr.ds : List Tr → List PyData
  | [] => []
  | c :: cs => c.d :: Tr.ds cs
end
theorem ds_map : ∀ cs : List Tr, Tr.ds cs = cs.map Tr.d
  | [] => rfl
  | c :: cs => by rw [Tr.ds, ds_map cs, List.map_cons]
def Tr.isT : Tr → Bool
  | .txt _ => true
  | .el _ _ => false
def signCs : List Nat := [97, 98, 32, 60, 62, 38, 59, 108, 116, 10, 126, 47]
def okText (m : Nat) (z : Str) : Prop := 1 ≤ z.cps.size ∧ z.cps.size ≤ m ∧ ∀ c ∈ z.cps.toList, c ∈ signCs
def twelve : Str := "ab <>&;lt\n~/"
def fourNames : List Str := ["a", "b", "abcdefghijkl", "c"]
/-- no two texts side by side -/
def apartT : List Tr → Prop
  | [] => True
  | [_] => True
  | a :: b :: r => ¬ (a.isT = true ∧ b.isT = true) ∧ apartT (b :: r)
def okTr : Nat → Tr → Prop
  | _, .txt z => okText 5 z
  | 0, .el _ _ => False
  | k + 1, .el n cs => n ∈ fourNames ∧ cs.length ≤ 3 ∧ apartT cs ∧ ∀ c ∈ cs, okTr k c

/-! ### a document as a text -/
def sL (l : List Nat) : Str := ⟨l.toArray⟩
theorem sL_list (l : List Nat) : (sL l).cps.toList = l := rfl
theorem sL_len (l : List Nat) : (sL l).length = l.length := by
  show l.toArray.size = _
  rw [List.size_toArray]
theorem sL_of (z : Str) : sL z.cps.toList = z := by
  cases z
  rfl
theorem sL_app (a b : List Nat) : sL a ++ sL b = sL (a ++ b) := by
  show (⟨a.toArray ++ b.toArray⟩ : Str) = ⟨(a ++ b).toArray⟩
  rw [List.append_toArray]
theorem sL_ext {x : Str} {l : List Nat} (h : x.cps.toList = l) : x = sL l := by rw [← h, sL_of]
def escC (c : Nat) : List Nat := if c = 60 then [38, 108, 116, 59] else if c = 62 then [38, 103, 116, 59] else if c = 38 then [38, 97, 109, 112, 59] else [c]
def escL (l : List Nat) : List Nat := l.flatMap escC
def esc (z : Str) : Str := sL (escL z.cps.toList)
theorem escC_len (c : Nat) : 1 ≤ (escC c).length ∧ (escC c).length ≤ 5 := by
  unfold escC
  split
  · exact ⟨by decide, by decide⟩
  split
  · exact ⟨by decide, by decide⟩
  split
  · exact ⟨by decide, by decide⟩
  · exact ⟨Nat.le_refl _, by show 1 ≤ 5; decide⟩
theorem escL_len : ∀ l : List Nat, (escL l).length ≤ 5 * l.length
  | [] => Nat.le_refl _
  | c :: l => by
    have h1 := escL_len l
    have h2 := (escC_len c).2
    show (escC c ++ escL l).length ≤ 5 * (l.length + 1)
    rw [List.length_append]
    omega
theorem repl_one (c : Nat) (z : List Nat) : ∀ l : List Nat, StrLaws.replL [c] z l = l.flatMap fun d => if d = c then z else [d]
  | [] => StrLaws.replL_nil
  | d :: l => by
    have ih := repl_one c z l
    rw [List.flatMap_cons]
    by_cases h : d = c
    · subst h
      rw [StrLaws.replL_hit (by simp) (by simp), if_pos rfl]
      show z ++ StrLaws.replL [d] z l = _
      rw [ih]
    · rw [StrLaws.replL_miss (by simpa using h), if_neg h, ih]
      rfl
theorem rep_c {x y z : Str} {c : Nat} (hy : y.cps.toList = [c]) : Txt.replace x y z = sL (x.cps.toList.flatMap fun d => if d = c then z.cps.toList else [d]) := by
  refine sL_ext ?_
  rw [StrLaws.replace_list (by show 1 ≤ y.cps.size; rw [← Array.length_toList, hy]; exact Nat.le_refl _), hy, repl_one]
theorem esc_three (x : Str) : Txt.replace (Txt.replace (Txt.replace x "&" "&amp;") "<" "&lt;") ">" "&gt;" = esc x := by
  have h1 : ("&" : Str).cps.toList = [38] := by decide +kernel
  have h2 : ("<" : Str).cps.toList = [60] := by decide +kernel
  have h3 : (">" : Str).cps.toList = [62] := by decide +kernel
  have g1 : ("&amp;" : Str).cps.toList = [38, 97, 109, 112, 59] := by decide +kernel
  have g2 : ("&lt;" : Str).cps.toList = [38, 108, 116, 59] := by decide +kernel
  have g3 : ("&gt;" : Str).cps.toList = [38, 103, 116, 59] := by decide +kernel
  rw [rep_c h1, rep_c h2, rep_c h3, sL_list, sL_list, g1, g2, g3]
  unfold esc escL
  congr 1
  rw [List.flatMap_assoc, List.flatMap_assoc]
  congr 1
  funext c
  unfold escC
  by_cases a : c = 60
  · subst a; rfl
  by_cases b : c = 62
  · subst b; rfl
  by_cases d : c = 38
  · subst d; rfl
  simp [a, b, d]
theorem join0 (ys : List Str) : Txt.join ⟨#[]⟩ ys = sL (ys.map (·.cps.toList)).flatten := by
  refine sL_ext ?_
  rw [TL.join_eq, show (Str.join ⟨#[]⟩ ys).cps.toList = TL.tl (Str.join ⟨#[]⟩ ys) from rfl, TL.tl_join]
  show TL.joinL [] (ys.map TL.tl) = (ys.map TL.tl).flatten
  generalize ys.map TL.tl = l
  induction l with
  | nil => rfl
  | cons p r ih =>
    cases r with
    | nil => simp [TL.joinL]
    | cons q r =>
      show p ++ ([] ++ TL.joinL [] (q :: r)) = _
      rw [ih, List.nil_append]
      rfl
mutual
/-- the written document; b: no element without parts in short -/
def wr (b : Bool) : Tr → List Nat
  | .txt z => escL z.cps.toList
  | .el n cs => if cs.isEmpty && !b then [60] ++ n.cps.toList ++ [47, 62] else [60] ++ n.cps.toList ++ [62] ++ wrs b cs ++ [60, 47] ++ n.cps.toList ++ [62]
def wrs (b : Bool) : List Tr → List Nat
  | [] => []
  | c :: cs => wr b c ++ wrs b cs
end
theorem wrs_flat (b : Bool) : ∀ cs : List Tr, wrs b cs = (cs.map (wr b)).flatten
  | [] => by rw [wrs]; rfl
  | c :: cs => by rw [wrs, wrs_flat b cs, List.map_cons, List.flatten_cons]
theorem name_len {n : Str} (h : n ∈ fourNames) : n.cps.toList.length ≤ 12 := by
  have : fourNames.all (fun n => decide (n.cps.toList.length ≤ 12)) = true := by decide +kernel
  exact of_decide_eq_true (List.all_eq_true.mp this n h)
def bnd : Nat → Nat
  | 0 => 25
  | k + 1 => 29 + 3 * bnd k
theorem bnd_lo : ∀ k, 25 ≤ bnd k
  | 0 => Nat.le_refl _
  | k + 1 => by
    have := bnd_lo k
    rw [bnd]
    omega
theorem flat_le {m : Nat} : ∀ {l : List (List Nat)}, (∀ x ∈ l, x.length ≤ m) → l.flatten.length ≤ l.length * m
  | [], _ => by simp
  | x :: l, h => by
    have h1 := h x (List.mem_cons_self ..)
    have h2 := flat_le (l := l) fun y hy => h y (List.mem_cons_of_mem _ hy)
    rw [List.flatten_cons, List.length_append, List.length_cons, Nat.succ_mul]
    omega
theorem wr_len (b : Bool) : ∀ {k : Nat} {t : Tr}, okTr k t → (wr b t).length ≤ bnd k
  | k, .txt z, h => by
    have h' : okText 5 z := by cases k <;> exact h
    have h1 := escL_len z.cps.toList
    have h2 : z.cps.toList.length ≤ 5 := by rw [Array.length_toList]; exact h'.2.1
    have h3 := bnd_lo k
    rw [wr]
    omega
  | 0, .el _ _, h => h.elim
  | k + 1, .el n cs, h => by
    obtain ⟨h1, h2, _, h4⟩ := h
    have hn := name_len h1
    rw [wr]
    split
    · have := bnd_lo (k + 1)
      simp only [List.length_append, List.length_cons, List.length_nil]
      omega
    · have h5 : (wrs b cs).length ≤ 3 * bnd k := by
        rw [wrs_flat]
        have := flat_le (l := cs.map (wr b)) (m := bnd k) fun x hx => by
          obtain ⟨c, hc, rfl⟩ := List.mem_map.mp hx
          exact wr_len b (h4 c hc)
        rw [List.length_map] at this
        exact Nat.le_trans this (Nat.mul_le_mul_right _ h2)
      simp only [List.length_append, List.length_cons, List.length_nil]
      rw [bnd]
      omega
theorem bnd_le {k : Nat} (h : k ≤ 5) : bnd k ≤ 10000 := by
  have : ∀ k, k ≤ 5 → bnd k ≤ 10000 := by decide
  exact this k h
end Tp


set_option Elab.async false
set_option linter.all false
set_option maxRecDepth 100000
set_option maxHeartbeats 4000000
namespace Tp
open PySem PySem.Spec PyProof.Rows L2 Evl
/-! ### texts, read from the left -/
/-- what stands from i on -/
def remS (z : Str) (i : Nat) (l : List Nat) : Prop := i ≤ z.cps.size ∧ z.cps.toList.drop i = l
theorem remS.len {z : Str} {i : Nat} {l : List Nat} (h : remS z i l) : i + l.length = z.cps.size := by
  have := congrArg List.length h.2
  rw [List.length_drop, Array.length_toList] at this
  have := h.1
  omega
theorem remS.adv {z : Str} {i : Nat} {a l : List Nat} (h : remS z i (a ++ l)) : remS z (i + a.length) l := by
  have h1 := h.len
  rw [List.length_append] at h1
  refine ⟨by omega, ?_⟩
  rw [← List.drop_drop, h.2, List.drop_left]
theorem remS.ne {z : Str} {i c : Nat} {l : List Nat} (h : remS z i (c :: l)) : i < z.cps.size ∧ z.cps.toList[i]? = some c := by
  have h1 := h.len
  rw [List.length_cons] at h1
  refine ⟨by omega, ?_⟩
  have := congrArg (fun l => l[0]?) h.2
  simpa using this
theorem sw3 {z y : Str} {i : Nat} {l : List Nat} (h : remS z i l) : Txt.startswith3 z y (i : Int) = decide (l.take y.cps.toList.length = y.cps.toList) := by
  have hi := h.1
  have h1 := h.len
  have hf : fromIndex z.length (i : Int) = i := by
    unfold fromIndex
    rw [if_neg (by omega)]
    omega
  unfold Txt.startswith3
  rw [hf, StrLaws.subAt_eq, h.2]
  have hy : y.length = y.cps.toList.length := Array.length_toList.symm
  have hz : z.length = z.cps.size := rfl
  by_cases e : l.take y.cps.toList.length = y.cps.toList
  · have h2 := congrArg List.length e
    rw [List.length_take] at h2
    rw [decide_eq_true e, hy, e]
    simp
    rw [hz]
    have : y.cps.toList.length = y.cps.size := Array.length_toList
    omega
  · rw [decide_eq_false e, hy]
    simp only [Bool.and_eq_false_iff]
    refine .inr ?_
    simpa using e
theorem lt1 (a c : Nat) : (!decide ([c] < [a])) = decide (a ≤ c) := by
  have e : ([c] < [a]) ↔ c < a := by
    rw [List.cons_lt_cons_iff]
    constructor
    · rintro (h | ⟨_, h⟩)
      · exact h
      · cases h
    · exact fun h => .inl h
  by_cases h : c < a
  · rw [decide_eq_true (e.mpr h), decide_eq_false (by omega)]
    rfl
  · rw [decide_eq_false (fun z => h (e.mp z)), decide_eq_true (by omega)]
    rfl
theorem val_chS {σ : L2.St} {H : Hp} {te : TE} {za zb : Str} {a b c : Nat} (h : Val te σ H (.str (sL [c]))) (ea : za.cps.toList = [a]) (eb : zb.cps.toList = [b]) :
    Val (tChain (fun x y H Q => ∃ i j, x = V.str i ∧ y = V.str j ∧ Q (V.bl !decide (j.cps.toList < i.cps.toList)) H) (fun x y H Q => ∃ i j, x = V.str i ∧ y = V.str j ∧ Q (V.bl !decide (j.cps.toList < i.cps.toList)) H) (tC (.str za)) te (tC (.str zb))) σ H (.bl (decide (a ≤ c) && decide (c ≤ b))) := fun Q q => by
  refine h _ ⟨_, _, rfl, rfl, _, rfl, ?_⟩
  rw [ea, sL_list, lt1]
  by_cases e : a ≤ c
  · rw [decide_eq_true e] at q ⊢
    refine iteT ⟨_, _, rfl, rfl, ?_⟩
    rw [eb, sL_list, lt1]
    exact q
  · rw [decide_eq_false e] at q ⊢
    exact iteF q
theorem remS.get {z : Str} {i j : Nat} {l : List Nat} (h : remS z i l) : z.cps.toList[i + j]? = l[j]? := by rw [← h.2, List.getElem?_drop]
theorem remS.drop {z : Str} {i k : Nat} {l : List Nat} (h : remS z i l) (hk : k ≤ l.length) : remS z (i + k) (l.drop k) := by
  have h1 := h.len
  exact ⟨by omega, by rw [← h.2, List.drop_drop]⟩
theorem remS.one {z : Str} {i c : Nat} {l : List Nat} (h : remS z i (c :: l)) : remS z (i + 1) l := h.drop (k := 1) (by simp)
/-- a piece of it -/
theorem remS.cut {z : Str} {i k : Nat} {l : List Nat} (h : remS z i l) : cutS z (some (i : Int)) (some ((i + k : Nat) : Int)) = sL (l.take k) := by
  have h1 := h.len
  have hz : z.length = z.cps.size := rfl
  refine sL_ext ?_
  unfold cutS
  have e1 : HT.sIx z.length 0 (some (i : Int)) = i := by
    rw [HT.sIx_nat]
    omega
  have e2 : HT.sIx z.length z.length (some ((i + k : Nat) : Int)) = min (i + k) z.cps.size := by
    rw [HT.sIx_nat]
    rfl
  rw [e1, e2]
  show (z.cps.toList.drop i).take _ = _
  rw [h.2]
  by_cases hk : i + k ≤ z.cps.size
  · rw [Nat.min_eq_left hk, show i + k - i = k by omega]
  · rw [Nat.min_eq_right (by omega), List.take_of_length_le (by omega), List.take_of_length_le (by omega)]
end Tp


set_option Elab.async false
set_option linter.all false
set_option maxRecDepth 100000
set_option maxHeartbeats 4000000
/-! The head with written dicts and with the tables of code objects. -/
namespace Tp
open PySem PySem.Spec PyProof.Rows L2 Evl
abbrev moreB (fx : List Fx) : PySem.W.Frag → Bool := fun K => fx.all fun f => f.ok K
theorem txt_ofY {fa : List He.Fa} {fn : List He.DefD} {ts : List He.Tab} {tf : List He.Defn} {fx : List Fx} {w : World} {K : PySem.W.Frag} {mg : Str → Option Value} {h g : Heap} (X : K.In h) (G : h.Ns mainGlobals mg) (c : He.SaysX fa fn ts tf (moreB fx) w g K) : Txt fa fn fx K mg :=
  ⟨fun i f e => c.t.d.fact i e, fun i d e => c.t.d.def_ i e, fun i f e => List.all_eq_true.mp c.more f (List.mem_of_getElem? e), fun i x e => He.glo_ok X G (c.t.d.fact i e), fun i x e => He.free_ok X G (c.t.d.fact i e),
    fun i x n e => He.int_ok X G (c.t.d.fact i e), fun i x z e => He.str_ok X G (c.t.d.fact i e)⟩
/-- the written dicts: their keys and hashes -/
def Dics (ts : List He.Tab) (w : World) (K : PySem.W.Frag) : Prop := ∀ (i : Nat) (t : He.Tab), ts[i]? = some t → He.dicW K (t.1 K) = some (He.keysIn w.params t.2)
theorem dics_of {fa : List He.Fa} {fn : List He.DefD} {ts : List He.Tab} {w : World} {K : PySem.W.Frag} (c : He.SaysT fa fn ts w K) : Dics ts w K := fun i t h => by
  have e : ts.map (fun t => He.dicW K (t.1 K)) = ts.map fun t => some (He.keysIn w.params t.2) := congrArg (fun z : He.AlT => z.2) c
  have e2 := congrArg (fun l => l[i]?) e
  simp only [List.getElem?_map, h] at e2
  exact Option.some.inj e2
theorem no_key {P : Params} {x : Str} : ∀ {l : List DictEntry} {ks : List Str}, l.map He.keyOf = He.keysIn P ks → x ∉ ks → l.find? (·.key.isStr x) = none ∧ l.any (·.refKey) = false
  | [], _, _, _ => ⟨rfl, rfl⟩
  | e :: r, [], h, _ => by cases h
  | e :: r, k :: ks, h, hx => by
    have h1 : He.keyOf e :: r.map He.keyOf = some (k, PyData.keyHash P k) :: He.keysIn P ks := h
    injection h1 with h2 h3
    obtain ⟨i1, i2⟩ := no_key h3 fun z => hx (List.mem_cons_of_mem _ z)
    unfold He.keyOf at h2
    split at h2
    · rename_i y t q
      obtain ⟨h5, _⟩ := Prod.mk.inj (Option.some.inj h2)
      have n1 : e.key.isStr x = false := by
        rw [q, PySem.W.isStr_of]
        show Value.isStrOf x (.str y t) = false
        unfold Value.isStrOf
        have : ¬ y = x := fun z => hx (by rw [← z, h5]; exact List.mem_cons_self ..)
        simpa using this
      have n2 : e.refKey = false := by
        unfold DictEntry.refKey
        rw [q]
      refine ⟨?_, ?_⟩
      · rw [List.find?_cons, n1]
        exact i1
      · rw [List.any_cons, n2, i2]
        rfl
    · cases h2
theorem dic_no {K : PySem.W.Frag} {P : Params} {a : Addr} {ks : List Str} {x : Str} (h : He.dicW K a = some (He.keysIn P ks)) (hx : x ∉ ks) : PySem.W.nsIn K a x = some none := by
  unfold He.dicW at h
  split at h
  · rename_i c es n sl q
    split at h
    · obtain ⟨h1, h2⟩ := no_key (Option.some.inj h) hx
      unfold PySem.W.nsIn
      rw [q]
      dsimp only
      rw [h1]
      dsimp only
      rw [if_neg (by rw [h2]; nofun)]
    · cases h
  · cases h
/-- d.get(k), d a written dict with text keys -/
def tKGet (K : PySem.W.Frag) (w : World) (td ty : TE) : TE := fun σ H Q => td σ H fun x H1 => ∃ (a : Addr) (es : Array DictEntry) (n : Nat), x = .ref a ∧ KDict K w a es n ∧ ty σ H1 fun y H2 =>
  ∃ (z : Str) (r : Option Value) (v : V), y = .str z ∧ PySem.W.nsIn K a z = some r ∧ RelV v (r.getD .none) ∧ Q v H2
section
variable {X : Cx} (K : PySem.W.Frag) (w : World)
theorem kget1 (hK : X.K = K) (hw : X.w = w) {o e : Expr} {apos cpos : Pos} {td ty : TE} (ho : PE X o td) (he : PE X e ty) (m : M1 X o "get" apos e cpos) : PE X (.Call (.Attribute o "get" apos) [e] [] cpos) (tKGet K w td ty) := by
  subst hK
  subst hw
  refine ⟨fun pins s σ H Q I h => wpAny_Call_method m.base m.few m.line PySem.F.plainAttrs_dict PySem.F.slot_dict_get PySem.F.type_dict_get (thn (ho.run pins s σ H _ I h) fun u s1 ⟨x, H1, I1, rx, a, es, n, ex, D, q1⟩ => ?_)⟩
  subst ex
  obtain rfl : u = Value.ref a := rx
  have hm1 := PySem.W.mapOf_K (prog := X.prog) (w := X.w) I1.kIn D.at_ D.lit
  refine ⟨hm1.typeIs, fun b q => ?_, ?_⟩
  · cases q
    exact ⟨_, I1.kIn _ _ D.at_, rfl⟩
  rw [m.trees]
  refine Calls.callWith_builtin rfl (Calls.evalArgs_plain (Calls.spliced_cons (thn (he.run pins s1 σ H1 _ I1 q1) fun iv s2 ⟨y, H2, I2, ry, z, r, v, ey, er, rv, q2⟩ => Calls.spliced_nil ?_)))
  subst ey
  obtain ⟨t, rfl⟩ := (show ∃ t, iv = Value.str z t from ry)
  have hm2 := PySem.W.mapOf_K (prog := X.prog) (w := X.w) I2.kIn D.at_ D.lit
  refine call_meetsIn PySem.F.slot_dict_get hm2.typeIs PySem.F.entry_dict_get (PySem.F.args_dict_get_2 _ _) (meets_dict_get (strKind X.prog X.w) a (strKind_is X.prog X.w z t) D.low) ⟨_, hm2, v, H2, I2.tok _, ?_, q2⟩
  rw [PySem.W.find_K D.at_ er]
  exact rv
theorem ixKD (hK : X.K = K) (hw : X.w = w) : IxR X (rIxD K w) := by
  subst hK
  subst hw
  exact ix_kdict
end
/-! ### text times number -/
def repS (n : Nat) (z : Str) : Str := ⟨(List.replicate n z.cps).foldl (· ++ ·) #[]⟩
theorem fold_app : ∀ (n : Nat) (a b : Array Nat), ((List.replicate n a).foldl (· ++ ·) b).toList = b.toList ++ (List.replicate n a.toList).flatten
  | 0, a, b => by simp
  | n + 1, a, b => by
    rw [List.replicate_succ, List.foldl_cons, fold_app n, List.replicate_succ, List.flatten_cons, Array.toList_append, List.append_assoc]
theorem repS_list (n : Nat) (z : Str) : (repS n z).cps.toList = (List.replicate n z.cps.toList).flatten := by
  show ((List.replicate n z.cps).foldl (· ++ ·) #[]).toList = _
  rw [fold_app]
  rfl
theorem op_mulS {X : Cx} : OpR X (binaryOp .Mult) (fun x y H Q => ∃ (z : Str) (n : Int), x = .str z ∧ y = .int n ∧ 0 ≤ n ∧ n ≤ 10000 ∧ 1 ≤ z.length ∧ z.length ≤ 100 ∧ Q (.str (repS n.toNat z)) H) := by
  intro pins s σ H x y v u Q I rx ry h
  obtain ⟨z, n, rfl, rfl, n0, n1, z0, z1, q⟩ := h
  obtain ⟨t, rfl⟩ := rx
  obtain ⟨t', rfl⟩ := ry
  have hlen : z.length * n.toNat ≤ 100 * 10000 := Nat.mul_le_mul z1 (by omega)
  refine PySem.P.mul_str ?_ (fun h1 _ => ?_) (fun _ _ => ?_) ?_
  · rw [decide_eq_false (by omega), decide_eq_false (by omega)]
    rfl
  · have h2 : (100 : Int) ≤ (2 ^ 63 - 1) / n := by
      rw [Int.le_ediv_iff_mul_le (by omega)]
      omega
    omega
  · unfold Builtin.Str.tooLong
    exact decide_eq_false (by have : 100 * 10000 ≤ sizeLine := by decide
                              omega)
  · by_cases a : n < 1
    · rw [if_pos a]
      have : n.toNat = 0 := by omega
      rw [this] at q
      exact ⟨by decide, .str (repS 0 z), H, I.tok _, ⟨_, rfl⟩, q⟩
    · rw [if_neg a]
      by_cases b : n = 1
      · subst b
        have e : repS 1 z = z := by
          show (⟨#[] ++ z.cps⟩ : Str) = z
          rw [Array.empty_append]
        rw [show ((1 : Int) == 1 || z.length == 0) = true from rfl, if_pos rfl]
        refine ⟨.str z, H, I, ⟨_, rfl⟩, ?_⟩
        rw [show (1 : Int).toNat = 1 from rfl, e] at q
        exact q
      · have c : (n == 1 || z.length == 0) = false := by
          rw [Bool.or_eq_false_iff]
          exact ⟨by simpa using b, by have : z.length ≠ 0 := by omega
                                      simpa using this⟩
        rw [c, if_neg nofun]
        refine ⟨?_, .str (repS n.toNat z), H, I.tok _, ⟨_, rfl⟩, q⟩
        have e := congrArg List.length (repS_list n.toNat z)
        rw [Array.length_toList, List.length_flatten, List.map_replicate, List.sum_replicate_nat, Array.length_toList] at e
        have h8 : n.toNat * z.cps.size = z.length * n.toNat := Nat.mul_comm ..
        have h9 : 100 * 10000 ≤ sizeLine := by decide
        show (repS n.toNat z).cps.size ≤ sizeLine
        omega
/-! ### the law's end -/
theorem endsY {l : PySem.W.OpenLaw} {n k : Nat} {q : Program} {loose : List Str} {XP : (Str → Option Value) → Heap → Prop} {YP : World → Heap → Prop} {d : DefRec} {CX : World → CXT} {x : Str} {tf : List He.Defn}
    (hn : l.most = some n) (hn2 : n ≤ sizeLine) (hdf : d.params.defaults = []) (hr : Room k callerA)
    (F : ∀ (w : World) (mg : Str → Option Value) (fa : Addr) (h : Heap), YP w h → h.Ns mainGlobals mg → mg d.name = some (.ref fa) →
      ∃ (K : PySem.W.Frag) (fd : FuncData) (sp : Sp), K.In h ∧ (∀ p ∈ tf, PySem.W.codeHdIn K (He.cT K p).1 (He.cT K p).2 = true) ∧ (∀ p ∈ tf, K.lookup (He.cT K p).2 = none) ∧ (∀ p ∈ tf, h.get? (He.cT K p).2 = some { cls := .none, data := .fields #[] }) ∧ (∀ (s : Shared) (u : Value), BindsTo s fd ⟨[u], []⟩ [(x, u)]) ∧
        (∀ (H : Hp) (a : Addr) (ns : List Int), ns.length ≤ n → (∀ z ∈ ns, Builtin.Int.intBits z ≤ 1048576) → (∀ p ∈ tf, H (He.cT K p).2 = some (.tbl #[])) → SqL K H a (ns.map V.int) → sp [.ref a] H (fun v _ => v = .bl true) fun _ _ _ => False) ∧
        ∀ base : Heap, K.In base → base.Ns mainGlobals mg → (∀ p ∈ tf, LamX.TabB base mg (He.cT K p).1 (He.cT K p).2) → FnOk l.prog w K mg base (CX w) k fa fd [x] sp)
    (hCX : ∀ (w : World) (H : Hp) (s : Shared) (e : Value) (s' : Shared), CX w [] H s (fun _ _ _ => False) e s' → False) :
    PySem.W.WalkO q loose XP YP l.row.toRowW d [] (fun f vs => PySem.call f vs) :=
  LamX.walk_ofTsE hn hn2 hdf hr (fun w mg fa h Y G hm => by
    obtain ⟨K, fd, sp, KX, a1, a2, a3, hb, hsp, hF⟩ := F w mg fa h Y G hm
    have mem : ∀ p ∈ tf.map (He.cT K), ∃ q ∈ tf, He.cT K q = p := fun p hp => List.mem_map.mp hp
    exact ⟨K, KX, fd, tf.map (He.cT K), sp, fun p hp => by obtain ⟨q, h1, rfl⟩ := mem p hp; exact a3 q h1, fun p hp => by obtain ⟨q, h1, rfl⟩ := mem p hp; exact a2 q h1, fun p hp => by obtain ⟨q, h1, rfl⟩ := mem p hp; exact PySem.W.codeHd_of_K KX (a1 q h1), hb,
      fun H a ns h1 h2 h3 h4 => hsp H a ns h1 h2 (fun p hp => h3 _ (List.mem_map.mpr ⟨p, hp, rfl⟩)) h4, fun base h1 h2 h3 => hF base h1 h2 fun p hp => h3 _ (List.mem_map.mpr ⟨p, hp, rfl⟩)⟩) hCX
end Tp


set_option Elab.async false
set_option linter.all false
set_option maxRecDepth 100000
set_option maxHeartbeats 4000000
namespace Tp
open PySem PySem.Spec PyProof.Rows L2 Evl
/-! ### a question's text, as it is to be read -/
/-- read to i, l is left, m steps; or the column and the reason -/
inductive QR where
  | ok (l : List Nat) (i m : Nat)
  | no (c : Nat) (r : Str)
def letB (c : Nat) : Bool := Nat.ble 97 c && Nat.ble c 122
def digB (c : Nat) : Bool := Nat.ble 48 c && Nat.ble c 57
def runL (p : Nat → Bool) : List Nat → Nat
  | [] => 0
  | c :: l => bif p c then runL p l + 1 else 0
theorem runL_le (p : Nat → Bool) : ∀ l : List Nat, runL p l ≤ l.length
  | [] => Nat.le_refl _
  | c :: l => by
    have := runL_le p l
    rw [runL, List.length_cons]
    cases p c with
    | true => exact Nat.succ_le_succ this
    | false => exact Nat.zero_le _
/-- at j < run stands such a sign, at the run's end none -/
theorem runL_at (p : Nat → Bool) : ∀ (l : List Nat) (j : Nat), (j < runL p l → ∃ c, l[j]? = some c ∧ p c = true) ∧ (j = runL p l → ∀ c, l[j]? = some c → p c = false)
  | [], j => ⟨fun h => absurd h (Nat.not_lt_zero _), fun _ c h => by cases h⟩
  | c :: l, j => by
    rw [runL]
    cases hp : p c with
    | false => exact ⟨fun h => absurd h (Nat.not_lt_zero _), fun h d hd => by
        have : j = 0 := h
        subst this
        cases hd
        exact hp⟩
    | true =>
      show (j < runL p l + 1 → _) ∧ (j = runL p l + 1 → _)
      cases j with
      | zero => exact ⟨fun _ => ⟨c, rfl, hp⟩, fun h => by cases h⟩
      | succ j =>
        obtain ⟨h1, h2⟩ := runL_at p l j
        exact ⟨fun h => h1 (by omega), fun h d hd => h2 (by omega) d hd⟩
def qTest (l : List Nat) (i m : Nat) : QR := if l.head? = some 42 ∨ l.head? = some 35 then .ok l.tail (i + 1) m else
  if 1 ≤ runL letB l ∧ runL letB l ≤ 12 then .ok (l.drop (runL letB l)) (i + runL letB l) m else .no (i + 1) "test"
def qNum (below : Bool) (l : List Nat) (i m : Nat) : QR :=
  if below = true ∨ 4 < runL digB l ∨ 5000 < NumText.digitsVal (l.take (runL digB l)) then .no (i + 1) "number" else .ok (l.drop (runL digB l)) (i + runL digB l) m
inductive SR where
  | bad (c : Nat)
  | fin (l : List Nat) (i n : Nat)
def qStr : List Nat → Nat → Nat → SR
  | [], i, n => .fin [] i n
  | [c], i, n => if c = 34 then .fin [c] i n else if c = 92 then .fin [] (i + 1) (n + 1) else if 32 ≤ c ∧ c ≤ 126 then .fin [] (i + 1) (n + 1) else .bad (i + 1)
  | c :: e :: l, i, n => if c = 34 then .fin (c :: e :: l) i n else if c = 92 then (if e = 34 ∨ e = 92 ∨ e = 110 then qStr l (i + 2) (n + 1) else .bad (i + 2))
    else if 32 ≤ c ∧ c ≤ 126 then qStr (e :: l) (i + 1) (n + 1) else .bad (i + 1)
/-- one sign of a string -/
def qSg (c : Nat) (r : List Nat) (i : Nat) : SR := if c = 92 then (match r with
  | [] => .fin [] (i + 1) 0
  | e :: r' => if e = 34 ∨ e = 92 ∨ e = 110 then .fin r' (i + 2) 0 else .bad (i + 2)) else if 32 ≤ c ∧ c ≤ 126 then .fin r (i + 1) 0 else .bad (i + 1)
theorem qStr_nil (i n : Nat) : qStr [] i n = .fin [] i n := by rw [qStr]
theorem qStr_end (r : List Nat) (i n : Nat) : qStr (34 :: r) i n = .fin (34 :: r) i n := by
  cases r with
  | nil => rw [qStr, if_pos rfl]
  | cons e r => rw [qStr, if_pos rfl]
theorem qStr_step {c : Nat} (hc : c ≠ 34) (r : List Nat) (i n : Nat) : qStr (c :: r) i n = match qSg c r i with
    | .bad k => .bad k
    | .fin l' i' _ => qStr l' i' (n + 1) := by
  unfold qSg
  cases r with
  | nil =>
    rw [qStr, if_neg hc]
    split
    · dsimp only
      rw [qStr_nil]
    · split
      · dsimp only
        rw [qStr_nil]
      · rfl
  | cons e r =>
    rw [qStr, if_neg hc]
    split
    · dsimp only
      split <;> rfl
    · split <;> rfl
def qString (l : List Nat) (i m : Nat) : QR := match qStr l.tail (i + 1) 0 with
  | .bad c => .no c "sign"
  | .fin r j n => if r.head? = some 34 ∧ 1 ≤ n ∧ n ≤ 40 then .ok r.tail (j + 1) m else .no (i + 1) "string"
def qClose : QR → QR
  | .no c r => .no c r
  | .ok l i m => if l.head? = some 93 then .ok l.tail (i + 1) m else .no (i + 1) "close"
def qFilter (steps : List Nat → Nat → Nat → QR) (below : Bool) (l : List Nat) (i m : Nat) : QR := qClose
  (if l.tail.head? = some 47 then steps l.tail (i + 1) m else if l.tail.head? = some 34 then qString l.tail (i + 1) m else
    if (match l.tail.head? with | some c => Nat.ble 49 c && Nat.ble c 57 | none => false) = true then qNum below l.tail (i + 1) m else .no (i + 2) "filter")
def qLoop (c : Nat) (step : List Nat → Nat → Nat → QR) : Nat → List Nat → Nat → Nat → QR
  | 0, l, i, m => .ok l i m
  | f + 1, l, i, m => if l.head? = some c then (match step l i m with
    | .ok l' i' m' => qLoop c step f l' i' m'
    | .no k r => .no k r) else .ok l i m
def qThen (a : QR) (f : List Nat → Nat → Nat → QR) : QR := match a with
  | .ok l i m => f l i m
  | .no c r => .no c r
def qAxis (l : List Nat) : Bool := decide (l.tail.head? = some 47)
def qStep (steps : List Nat → Nat → Nat → QR) (deep : Bool) (l : List Nat) (i m : Nat) : QR :=
  if l.head? = some 47 then (if m = 12 then .no (i + 1) "steps" else if deep = true then .no (i + 1) "deep" else
    qThen (qTest (l.drop (bif qAxis l then 2 else 1)) (i + (bif qAxis l then 2 else 1)) (m + 1)) fun l' i' m' => qLoop 91 (qFilter steps (qAxis l)) (l'.length + 1) l' i' m')
  else .no (i + 1) "step"
def qMany (step : List Nat → Nat → Nat → QR) (l : List Nat) (i m : Nat) : QR := qThen (step l i m) fun l' i' m' => qLoop 47 step (l'.length + 1) l' i' m'
/-- k: how many more may stand within one another -/
def qSteps : Nat → List Nat → Nat → Nat → QR
  | 0 => qMany (qStep (fun _ _ _ => .no 0 "") true)
  | k + 1 => qMany (qStep (qSteps k) false)
def qStepK : Nat → List Nat → Nat → Nat → QR
  | 0 => qStep (fun _ _ _ => .no 0 "") true
  | k + 1 => qStep (qSteps k) false
theorem qSteps_eq (k : Nat) : qSteps k = qMany (qStepK k) := by cases k <;> rfl
def qAll (l : List Nat) : QR := qThen (qSteps 3 l 0 0) fun l' i' m' => if l' = [] then .ok l' i' m' else .no (i' + 1) "end"
end Tp


set_option Elab.async false
set_option linter.all false
set_option maxRecDepth 100000
set_option maxHeartbeats 4000000
namespace Tp
open PySem PySem.Spec PyProof.Rows L2 Evl
/-! ### the texts of k36, all of them -/
def begS : List PySem.Str := ["/a", "//b", "/*[2]", "//#", "/abc[/d]", "/e[\"x\"]"]
def begT (js : List Nat) : List Nat := js.flatMap fun j => (begS.getD j "").cps.toList
def mk3 (a : PySem.Str) (i : Nat) (r : PySem.Str) : PySem.Str × Nat × PySem.Str := (a, i, r)
def wrS : List (PySem.Str × Nat × PySem.Str) := [mk3 ("/") 1 "test", mk3 ("//") 2 "test", mk3 ("/A") 1 "test", mk3 ("/2") 1 "test", mk3 ("/abcdefghijklm") 1 "test",
  mk3 ("/a[") 3 "filter", mk3 ("/a[x]") 3 "filter", mk3 ("/a[0]") 3 "filter", mk3 ("/a[]") 3 "filter",
  mk3 ("/a[5001]") 3 "number", mk3 ("//a[1]") 4 "number", mk3 ("/a[99999]") 3 "number", mk3 ("/a[1") 4 "close",
  mk3 ("/a[12x]") 5 "close", mk3 ("/a[\"x\"") 6 "close", mk3 ("/a[/b") 5 "close", mk3 ("/a[\"\"]") 3 "string",
  mk3 ("/a[\"x") 3 "string", mk3 (sL ([47, 97, 91, 34] ++ List.replicate 41 121 ++ [34, 93])) 3 "string", mk3 ("/a[\"\\x\"]") 5 "sign",
  mk3 ("/a[\"\n\"]") 4 "sign", mk3 ("/a[\"\t\"]") 4 "sign", mk3 ("/a]") 2 "end", mk3 ("/a ") 2 "end",
  mk3 ("/a[2]x") 5 "end", mk3 ("/a*") 2 "end", mk3 ("/*a") 2 "end", mk3 ("/#/ ") 3 "test", mk3 ("/a[/]") 4 "test",
  mk3 ("/a[/b[/c[/d]]]") 9 "deep", mk3 (sL (List.replicate 13 [47, 97]).flatten) 24 "steps", mk3 ("/a[b]") 3 "filter", mk3 ("/a[\"\\") 3 "string"]
def isNo (q : QR) (c : Nat) (r : Str) : Bool := match q with
  | .no k s => Nat.beq k c && decide (s = r)
  | .ok _ _ _ => false
def isOk (q : QR) : Bool := match q with
  | .no _ _ => false
  | .ok _ _ _ => true
def jss : List (List Nat) := [] :: ((List.range 6).map fun a => [a]) ++ ((List.range 6).flatMap fun a => (List.range 6).map fun b => [a, b]) ++ ((List.range 6).flatMap fun a => (List.range 6).flatMap fun b => (List.range 6).map fun c => [a, b, c])
theorem all_no : (jss.all fun js => wrS.all fun p => isNo (qAll ((if p.2.2 = "steps" then [] else begT js) ++ p.1.cps.toList)) ((if p.2.2 = "steps" then [] else begT js).length + p.2.1 + 1) p.2.2) = true := by decide +kernel
theorem oks : (jss.all fun js => js.isEmpty || isOk (qAll (begT js))) = true := by decide +kernel

end Tp


set_option Elab.async false
set_option linter.all false
set_option maxRecDepth 100000
set_option maxHeartbeats 4000000
namespace Tp
open PySem PySem.Spec PyProof.Rows L2 Evl
theorem isNo_ok {q : QR} {c : Nat} {r : PySem.Str} (h : isNo q c r = true) : q = .no c r := by
  cases q with
  | ok l i m => cases h
  | no k s =>
    obtain ⟨h1, h2⟩ := Bool.and_eq_true_iff.mp h
    rw [Nat.eq_of_beq_eq_true h1, of_decide_eq_true h2]
theorem isOk_ok {q : QR} (h : isOk q = true) : ∃ l i m, q = .ok l i m := by
  cases q with
  | ok l i m => exact ⟨l, i, m, rfl⟩
  | no k s => cases h
theorem jss_mem {js : List Nat} (h : js.length ≤ 3) (h6 : ∀ j ∈ js, j < 6) : js ∈ jss := by
  unfold jss
  match js, h, h6 with
  | [], _, _ => simp
  | [a], _, h6 => simp [h6 a (by simp)]
  | [a, b], _, h6 => simp [h6 a (by simp), h6 b (by simp)]
  | [a, b, c], _, h6 =>
    simp [h6 a (by simp), h6 b (by simp), h6 c (by simp)]
    exact ⟨a, h6 a (by simp), b, h6 b (by simp), c, h6 c (by simp), rfl, rfl, rfl⟩
theorem at_no {js : List Nat} (h : js.length ≤ 3) (h6 : ∀ j ∈ js, j < 6) {p : PySem.Str × Nat × PySem.Str} (hp : p ∈ wrS) : qAll ((if p.2.2 = "steps" then [] else begT js) ++ p.1.cps.toList) = .no ((if p.2.2 = "steps" then [] else begT js).length + p.2.1 + 1) p.2.2 :=
  isNo_ok (List.all_eq_true.mp (List.all_eq_true.mp all_no js (jss_mem h h6)) p hp)
theorem at_ok {js : List Nat} (h : js.length ≤ 3) (h6 : ∀ j ∈ js, j < 6) (hne : js ≠ []) : ∃ l i m, qAll (begT js) = .ok l i m := by
  have := List.all_eq_true.mp oks js (jss_mem h h6)
  rcases Bool.or_eq_true_iff.mp this with h1 | h1
  · exact absurd (List.isEmpty_iff.mp h1) hne
  · exact isOk_ok h1
theorem begT_len {js : List Nat} (h : js.length ≤ 3) : (begT js).length ≤ 30 := by
  have h10 : ∀ j : Nat, (begS.getD j "").cps.toList.length ≤ 10 := fun j => by
    by_cases hj : j < 6
    · have : ∀ j, j < 6 → (begS.getD j "").cps.toList.length ≤ 10 := by decide +kernel
      exact this j hj
    · rw [List.getD_eq_getElem?_getD, List.getElem?_eq_none (by show 6 ≤ j; omega)]
      decide +kernel
  have : ∀ js : List Nat, (begT js).length ≤ 10 * js.length := fun js => by
    induction js with
    | nil => exact Nat.le_refl _
    | cons j js ih =>
      show ((begS.getD j "").cps.toList ++ begT js).length ≤ _
      have := h10 j
      rw [List.length_append, List.length_cons]
      omega
  have := this js
  omega
theorem begT_snoc (js : List Nat) (j : Nat) : begT (js ++ [j]) = begT js ++ (begS.getD j "").cps.toList := by
  unfold begT
  rw [List.flatMap_append]
  show _ ++ ((begS.getD j "").cps.toList ++ []) = _
  rw [List.append_nil]
theorem begT_ne {js : List Nat} (h6 : ∀ j ∈ js, j < 6) : begT js = [] ↔ js = [] := by
  constructor
  · intro h
    cases js with
    | nil => rfl
    | cons j r =>
      have : ∀ j, j < 6 → (begS.getD j "").cps.toList ≠ [] := by decide +kernel
      exact absurd (List.append_eq_nil_iff.mp (show (begS.getD j "").cps.toList ++ begT r = [] from h)).1 (this j (h6 j (by simp)))
  · intro h
    rw [h]
    rfl
theorem wr_small : ∀ p ∈ wrS, p.1.cps.toList.length ≤ 100 ∧ p.2.1 ≤ 100 := by decide +kernel
theorem other_no : qAll [] = .no 1 "step" ∧ qAll (("a" : PySem.Str).cps.toList) = .no 1 "step" ∧ qAll ((" /a" : PySem.Str).cps.toList) = .no 1 "step" ∧ qAll (("[1]" : PySem.Str).cps.toList) = .no 1 "step" :=
  ⟨isNo_ok (by decide +kernel), isNo_ok (by decide +kernel), isNo_ok (by decide +kernel), isNo_ok (by decide +kernel)⟩
end Tp


set_option Elab.async false
set_option linter.all false
set_option maxRecDepth 100000
set_option maxHeartbeats 4000000
namespace Tp
open PySem PySem.Spec PyProof.Rows L2 Evl
/-! ### rows of bits: what is kept -/
def pre (row : List Int) (i : Nat) : Int := (row.take i).sum
def sums (row : List Int) : List Int := (List.range (row.length + 1)).map (pre row)
def isAt (row : List Int) (d : Int) (i : Nat) : Bool := decide (row[i]? = some d)
/-- the places below n at which d stands -/
def plcTo (row : List Int) (d : Int) (n : Nat) : List Int := ((List.range n).filter (isAt row d)).map fun (i : Nat) => (i : Int)
def plc (row : List Int) (d : Int) : List Int := plcTo row d row.length
theorem pre_zero (row : List Int) : pre row 0 = 0 := rfl
theorem pre_succ {row : List Int} {i : Nat} {z : Int} (h : row[i]? = some z) : pre row (i + 1) = pre row i + z := sum_take h
theorem pre_all (row : List Int) : pre row row.length = row.sum := by unfold pre; rw [List.take_length]
theorem sums_len (row : List Int) : (sums row).length = row.length + 1 := by unfold sums; rw [List.length_map, List.length_range]
theorem sums_at {row : List Int} {i : Nat} (h : i ≤ row.length) : (sums row)[i]? = some (pre row i) := by
  unfold sums
  rw [List.getElem?_map, List.getElem?_range (by omega)] <;> rfl
theorem plcTo_succ {row : List Int} {d : Int} {n : Nat} : plcTo row d (n + 1) = if isAt row d n = true then plcTo row d n ++ [(n : Int)] else plcTo row d n := by
  unfold plcTo
  rw [List.range_succ, List.filter_append, List.map_append, List.filter_cons]
  by_cases h : isAt row d n = true
  · rw [if_pos h, if_pos h] <;> rfl
  · rw [if_neg h, if_neg h]
    show _ ++ [] = _
    rw [List.append_nil]
theorem plcTo_len (row : List Int) (d : Int) (n : Nat) : (plcTo row d n).length ≤ n := by
  unfold plcTo
  rw [List.length_map]
  have h := List.length_filter_le (isAt row d) (List.range n)
  rwa [List.length_range] at h
theorem int_at {ns : List Int} {i : Nat} {x : V} (h : (ns.map V.int)[i]? = some x) : ∃ z, ns[i]? = some z ∧ x = .int z := by
  rw [List.getElem?_map] at h
  cases e : ns[i]? with
  | none =>
    rw [e] at h
    cases h
  | some z =>
    rw [e] at h
    exact ⟨z, rfl, (Option.some.inj h).symm⟩
theorem at_int {ns : List Int} {i : Nat} {z : Int} (h : ns[i]? = some z) : (ns.map V.int)[i]? = some (V.int z) := by rw [List.getElem?_map, h] <;> rfl
theorem lt_of_at {α : Type} {l : List α} {i : Nat} {x : α} (h : l[i]? = some x) : i < l.length := (List.getElem?_eq_some_iff.mp h).1
theorem small9 {n : Nat} (h : n ≤ 100000) : n < sizeLine := Nat.lt_of_le_of_lt h (by decide)
end Tp


set_option Elab.async false
set_option linter.all false
set_option maxRecDepth 100000
set_option maxHeartbeats 4000000
namespace Tp
open PySem PySem.Spec PyProof.Rows L2 Evl RT
/-! ### list(reversed(x)), x a list -/
section
variable {prog : Program} {w : World} {A : Around} {E : Value → Shared → Prop} {s : Shared}
theorem extendRev {R : Result → Shared → Prop} {S it l : Addr} {items : Array Value} {c₀ : Nat} (res : Value) (hh : A.handled = none) (hit : s.heap.IsRevIter it l ((items.size : Int) - 1)) (hl : s.heap.IsList l items) (ne1 : l ≠ it) (ne2 : S ≠ it) (ne3 : S ≠ l) (hn : items.size ≤ sizeLine)
    (hS : s.heap.get? S = some { cls := .type "list", data := .seq #[] c₀ })
    (hR : ∀ (h' : Heap) (tk : Nat) (acc : Array Value) (c' : Nat), (∀ b o, b ≠ S → b ≠ it → s.heap.get? b = some o → h'.get? b = some o) → h'.get? S = some { cls := .type "list", dict := none, data := .seq acc c', slots := #[] } → ItemsOf (fun i v => items[items.size - 1 - i]? = some v) acc items.size → R (.ok (.ret res)) { s with heap := h', toks := tk }) :
    wpAny (model prog w) A.in1 (Builtin.List.listExtendWith (.ref S) (.ref it) res) (fun fin s' => match fin with | .done f => R (.ok f) s' | .again c' => c'.quiet = true ∧ codeAny (model prog w) A c' R s') (fun e s' => R (.error e) s') s := by
  have walk := (Walks.listRev (prog := prog) (w := w) (A := A.in1) hh it l ne1 items).toS
  have out : S ∉ [it, l] := by
    simp only [List.mem_cons, List.not_mem_nil, or_false, not_or]
    exact ⟨ne2, ne3⟩
  have kind : s.TypeIs (.ref it) "list_reverseiterator" := hit.typeIs
  have other : Builtin.List.listSameRef (.ref S) (.ref it) = false := by simp [Builtin.List.listSameRef, ne2]
  unfold Builtin.List.listExtendWith
  refine wpAny_bind (wpAny_typeOf kind ?_)
  rw [if_neg (by rw [other]; decide)]
  refine wpAny_bind (wpAny_pyIter_revIter hit (wpAny_bind (wpAny_holding ?_)))
  unfold Builtin.List.listLengthHint
  refine wpAny_bind (wpAny_specialOf kind nolen_lri ?_)
  show wpAny _ A.in1 (specialOf (Value.ref it) (Str.ofString "__length_hint__") >>= _) _ _ _
  refine wpAny_bind (wpAny_specialOf kind hint_lri ?_)
  generalize hd : ("list_reverseiterator.__length_hint__" : String) = named
  wp_delta
  rw [show splitId named = some ("list_reverseiterator", "__length_hint__") by subst hd; decide +kernel]
  subst hd
  refine wpAny_bind (wpAny_isInstance (b := true) kind (by rw [isSubtype_type]; kernel_rfl) (wpAny_pure ?_))
  rw [if_neg (by decide)]
  have e0 : ((items.size : Nat) : Int) - 1 - ((0 : Nat) : Int) = (items.size : Int) - 1 := by omega
  refine wpAny_pure ⟨plainId_quiet F.plain_extend_loop _, codeAny_extend_loopS walk hn _ out _ items.size 0 _ _ _ rfl (Nat.zero_le _) ⟨Nat.zero_le _, by rw [e0]; exact hit, hl⟩ hS (ItemsOf.nil _) fun s' acc c' mv hS' hacc => ?_⟩
  rw [Moved.eq_with mv]
  refine hR s'.heap s'.toks acc c' (fun b o n1 n2 e => mv.heap b o (fun hm => ?_) e) hS' hacc
  rcases List.mem_cons.mp hm with z | z
  · exact n1 z
  · exact n2 (List.mem_singleton.mp z)
theorem listRev {it l : Addr} {items : Array Value} {Q : Value → Shared → Prop} (hh : A.handled = none) (hit : s.heap.IsRevIter it l ((items.size : Int) - 1)) (hl : s.heap.IsList l items) (ne1 : l ≠ it) (hn : items.size ≤ sizeLine)
    (hQ : ∀ (h' : Heap) (tk : Nat) (acc : Array Value) (c' : Nat), (∀ b o, b ≠ it → s.heap.get? b = some o → h'.get? b = some o) → h'.get? s.heap.objs.size = some { cls := .type "list", dict := none, data := .seq acc c', slots := #[] } → ItemsOf (fun i v => items[items.size - 1 - i]? = some v) acc items.size → Q (.ref s.heap.objs.size) { s with heap := h', toks := tk }) :
    wpAny (model prog w) A (call (.type "list") [.ref it]) Q E s := by
  refine callType_codes (Q₁ := fun obj t => obj = .ref s.heap.objs.size ∧ t = { s with heap := s.heap.push { cls := .type "list", data := .seq #[] } }) F.called_list (F.typeCall_list_1 _) F.entry_list_init (code_list_new _ ⟨rfl, rfl⟩) ?_
  rintro _ _ ⟨rfl, rfl⟩
  obtain ⟨oi, hoi, _⟩ := id hit
  obtain ⟨ol, hol, _⟩ := id hl
  have n2 : s.heap.objs.size ≠ it := Nat.ne_of_gt (Heap.lt_size hoi)
  have n3 : s.heap.objs.size ≠ l := Nat.ne_of_gt (Heap.lt_size hol)
  have made : (s.heap.push { cls := .type "list", data := .seq #[] }).get? s.heap.objs.size = some { cls := .type "list", data := .seq #[] } := Heap.get?_push_size _ rfl
  refine ⟨⟨_, made, rfl⟩, F.args_list_init_2 _ _, ?_⟩
  show wpAny _ A.in1.in1 (do let old ← Builtin.List.listItems (.ref s.heap.objs.size); Builtin.List.listUpdate (.ref s.heap.objs.size) (fun _ => #[]); letGo old.toList.reverse; Builtin.List.listExtendWith (.ref s.heap.objs.size) (.ref it) .none) _ _ _
  refine wpAny_bind ?_
  unfold Builtin.List.listItems
  refine wpAny_bind (wpAny_seqItems made rfl (wpAny_pure ?_))
  show wpAny _ A.in1.in1 (updateSeq s.heap.objs.size (fun _ => #[]) >>= fun _ => letGo (#[] : Array Value).toList.reverse >>= fun _ => Builtin.List.listExtendWith (.ref s.heap.objs.size) (.ref it) .none) _ _ _
  refine wpAny_bind (wpAny_updateSeq made rfl ?_)
  have empty := Heap.get?_update_self (Obj.mapSeq (fun _ => (#[] : Array Value))) made rfl
  have oth : ∀ b o, b ≠ s.heap.objs.size → s.heap.get? b = some o → ((s.heap.push { cls := .type "list", data := .seq #[] }).update s.heap.objs.size (Obj.mapSeq (fun _ => (#[] : Array Value)))).get? b = some o :=
    fun b o hb e => (Heap.get?_update_other _ _ (Ne.symm hb)).trans (Heap.get?_push_of_some _ e)
  refine wpAny_bind (wpAny_letGo ?_)
  refine extendRev (A := A.in1) .none hh (hit.at fun o e => oth _ o (Ne.symm n2) e) ?_ ne1 n2 n3 hn empty fun h' tk acc c' keep hS' hacc => ⟨rfl, hQ h' tk acc c' (fun b o hb e => keep b o (Nat.ne_of_lt (Heap.lt_size e)) hb (oth b o (Nat.ne_of_lt (Heap.lt_size e)) e)) hS' hacc⟩
  obtain ⟨o, ho, r⟩ := hl
  exact ⟨o, oth _ _ (Ne.symm n3) ho, r⟩
end
def tLstRev (K : PySem.W.Frag) (te : TE) : TE := fun τ G Q => te τ G fun v G1 => ∃ (a : Addr) (xs : List V), v = .ref a ∧ SqL K G1 a xs ∧ ∀ q, G1 q = none → Q (.ref q) (upd G1 q (.lst xs.reverse))
theorem pe_lstRev {X : Cx} (K : PySem.W.Frag) (h : X.K = K) {e : Expr} {te : TE} {p p2 pos pos2 : Pos} (hc : X.calm = true) (hg : Gl X "list") (hm : X.mg "list" = none) (hg2 : Gl X "reversed") (hm2 : X.mg "reversed" = none) (he : PE X e te)
    (hs : starEach [e] X.env = (false, eval e X.env) :: starEach [] X.env := by rfl)
    (hs2 : starEach [.Call (.Name "reversed" p2) [e] [] pos2] X.env = (false, eval (.Call (.Name "reversed" p2) [e] [] pos2) X.env) :: starEach [] X.env := by rfl) :
    PE X (.Call (.Name "list" p) [.Call (.Name "reversed" p2) [e] [] pos2] [] pos) (tLstRev K te) := by
  subst h
  constructor
  intro pins s τ G Q I h
  refine Call_ (ld_blt I hg hm boot_list (PyProof.Rows.callWith_type1 (args_cons (Call_ (ld_blt I hg2 hm2 PyProof.Rows.boot_reversed (PyProof.Rows.callWith_type1 (args_cons (thn (he.run pins s τ G _ I h) fun u t ⟨v, G1, J, rv, q1⟩ => args_nil ?_) hs) hs rfl))) hs2) hs2 rfl))
  obtain ⟨a, xs, rfl, hq, q⟩ := q1
  obtain rfl : u = Value.ref a := rv
  obtain ⟨its, vals, plain, hz⟩ := J.list hq
  have isl := plain.isList
  refine call_reversed_list isl (args_nil ?_)
  have small : its.toArray.size ≤ sizeLine := by rw [List.size_toArray, ← vals.length]; exact hz
  obtain ⟨ol, hol, _⟩ := id isl
  have apart : a ≠ t.heap.objs.size := Nat.ne_of_lt (Heap.lt_size hol)
  have J2 : Inv X pins τ G1 { t with heap := t.heap.push (revObj a ((its.toArray.size : Int) - 1)) } := J.kept (t' := t.toks) fun b o e => Heap.get?_push_of_some _ e
  obtain ⟨f0, f1, f2, f3, f4, f5⟩ := J.fpOk (H' := G1) (b := t.heap.objs.size) (Nat.le_refl _) (J.hok.fresh (Nat.le_refl _))
  have sz : (t.heap.push (revObj a ((its.toArray.size : Int) - 1))).objs.size = t.heap.objs.size + 1 := Heap.size_push ..
  refine listRev (s := { t with heap := t.heap.push (revObj a ((its.toArray.size : Int) - 1)) }) (J.ok.hd hc) ⟨_, Heap.get?_push_size _ rfl, rfl, rfl⟩ (isl.push _) apart small fun h' tk acc c' keep made items => ?_
  rw [show ({ t with heap := t.heap.push (revObj a ((its.toArray.size : Int) - 1)) } : Shared).heap.objs.size = t.heap.objs.size + 1 from sz] at made ⊢
  refine ⟨.ref _, upd G1 (t.heap.objs.size + 1) (.lst xs.reverse), J.laid (t' := tk) (fun b o e => keep b o (Nat.ne_of_lt (Heap.lt_size e)) (Heap.get?_push_of_some _ e)) (Nat.le_succ _) (show ObjOk X.prog X.w _ _ _ (.lst xs.reverse) from ⟨by rw [List.length_reverse]; exact hz, acc.toList, c', vals_rev vals items, ?_⟩), rfl, q _ (J.hok.fresh (Nat.le_succ _))⟩
  rw [Array.toArray_toList]
  exact made
end Tp

namespace Tp
open PySem PySem.Spec PyProof.Rows L2 Evl
/-! ### the text by places, the facts -/
def top (i : Nat) : Stmt := PySem.Challenge.pw_topiary_k36_first_error_of_a_question.main.body.getD i (.Pass ⟨0, 0, 0, 0⟩)
abbrev s_InvalidQuestion_init : Stmt := inClass (top 2) 0
abbrev N_InvalidQuestion_init : List Str := ["self", "column", "reason"]
abbrev ps_InvalidQuestion_init : List Str := ["self", "column", "reason"]
abbrev at_InvalidQuestion_init : Str × Option Str := ("InvalidQuestion", some "__init__")
theorem sc_InvalidQuestion_init : FnScope N_InvalidQuestion_init ps_InvalidQuestion_init (defScope s_InvalidQuestion_init) := ⟨rfl, rfl, rfl, by decide +kernel, rfl, by decide +kernel, by decide +kernel⟩
def d_InvalidQuestion_init : He.DefD := ⟨at_InvalidQuestion_init, "__init__", "InvalidQuestion.__init__", defArgs s_InvalidQuestion_init, defBody s_InvalidQuestion_init, defScope s_InvalidQuestion_init, [], []⟩
abbrev s_is_letter : Stmt := top 4
abbrev N_is_letter : List Str := ["character"]
abbrev ps_is_letter : List Str := ["character"]
abbrev at_is_letter : Str × Option Str := ("is_letter", none)
theorem sc_is_letter : FnScope N_is_letter ps_is_letter (defScope s_is_letter) := ⟨rfl, rfl, rfl, by decide +kernel, rfl, by decide +kernel, by decide +kernel⟩
def d_is_letter : He.DefD := ⟨at_is_letter, "is_letter", "is_letter", defArgs s_is_letter, defBody s_is_letter, defScope s_is_letter, [], []⟩
abbrev s_QuestionReading_init : Stmt := inClass (top 14) 0
abbrev N_QuestionReading_init : List Str := ["self", "source"]
abbrev ps_QuestionReading_init : List Str := ["self", "source"]
abbrev at_QuestionReading_init : Str × Option Str := ("QuestionReading", some "__init__")
theorem sc_QuestionReading_init : FnScope N_QuestionReading_init ps_QuestionReading_init (defScope s_QuestionReading_init) := ⟨rfl, rfl, rfl, by decide +kernel, rfl, by decide +kernel, by decide +kernel⟩
def d_QuestionReading_init : He.DefD := ⟨at_QuestionReading_init, "__init__", "QuestionReading.__init__", defArgs s_QuestionReading_init, defBody s_QuestionReading_init, defScope s_QuestionReading_init, [], []⟩
abbrev s_QuestionReading_begins : Stmt := inClass (top 14) 1
abbrev N_QuestionReading_begins : List Str := ["self", "word"]
abbrev ps_QuestionReading_begins : List Str := ["self", "word"]
abbrev at_QuestionReading_begins : Str × Option Str := ("QuestionReading", some "begins")
theorem sc_QuestionReading_begins : FnScope N_QuestionReading_begins ps_QuestionReading_begins (defScope s_QuestionReading_begins) := ⟨rfl, rfl, rfl, by decide +kernel, rfl, by decide +kernel, by decide +kernel⟩
def d_QuestionReading_begins : He.DefD := ⟨at_QuestionReading_begins, "begins", "QuestionReading.begins", defArgs s_QuestionReading_begins, defBody s_QuestionReading_begins, defScope s_QuestionReading_begins, [], []⟩
abbrev s_QuestionReading_sign : Stmt := inClass (top 14) 2
abbrev N_QuestionReading_sign : List Str := ["self"]
abbrev ps_QuestionReading_sign : List Str := ["self"]
abbrev at_QuestionReading_sign : Str × Option Str := ("QuestionReading", some "sign")
theorem sc_QuestionReading_sign : FnScope N_QuestionReading_sign ps_QuestionReading_sign (defScope s_QuestionReading_sign) := ⟨rfl, rfl, rfl, by decide +kernel, rfl, by decide +kernel, by decide +kernel⟩
def d_QuestionReading_sign : He.DefD := ⟨at_QuestionReading_sign, "sign", "QuestionReading.sign", defArgs s_QuestionReading_sign, defBody s_QuestionReading_sign, defScope s_QuestionReading_sign, [], []⟩
abbrev s_QuestionReading_read_steps : Stmt := inClass (top 14) 3
abbrev N_QuestionReading_read_steps : List Str := ["self", "nested", "steps"]
abbrev ps_QuestionReading_read_steps : List Str := ["self", "nested"]
abbrev at_QuestionReading_read_steps : Str × Option Str := ("QuestionReading", some "read_steps")
theorem sc_QuestionReading_read_steps : FnScope N_QuestionReading_read_steps ps_QuestionReading_read_steps (defScope s_QuestionReading_read_steps) := ⟨rfl, rfl, rfl, by decide +kernel, rfl, by decide +kernel, by decide +kernel⟩
def d_QuestionReading_read_steps : He.DefD := ⟨at_QuestionReading_read_steps, "read_steps", "QuestionReading.read_steps", defArgs s_QuestionReading_read_steps, defBody s_QuestionReading_read_steps, defScope s_QuestionReading_read_steps, [], []⟩
abbrev s_QuestionReading_read_step : Stmt := inClass (top 14) 4
abbrev N_QuestionReading_read_step : List Str := ["self", "nested", "axis", "test", "filters"]
abbrev ps_QuestionReading_read_step : List Str := ["self", "nested"]
abbrev at_QuestionReading_read_step : Str × Option Str := ("QuestionReading", some "read_step")
theorem sc_QuestionReading_read_step : FnScope N_QuestionReading_read_step ps_QuestionReading_read_step (defScope s_QuestionReading_read_step) := ⟨rfl, rfl, rfl, by decide +kernel, rfl, by decide +kernel, by decide +kernel⟩
def d_QuestionReading_read_step : He.DefD := ⟨at_QuestionReading_read_step, "read_step", "QuestionReading.read_step", defArgs s_QuestionReading_read_step, defBody s_QuestionReading_read_step, defScope s_QuestionReading_read_step, [], []⟩
abbrev s_QuestionReading_read_test : Stmt := inClass (top 14) 5
abbrev N_QuestionReading_read_test : List Str := ["self", "start"]
abbrev ps_QuestionReading_read_test : List Str := ["self"]
abbrev at_QuestionReading_read_test : Str × Option Str := ("QuestionReading", some "read_test")
theorem sc_QuestionReading_read_test : FnScope N_QuestionReading_read_test ps_QuestionReading_read_test (defScope s_QuestionReading_read_test) := ⟨rfl, rfl, rfl, by decide +kernel, rfl, by decide +kernel, by decide +kernel⟩
def d_QuestionReading_read_test : He.DefD := ⟨at_QuestionReading_read_test, "read_test", "QuestionReading.read_test", defArgs s_QuestionReading_read_test, defBody s_QuestionReading_read_test, defScope s_QuestionReading_read_test, [], []⟩
abbrev s_QuestionReading_read_filter : Stmt := inClass (top 14) 6
abbrev N_QuestionReading_read_filter : List Str := ["self", "axis", "nested", "told"]
abbrev ps_QuestionReading_read_filter : List Str := ["self", "axis", "nested"]
abbrev at_QuestionReading_read_filter : Str × Option Str := ("QuestionReading", some "read_filter")
theorem sc_QuestionReading_read_filter : FnScope N_QuestionReading_read_filter ps_QuestionReading_read_filter (defScope s_QuestionReading_read_filter) := ⟨rfl, rfl, rfl, by decide +kernel, rfl, by decide +kernel, by decide +kernel⟩
def d_QuestionReading_read_filter : He.DefD := ⟨at_QuestionReading_read_filter, "read_filter", "QuestionReading.read_filter", defArgs s_QuestionReading_read_filter, defBody s_QuestionReading_read_filter, defScope s_QuestionReading_read_filter, [], []⟩
abbrev s_QuestionReading_read_number : Stmt := inClass (top 14) 7
abbrev N_QuestionReading_read_number : List Str := ["self", "axis", "start", "digits"]
abbrev ps_QuestionReading_read_number : List Str := ["self", "axis"]
abbrev at_QuestionReading_read_number : Str × Option Str := ("QuestionReading", some "read_number")
theorem sc_QuestionReading_read_number : FnScope N_QuestionReading_read_number ps_QuestionReading_read_number (defScope s_QuestionReading_read_number) := ⟨rfl, rfl, rfl, by decide +kernel, rfl, by decide +kernel, by decide +kernel⟩
def d_QuestionReading_read_number : He.DefD := ⟨at_QuestionReading_read_number, "read_number", "QuestionReading.read_number", defArgs s_QuestionReading_read_number, defBody s_QuestionReading_read_number, defScope s_QuestionReading_read_number, [], []⟩
abbrev s_QuestionReading_read_string : Stmt := inClass (top 14) 8
abbrev N_QuestionReading_read_string : List Str := ["self", "start", "signs"]
abbrev ps_QuestionReading_read_string : List Str := ["self"]
abbrev at_QuestionReading_read_string : Str × Option Str := ("QuestionReading", some "read_string")
theorem sc_QuestionReading_read_string : FnScope N_QuestionReading_read_string ps_QuestionReading_read_string (defScope s_QuestionReading_read_string) := ⟨rfl, rfl, rfl, by decide +kernel, rfl, by decide +kernel, by decide +kernel⟩
def d_QuestionReading_read_string : He.DefD := ⟨at_QuestionReading_read_string, "read_string", "QuestionReading.read_string", defArgs s_QuestionReading_read_string, defBody s_QuestionReading_read_string, defScope s_QuestionReading_read_string, [], []⟩
abbrev s_QuestionReading_read_string_sign : Stmt := inClass (top 14) 9
abbrev N_QuestionReading_read_string_sign : List Str := ["self", "sign"]
abbrev ps_QuestionReading_read_string_sign : List Str := ["self"]
abbrev at_QuestionReading_read_string_sign : Str × Option Str := ("QuestionReading", some "read_string_sign")
theorem sc_QuestionReading_read_string_sign : FnScope N_QuestionReading_read_string_sign ps_QuestionReading_read_string_sign (defScope s_QuestionReading_read_string_sign) := ⟨rfl, rfl, rfl, by decide +kernel, rfl, by decide +kernel, by decide +kernel⟩
def d_QuestionReading_read_string_sign : He.DefD := ⟨at_QuestionReading_read_string_sign, "read_string_sign", "QuestionReading.read_string_sign", defArgs s_QuestionReading_read_string_sign, defBody s_QuestionReading_read_string_sign, defScope s_QuestionReading_read_string_sign, [], []⟩
abbrev s_read_question : Stmt := top 15
abbrev N_read_question : List Str := ["text", "reading", "question"]
abbrev ps_read_question : List Str := ["text"]
abbrev at_read_question : Str × Option Str := ("read_question", none)
theorem sc_read_question : FnScope N_read_question ps_read_question (defScope s_read_question) := ⟨rfl, rfl, rfl, by decide +kernel, rfl, by decide +kernel, by decide +kernel⟩
def d_read_question : He.DefD := ⟨at_read_question, "read_question", "read_question", defArgs s_read_question, defBody s_read_question, defScope s_read_question, [], []⟩
abbrev s__law_mix : Stmt := top 17
abbrev N__law_mix : List Str := ["number", "k"]
abbrev ps__law_mix : List Str := ["number", "k"]
abbrev at__law_mix : Str × Option Str := ("_law_mix", none)
theorem sc__law_mix : FnScope N__law_mix ps__law_mix (defScope s__law_mix) := ⟨rfl, rfl, rfl, by decide +kernel, rfl, by decide +kernel, by decide +kernel⟩
def d__law_mix : He.DefD := ⟨at__law_mix, "_law_mix", "_law_mix", defArgs s__law_mix, defBody s__law_mix, defScope s__law_mix, [], []⟩
abbrev s__law_numbers : Stmt := top 18
abbrev N__law_numbers : List Str := ["script", "count", "row", "base", "cell", "k", "rest"]
abbrev ps__law_numbers : List Str := ["script", "count"]
abbrev at__law_numbers : Str × Option Str := ("_law_numbers", none)
theorem sc__law_numbers : FnScope N__law_numbers ps__law_numbers (defScope s__law_numbers) := ⟨rfl, rfl, rfl, by decide +kernel, rfl, by decide +kernel, by decide +kernel⟩
def d__law_numbers : He.DefD := ⟨at__law_numbers, "_law_numbers", "_law_numbers", defArgs s__law_numbers, defBody s__law_numbers, defScope s__law_numbers, [], []⟩
abbrev s__law_take : Stmt := top 19
abbrev N__law_take : List Str := ["row", "bound"]
abbrev ps__law_take : List Str := ["row", "bound"]
abbrev at__law_take : Str × Option Str := ("_law_take", none)
theorem sc__law_take : FnScope N__law_take ps__law_take (defScope s__law_take) := ⟨rfl, rfl, rfl, by decide +kernel, rfl, by decide +kernel, by decide +kernel⟩
def d__law_take : He.DefD := ⟨at__law_take, "_law_take", "_law_take", defArgs s__law_take, defBody s__law_take, defScope s__law_take, [], []⟩
abbrev s__law_told : Stmt := top 20
abbrev N__law_told : List Str := ["text", "error"]
abbrev ps__law_told : List Str := ["text"]
abbrev at__law_told : Str × Option Str := ("_law_told", none)
theorem sc__law_told : FnScope N__law_told ps__law_told (defScope s__law_told) := ⟨rfl, rfl, rfl, by decide +kernel, rfl, by decide +kernel, by decide +kernel⟩
def d__law_told : He.DefD := ⟨at__law_told, "_law_told", "_law_told", defArgs s__law_told, defBody s__law_told, defScope s__law_told, [], []⟩
abbrev s__law_begun : Stmt := top 21
abbrev N__law_begun : List Str := ["row", "text", "k"]
abbrev ps__law_begun : List Str := ["row"]
abbrev at__law_begun : Str × Option Str := ("_law_begun", none)
theorem sc__law_begun : FnScope N__law_begun ps__law_begun (defScope s__law_begun) := ⟨rfl, rfl, rfl, by decide +kernel, rfl, by decide +kernel, by decide +kernel⟩
def d__law_begun : He.DefD := ⟨at__law_begun, "_law_begun", "_law_begun", defArgs s__law_begun, defBody s__law_begun, defScope s__law_begun, [], []⟩
abbrev s__law_wrong : Stmt := top 22
abbrev N__law_wrong : List Str := ["row", "rows"]
abbrev ps__law_wrong : List Str := ["row"]
abbrev at__law_wrong : Str × Option Str := ("_law_wrong", none)
theorem sc__law_wrong : FnScope N__law_wrong ps__law_wrong (defScope s__law_wrong) := ⟨rfl, rfl, rfl, by decide +kernel, rfl, by decide +kernel, by decide +kernel⟩
def d__law_wrong : He.DefD := ⟨at__law_wrong, "_law_wrong", "_law_wrong", defArgs s__law_wrong, defBody s__law_wrong, defScope s__law_wrong, [], []⟩
abbrev s_law : Stmt := top 23
abbrev N_law : List Str := ["script", "row", "text", "piece", "place", "reason", "other", "column", "word"]
abbrev ps_law : List Str := ["script"]
abbrev at_law : Str × Option Str := ("law", none)
theorem sc_law : FnScope N_law ps_law (defScope s_law) := ⟨rfl, rfl, rfl, by decide +kernel, rfl, by decide +kernel, by decide +kernel⟩
def d_law : He.DefD := ⟨at_law, "law", "law", defArgs s_law, defBody s_law, defScope s_law, [], []⟩
def fn : List He.DefD := [d_InvalidQuestion_init, d_is_letter, d_QuestionReading_init, d_QuestionReading_begins, d_QuestionReading_sign, d_QuestionReading_read_steps, d_QuestionReading_read_step, d_QuestionReading_read_test, d_QuestionReading_read_filter, d_QuestionReading_read_number, d_QuestionReading_read_string, d_QuestionReading_read_string_sign, d_read_question, d__law_mix, d__law_numbers, d__law_take, d__law_told, d__law_begun, d__law_wrong, d_law]
def fa : List He.Fa := [.free "len", .free "range", .free "int", .free "str", .free "ValueError", .glo "TopiaryError", .glo "InvalidQuestion", .noat "InvalidQuestion" "column", .noat "InvalidQuestion" "reason", .glo "QuestionReading", .noat "QuestionReading" "source", .noat "QuestionReading" "reached", .noat "QuestionReading" "many_steps", .cls "QuestionReading", .mkr "QuestionReading", .meth "QuestionReading" "begins", .meth "QuestionReading" "sign", .meth "QuestionReading" "read_steps", .meth "QuestionReading" "read_step", .meth "QuestionReading" "read_test", .meth "QuestionReading" "read_filter", .meth "QuestionReading" "read_number", .meth "QuestionReading" "read_string", .meth "QuestionReading" "read_string_sign", .int "NAME_LETTERS" 12, .int "MOST_STEPS" 12, .int "MOST_NESTED" 3, .int "MOST_PLACE" 5000, .int "STRING_SIGNS" 40, .glo "AXES", .glo "OTHER_TESTS", .glo "ESCAPED", .glo "is_letter", .glo "read_question", .glo "_law_mix", .glo "_law_numbers", .glo "_law_take", .glo "_law_told", .glo "_law_begun", .glo "_law_wrong", .glo "law"]
def fx : List Fx := [.exc "InvalidQuestion", .ini "InvalidQuestion", .xf "InvalidQuestion", .sub "InvalidQuestion" "InvalidQuestion" true, .dvals "AXES" [("child", .str "/"), ("below", .str "//")], .strs "OTHER_TESTS" ["*", "#"], .dvals "ESCAPED" [("\"", .str "\""), ("\\", .str "\\"), ("n", .str "\n")]]
def ts : List He.Tab := [(fun K => He.ga K "AXES", ["child", "below"]), (fun K => He.ga K "ESCAPED", ["\"", "\\", "n"])]
def tf : List He.Defn := []
abbrev TX (K : PySem.W.Frag) (mg : Str → Option Value) : Prop := Txt fa fn fx K mg
theorem TX.n_len {K : PySem.W.Frag} {mg : Str → Option Value} (T : TX K mg) : mg "len" = none := T.no 0 _ rfl
theorem TX.n_range {K : PySem.W.Frag} {mg : Str → Option Value} (T : TX K mg) : mg "range" = none := T.no 1 _ rfl
theorem TX.n_int {K : PySem.W.Frag} {mg : Str → Option Value} (T : TX K mg) : mg "int" = none := T.no 2 _ rfl
theorem TX.n_str {K : PySem.W.Frag} {mg : Str → Option Value} (T : TX K mg) : mg "str" = none := T.no 3 _ rfl
theorem TX.n_ValueError {K : PySem.W.Frag} {mg : Str → Option Value} (T : TX K mg) : mg "ValueError" = none := T.no 4 _ rfl
theorem TX.g_TopiaryError {K : PySem.W.Frag} {mg : Str → Option Value} (T : TX K mg) : mg "TopiaryError" = some (.ref (He.ga K "TopiaryError")) := T.gl 5 _ rfl
theorem TX.g_InvalidQuestion {K : PySem.W.Frag} {mg : Str → Option Value} (T : TX K mg) : mg "InvalidQuestion" = some (.ref (He.ga K "InvalidQuestion")) := T.gl 6 _ rfl
theorem TX.na_InvalidQuestion_column {K : PySem.W.Frag} {mg : Str → Option Value} (T : TX K mg) : NoAttr K (He.ga K "InvalidQuestion") "column" := He.noat_ok (T.f 7 _ rfl)
theorem TX.na_InvalidQuestion_reason {K : PySem.W.Frag} {mg : Str → Option Value} (T : TX K mg) : NoAttr K (He.ga K "InvalidQuestion") "reason" := He.noat_ok (T.f 8 _ rfl)
theorem TX.ox_InvalidQuestion {K : PySem.W.Frag} {mg : Str → Option Value} (T : TX K mg) : OexC K (He.ga K "InvalidQuestion") := excB_ok (T.x 0 _ rfl)
theorem TX.oi_InvalidQuestion {K : PySem.W.Frag} {mg : Str → Option Value} (T : TX K mg) : PySem.W.findIn K (.ref (He.ga K "InvalidQuestion")) "__init__" = some (some (.ref (He.ma K (He.ga K "InvalidQuestion") "__init__"))) := (iniB_ok (T.x 1 _ rfl)).1
theorem TX.ot_InvalidQuestion {K : PySem.W.Frag} {mg : Str → Option Value} (T : TX K mg) : PySem.W.typeIn K (.ref (He.ma K (He.ga K "InvalidQuestion") "__init__")) = some (.type "function") := (iniB_ok (T.x 1 _ rfl)).2
theorem TX.g_QuestionReading {K : PySem.W.Frag} {mg : Str → Option Value} (T : TX K mg) : mg "QuestionReading" = some (.ref (He.ga K "QuestionReading")) := T.gl 9 _ rfl
theorem TX.na_QuestionReading_source {K : PySem.W.Frag} {mg : Str → Option Value} (T : TX K mg) : NoAttr K (He.ga K "QuestionReading") "source" := He.noat_ok (T.f 10 _ rfl)
theorem TX.na_QuestionReading_reached {K : PySem.W.Frag} {mg : Str → Option Value} (T : TX K mg) : NoAttr K (He.ga K "QuestionReading") "reached" := He.noat_ok (T.f 11 _ rfl)
theorem TX.na_QuestionReading_many_steps {K : PySem.W.Frag} {mg : Str → Option Value} (T : TX K mg) : NoAttr K (He.ga K "QuestionReading") "many_steps" := He.noat_ok (T.f 12 _ rfl)
abbrev flds_QuestionReading (a0 a1 a2 : V) : List (Str × V) := [("source", a0), ("reached", a1), ("many_steps", a2)]
theorem fl_QuestionReading_source (a0 a1 a2 : V) : (flds_QuestionReading a0 a1 a2).lookup ("source" : Str) = some a0 := fld_at (ks := ["source", "reached", "many_steps"]) 0 rfl rfl (by decide +kernel)
theorem pf_QuestionReading_reached (a0 x : V) : putF "reached" x ([("source", a0)] : List (Str × V)) = ([("source", a0), ("reached", x)] : List (Str × V)) := putF_app (ks := ["source"]) rfl (by decide +kernel)
theorem fl_QuestionReading_reached (a0 a1 a2 : V) : (flds_QuestionReading a0 a1 a2).lookup ("reached" : Str) = some a1 := fld_at (ks := ["source", "reached", "many_steps"]) 1 rfl rfl (by decide +kernel)
theorem pf_QuestionReading_many_steps (a0 a1 x : V) : putF "many_steps" x ([("source", a0), ("reached", a1)] : List (Str × V)) = ([("source", a0), ("reached", a1), ("many_steps", x)] : List (Str × V)) := putF_app (ks := ["source", "reached"]) rfl (by decide +kernel)
theorem fl_QuestionReading_many_steps (a0 a1 a2 : V) : (flds_QuestionReading a0 a1 a2).lookup ("many_steps" : Str) = some a2 := fld_at (ks := ["source", "reached", "many_steps"]) 2 rfl rfl (by decide +kernel)
theorem fn_QuestionReading_begins (a0 a1 a2 : V) : (flds_QuestionReading a0 a1 a2).lookup ("begins" : Str) = none := fld_no (ks := ["source", "reached", "many_steps"]) rfl (by decide +kernel)
theorem fn_QuestionReading_sign (a0 a1 a2 : V) : (flds_QuestionReading a0 a1 a2).lookup ("sign" : Str) = none := fld_no (ks := ["source", "reached", "many_steps"]) rfl (by decide +kernel)
theorem fn_QuestionReading_read_steps (a0 a1 a2 : V) : (flds_QuestionReading a0 a1 a2).lookup ("read_steps" : Str) = none := fld_no (ks := ["source", "reached", "many_steps"]) rfl (by decide +kernel)
theorem fn_QuestionReading_read_step (a0 a1 a2 : V) : (flds_QuestionReading a0 a1 a2).lookup ("read_step" : Str) = none := fld_no (ks := ["source", "reached", "many_steps"]) rfl (by decide +kernel)
theorem fn_QuestionReading_read_test (a0 a1 a2 : V) : (flds_QuestionReading a0 a1 a2).lookup ("read_test" : Str) = none := fld_no (ks := ["source", "reached", "many_steps"]) rfl (by decide +kernel)
theorem fn_QuestionReading_read_filter (a0 a1 a2 : V) : (flds_QuestionReading a0 a1 a2).lookup ("read_filter" : Str) = none := fld_no (ks := ["source", "reached", "many_steps"]) rfl (by decide +kernel)
theorem fn_QuestionReading_read_number (a0 a1 a2 : V) : (flds_QuestionReading a0 a1 a2).lookup ("read_number" : Str) = none := fld_no (ks := ["source", "reached", "many_steps"]) rfl (by decide +kernel)
theorem fn_QuestionReading_read_string (a0 a1 a2 : V) : (flds_QuestionReading a0 a1 a2).lookup ("read_string" : Str) = none := fld_no (ks := ["source", "reached", "many_steps"]) rfl (by decide +kernel)
theorem fn_QuestionReading_read_string_sign (a0 a1 a2 : V) : (flds_QuestionReading a0 a1 a2).lookup ("read_string_sign" : Str) = none := fld_no (ks := ["source", "reached", "many_steps"]) rfl (by decide +kernel)
theorem TX.cl_QuestionReading {K : PySem.W.Frag} {mg : Str → Option Value} (T : TX K mg) : Cls K (He.ga K "QuestionReading") := He.cls_ok (T.f 13 _ rfl)
theorem TX.m_QuestionReading {K : PySem.W.Frag} {mg : Str → Option Value} (T : TX K mg) : Mk K (He.ga K "QuestionReading") (He.ma K (He.ga K "QuestionReading") "__init__") := He.mkr_ok (T.f 14 _ rfl)
theorem TX.me_QuestionReading_begins {K : PySem.W.Frag} {mg : Str → Option Value} (T : TX K mg) : Meth K (He.ga K "QuestionReading") "begins" (He.ma K (He.ga K "QuestionReading") "begins") := He.meth_ok (T.f 15 _ rfl)
theorem TX.me_QuestionReading_sign {K : PySem.W.Frag} {mg : Str → Option Value} (T : TX K mg) : Meth K (He.ga K "QuestionReading") "sign" (He.ma K (He.ga K "QuestionReading") "sign") := He.meth_ok (T.f 16 _ rfl)
theorem TX.me_QuestionReading_read_steps {K : PySem.W.Frag} {mg : Str → Option Value} (T : TX K mg) : Meth K (He.ga K "QuestionReading") "read_steps" (He.ma K (He.ga K "QuestionReading") "read_steps") := He.meth_ok (T.f 17 _ rfl)
theorem TX.me_QuestionReading_read_step {K : PySem.W.Frag} {mg : Str → Option Value} (T : TX K mg) : Meth K (He.ga K "QuestionReading") "read_step" (He.ma K (He.ga K "QuestionReading") "read_step") := He.meth_ok (T.f 18 _ rfl)
theorem TX.me_QuestionReading_read_test {K : PySem.W.Frag} {mg : Str → Option Value} (T : TX K mg) : Meth K (He.ga K "QuestionReading") "read_test" (He.ma K (He.ga K "QuestionReading") "read_test") := He.meth_ok (T.f 19 _ rfl)
theorem TX.me_QuestionReading_read_filter {K : PySem.W.Frag} {mg : Str → Option Value} (T : TX K mg) : Meth K (He.ga K "QuestionReading") "read_filter" (He.ma K (He.ga K "QuestionReading") "read_filter") := He.meth_ok (T.f 20 _ rfl)
theorem TX.me_QuestionReading_read_number {K : PySem.W.Frag} {mg : Str → Option Value} (T : TX K mg) : Meth K (He.ga K "QuestionReading") "read_number" (He.ma K (He.ga K "QuestionReading") "read_number") := He.meth_ok (T.f 21 _ rfl)
theorem TX.me_QuestionReading_read_string {K : PySem.W.Frag} {mg : Str → Option Value} (T : TX K mg) : Meth K (He.ga K "QuestionReading") "read_string" (He.ma K (He.ga K "QuestionReading") "read_string") := He.meth_ok (T.f 22 _ rfl)
theorem TX.me_QuestionReading_read_string_sign {K : PySem.W.Frag} {mg : Str → Option Value} (T : TX K mg) : Meth K (He.ga K "QuestionReading") "read_string_sign" (He.ma K (He.ga K "QuestionReading") "read_string_sign") := He.meth_ok (T.f 23 _ rfl)
theorem TX.xf_InvalidQuestion {K : PySem.W.Frag} {mg : Str → Option Value} (T : TX K mg) : XfC K (He.ga K "InvalidQuestion") := xfB_ok (T.x 2 _ rfl)
theorem TX.ex_InvalidQuestion_InvalidQuestion {K : PySem.W.Frag} {mg : Str → Option Value} (T : TX K mg) : PySem.W.exmOne K (.ref (He.ga K "InvalidQuestion")) (.ref (He.ga K "InvalidQuestion")) = some true := of_decide_eq_true (T.x 3 _ rfl)
theorem TX.c_NAME_LETTERS {K : PySem.W.Frag} {mg : Str → Option Value} (T : TX K mg) : ∃ t, mg "NAME_LETTERS" = some (.int 12 t) := T.int 24 _ _ rfl
theorem TX.c_MOST_STEPS {K : PySem.W.Frag} {mg : Str → Option Value} (T : TX K mg) : ∃ t, mg "MOST_STEPS" = some (.int 12 t) := T.int 25 _ _ rfl
theorem TX.c_MOST_NESTED {K : PySem.W.Frag} {mg : Str → Option Value} (T : TX K mg) : ∃ t, mg "MOST_NESTED" = some (.int 3 t) := T.int 26 _ _ rfl
theorem TX.c_MOST_PLACE {K : PySem.W.Frag} {mg : Str → Option Value} (T : TX K mg) : ∃ t, mg "MOST_PLACE" = some (.int 5000 t) := T.int 27 _ _ rfl
theorem TX.c_STRING_SIGNS {K : PySem.W.Frag} {mg : Str → Option Value} (T : TX K mg) : ∃ t, mg "STRING_SIGNS" = some (.int 40 t) := T.int 28 _ _ rfl
theorem TX.g_AXES {K : PySem.W.Frag} {mg : Str → Option Value} (T : TX K mg) : mg "AXES" = some (.ref (He.ga K "AXES")) := T.gl 29 _ rfl
theorem TX.dv_AXES {K : PySem.W.Frag} {mg : Str → Option Value} (T : TX K mg) {p : Str × He.Dv} (h : p ∈ ([("child", .str "/"), ("below", .str "//")] : List (Str × He.Dv))) : ∃ u, PySem.W.nsIn K (He.ga K "AXES") p.1 = some (some u) ∧ RelV (p.2.v K) u := He.valsB_ok (T.x 4 _ rfl) h
theorem dk_AXES {w : World} {K : PySem.W.Frag} (D : Dics ts w K) : ∃ es n, KDict K w (He.ga K "AXES") es n := He.dicW_ok (D 0 _ rfl)
theorem dn_AXES {w : World} {K : PySem.W.Frag} (D : Dics ts w K) {x : Str} (h : x ∉ (["child", "below"] : List Str)) : PySem.W.nsIn K (He.ga K "AXES") x = some none := dic_no (D 0 _ rfl) h
theorem TX.g_OTHER_TESTS {K : PySem.W.Frag} {mg : Str → Option Value} (T : TX K mg) : mg "OTHER_TESTS" = some (.ref (He.ga K "OTHER_TESTS")) := T.gl 30 _ rfl
theorem TX.st_OTHER_TESTS {K : PySem.W.Frag} {mg : Str → Option Value} (T : TX K mg) (H : Hp) : SqT K H (He.ga K "OTHER_TESTS") ((["*", "#"] : List Str).map V.str) := strsB_ok (T.x 5 _ rfl) H
theorem TX.g_ESCAPED {K : PySem.W.Frag} {mg : Str → Option Value} (T : TX K mg) : mg "ESCAPED" = some (.ref (He.ga K "ESCAPED")) := T.gl 31 _ rfl
theorem TX.dv_ESCAPED {K : PySem.W.Frag} {mg : Str → Option Value} (T : TX K mg) {p : Str × He.Dv} (h : p ∈ ([("\"", .str "\""), ("\\", .str "\\"), ("n", .str "\n")] : List (Str × He.Dv))) : ∃ u, PySem.W.nsIn K (He.ga K "ESCAPED") p.1 = some (some u) ∧ RelV (p.2.v K) u := He.valsB_ok (T.x 6 _ rfl) h
theorem dk_ESCAPED {w : World} {K : PySem.W.Frag} (D : Dics ts w K) : ∃ es n, KDict K w (He.ga K "ESCAPED") es n := He.dicW_ok (D 1 _ rfl)
theorem dn_ESCAPED {w : World} {K : PySem.W.Frag} (D : Dics ts w K) {x : Str} (h : x ∉ (["\"", "\\", "n"] : List Str)) : PySem.W.nsIn K (He.ga K "ESCAPED") x = some none := dic_no (D 1 _ rfl) h
theorem TX.k_InvalidQuestion_init {K : PySem.W.Frag} {mg : Str → Option Value} (T : TX K mg) : PySem.W.keepIn K (.ref (He.fAd K at_InvalidQuestion_init)) = true := (T.d 0 _ rfl).choose_spec.kp
theorem TX.g_is_letter {K : PySem.W.Frag} {mg : Str → Option Value} (T : TX K mg) : mg "is_letter" = some (.ref (He.ga K "is_letter")) := T.gl 32 _ rfl
theorem TX.k_is_letter {K : PySem.W.Frag} {mg : Str → Option Value} (T : TX K mg) : PySem.W.keepIn K (.ref (He.fAd K at_is_letter)) = true := (T.d 1 _ rfl).choose_spec.kp
theorem TX.k_QuestionReading_init {K : PySem.W.Frag} {mg : Str → Option Value} (T : TX K mg) : PySem.W.keepIn K (.ref (He.fAd K at_QuestionReading_init)) = true := (T.d 2 _ rfl).choose_spec.kp
theorem TX.k_QuestionReading_begins {K : PySem.W.Frag} {mg : Str → Option Value} (T : TX K mg) : PySem.W.keepIn K (.ref (He.fAd K at_QuestionReading_begins)) = true := (T.d 3 _ rfl).choose_spec.kp
theorem TX.k_QuestionReading_sign {K : PySem.W.Frag} {mg : Str → Option Value} (T : TX K mg) : PySem.W.keepIn K (.ref (He.fAd K at_QuestionReading_sign)) = true := (T.d 4 _ rfl).choose_spec.kp
theorem TX.k_QuestionReading_read_steps {K : PySem.W.Frag} {mg : Str → Option Value} (T : TX K mg) : PySem.W.keepIn K (.ref (He.fAd K at_QuestionReading_read_steps)) = true := (T.d 5 _ rfl).choose_spec.kp
theorem TX.k_QuestionReading_read_step {K : PySem.W.Frag} {mg : Str → Option Value} (T : TX K mg) : PySem.W.keepIn K (.ref (He.fAd K at_QuestionReading_read_step)) = true := (T.d 6 _ rfl).choose_spec.kp
theorem TX.k_QuestionReading_read_test {K : PySem.W.Frag} {mg : Str → Option Value} (T : TX K mg) : PySem.W.keepIn K (.ref (He.fAd K at_QuestionReading_read_test)) = true := (T.d 7 _ rfl).choose_spec.kp
theorem TX.k_QuestionReading_read_filter {K : PySem.W.Frag} {mg : Str → Option Value} (T : TX K mg) : PySem.W.keepIn K (.ref (He.fAd K at_QuestionReading_read_filter)) = true := (T.d 8 _ rfl).choose_spec.kp
theorem TX.k_QuestionReading_read_number {K : PySem.W.Frag} {mg : Str → Option Value} (T : TX K mg) : PySem.W.keepIn K (.ref (He.fAd K at_QuestionReading_read_number)) = true := (T.d 9 _ rfl).choose_spec.kp
theorem TX.k_QuestionReading_read_string {K : PySem.W.Frag} {mg : Str → Option Value} (T : TX K mg) : PySem.W.keepIn K (.ref (He.fAd K at_QuestionReading_read_string)) = true := (T.d 10 _ rfl).choose_spec.kp
theorem TX.k_QuestionReading_read_string_sign {K : PySem.W.Frag} {mg : Str → Option Value} (T : TX K mg) : PySem.W.keepIn K (.ref (He.fAd K at_QuestionReading_read_string_sign)) = true := (T.d 11 _ rfl).choose_spec.kp
theorem TX.g_read_question {K : PySem.W.Frag} {mg : Str → Option Value} (T : TX K mg) : mg "read_question" = some (.ref (He.ga K "read_question")) := T.gl 33 _ rfl
theorem TX.k_read_question {K : PySem.W.Frag} {mg : Str → Option Value} (T : TX K mg) : PySem.W.keepIn K (.ref (He.fAd K at_read_question)) = true := (T.d 12 _ rfl).choose_spec.kp
theorem TX.g__law_mix {K : PySem.W.Frag} {mg : Str → Option Value} (T : TX K mg) : mg "_law_mix" = some (.ref (He.ga K "_law_mix")) := T.gl 34 _ rfl
theorem TX.k__law_mix {K : PySem.W.Frag} {mg : Str → Option Value} (T : TX K mg) : PySem.W.keepIn K (.ref (He.fAd K at__law_mix)) = true := (T.d 13 _ rfl).choose_spec.kp
theorem TX.g__law_numbers {K : PySem.W.Frag} {mg : Str → Option Value} (T : TX K mg) : mg "_law_numbers" = some (.ref (He.ga K "_law_numbers")) := T.gl 35 _ rfl
theorem TX.k__law_numbers {K : PySem.W.Frag} {mg : Str → Option Value} (T : TX K mg) : PySem.W.keepIn K (.ref (He.fAd K at__law_numbers)) = true := (T.d 14 _ rfl).choose_spec.kp
theorem TX.g__law_take {K : PySem.W.Frag} {mg : Str → Option Value} (T : TX K mg) : mg "_law_take" = some (.ref (He.ga K "_law_take")) := T.gl 36 _ rfl
theorem TX.k__law_take {K : PySem.W.Frag} {mg : Str → Option Value} (T : TX K mg) : PySem.W.keepIn K (.ref (He.fAd K at__law_take)) = true := (T.d 15 _ rfl).choose_spec.kp
theorem TX.g__law_told {K : PySem.W.Frag} {mg : Str → Option Value} (T : TX K mg) : mg "_law_told" = some (.ref (He.ga K "_law_told")) := T.gl 37 _ rfl
theorem TX.k__law_told {K : PySem.W.Frag} {mg : Str → Option Value} (T : TX K mg) : PySem.W.keepIn K (.ref (He.fAd K at__law_told)) = true := (T.d 16 _ rfl).choose_spec.kp
theorem TX.g__law_begun {K : PySem.W.Frag} {mg : Str → Option Value} (T : TX K mg) : mg "_law_begun" = some (.ref (He.ga K "_law_begun")) := T.gl 38 _ rfl
theorem TX.k__law_begun {K : PySem.W.Frag} {mg : Str → Option Value} (T : TX K mg) : PySem.W.keepIn K (.ref (He.fAd K at__law_begun)) = true := (T.d 17 _ rfl).choose_spec.kp
theorem TX.g__law_wrong {K : PySem.W.Frag} {mg : Str → Option Value} (T : TX K mg) : mg "_law_wrong" = some (.ref (He.ga K "_law_wrong")) := T.gl 39 _ rfl
theorem TX.k__law_wrong {K : PySem.W.Frag} {mg : Str → Option Value} (T : TX K mg) : PySem.W.keepIn K (.ref (He.fAd K at__law_wrong)) = true := (T.d 18 _ rfl).choose_spec.kp
theorem TX.g_law {K : PySem.W.Frag} {mg : Str → Option Value} (T : TX K mg) : mg "law" = some (.ref (He.ga K "law")) := T.gl 40 _ rfl
theorem TX.k_law {K : PySem.W.Frag} {mg : Str → Option Value} (T : TX K mg) : PySem.W.keepIn K (.ref (He.fAd K at_law)) = true := (T.d 19 _ rfl).choose_spec.kp
theorem mk_InvalidQuestion_init {P : Program} {w : World} {K : PySem.W.Frag} {mg : Str → Option Value} {base : Heap} {CX : CXT} {k : Nat} {sp : Sp} (T : TX K mg) (h : ∀ fd, FunD K "__init__" "InvalidQuestion.__init__" (defArgs s_InvalidQuestion_init) (defBody s_InvalidQuestion_init) (defScope s_InvalidQuestion_init) [] [] (He.fAd K at_InvalidQuestion_init) fd → FnOk P w K mg base CX k (He.fAd K at_InvalidQuestion_init) fd ps_InvalidQuestion_init sp) :
    Can P w K mg base CX k (He.fAd K at_InvalidQuestion_init) ps_InvalidQuestion_init [] sp := by
  obtain ⟨fd, F⟩ := T.d 0 _ rfl
  exact ⟨fd, h fd F, [], .nil, FunD.bindsN F fun _ _ _ _ _ _ us hl => match us, hl with | [_, _, _], _ => rfl⟩
theorem mk_is_letter {P : Program} {w : World} {K : PySem.W.Frag} {mg : Str → Option Value} {base : Heap} {CX : CXT} {k : Nat} {sp : Sp} (T : TX K mg) (h : ∀ fd, FunD K "is_letter" "is_letter" (defArgs s_is_letter) (defBody s_is_letter) (defScope s_is_letter) [] [] (He.fAd K at_is_letter) fd → FnOk P w K mg base CX k (He.fAd K at_is_letter) fd ps_is_letter sp) :
    Can P w K mg base CX k (He.fAd K at_is_letter) ps_is_letter [] sp := by
  obtain ⟨fd, F⟩ := T.d 1 _ rfl
  exact ⟨fd, h fd F, [], .nil, FunD.bindsN F fun _ _ _ _ _ _ us hl => match us, hl with | [_], _ => rfl⟩
theorem mk_QuestionReading_init {P : Program} {w : World} {K : PySem.W.Frag} {mg : Str → Option Value} {base : Heap} {CX : CXT} {k : Nat} {sp : Sp} (T : TX K mg) (h : ∀ fd, FunD K "__init__" "QuestionReading.__init__" (defArgs s_QuestionReading_init) (defBody s_QuestionReading_init) (defScope s_QuestionReading_init) [] [] (He.fAd K at_QuestionReading_init) fd → FnOk P w K mg base CX k (He.fAd K at_QuestionReading_init) fd ps_QuestionReading_init sp) :
    Can P w K mg base CX k (He.fAd K at_QuestionReading_init) ps_QuestionReading_init [] sp := by
  obtain ⟨fd, F⟩ := T.d 2 _ rfl
  exact ⟨fd, h fd F, [], .nil, FunD.bindsN F fun _ _ _ _ _ _ us hl => match us, hl with | [_, _], _ => rfl⟩
theorem mk_QuestionReading_begins {P : Program} {w : World} {K : PySem.W.Frag} {mg : Str → Option Value} {base : Heap} {CX : CXT} {k : Nat} {sp : Sp} (T : TX K mg) (h : ∀ fd, FunD K "begins" "QuestionReading.begins" (defArgs s_QuestionReading_begins) (defBody s_QuestionReading_begins) (defScope s_QuestionReading_begins) [] [] (He.fAd K at_QuestionReading_begins) fd → FnOk P w K mg base CX k (He.fAd K at_QuestionReading_begins) fd ps_QuestionReading_begins sp) :
    Can P w K mg base CX k (He.fAd K at_QuestionReading_begins) ps_QuestionReading_begins [] sp := by
  obtain ⟨fd, F⟩ := T.d 3 _ rfl
  exact ⟨fd, h fd F, [], .nil, FunD.bindsN F fun _ _ _ _ _ _ us hl => match us, hl with | [_, _], _ => rfl⟩
theorem mk_QuestionReading_sign {P : Program} {w : World} {K : PySem.W.Frag} {mg : Str → Option Value} {base : Heap} {CX : CXT} {k : Nat} {sp : Sp} (T : TX K mg) (h : ∀ fd, FunD K "sign" "QuestionReading.sign" (defArgs s_QuestionReading_sign) (defBody s_QuestionReading_sign) (defScope s_QuestionReading_sign) [] [] (He.fAd K at_QuestionReading_sign) fd → FnOk P w K mg base CX k (He.fAd K at_QuestionReading_sign) fd ps_QuestionReading_sign sp) :
    Can P w K mg base CX k (He.fAd K at_QuestionReading_sign) ps_QuestionReading_sign [] sp := by
  obtain ⟨fd, F⟩ := T.d 4 _ rfl
  exact ⟨fd, h fd F, [], .nil, FunD.bindsN F fun _ _ _ _ _ _ us hl => match us, hl with | [_], _ => rfl⟩
theorem mk_QuestionReading_read_steps {P : Program} {w : World} {K : PySem.W.Frag} {mg : Str → Option Value} {base : Heap} {CX : CXT} {k : Nat} {sp : Sp} (T : TX K mg) (h : ∀ fd, FunD K "read_steps" "QuestionReading.read_steps" (defArgs s_QuestionReading_read_steps) (defBody s_QuestionReading_read_steps) (defScope s_QuestionReading_read_steps) [] [] (He.fAd K at_QuestionReading_read_steps) fd → FnOk P w K mg base CX k (He.fAd K at_QuestionReading_read_steps) fd ps_QuestionReading_read_steps sp) :
    Can P w K mg base CX k (He.fAd K at_QuestionReading_read_steps) ps_QuestionReading_read_steps [] sp := by
  obtain ⟨fd, F⟩ := T.d 5 _ rfl
  exact ⟨fd, h fd F, [], .nil, FunD.bindsN F fun _ _ _ _ _ _ us hl => match us, hl with | [_, _], _ => rfl⟩
theorem mk_QuestionReading_read_step {P : Program} {w : World} {K : PySem.W.Frag} {mg : Str → Option Value} {base : Heap} {CX : CXT} {k : Nat} {sp : Sp} (T : TX K mg) (h : ∀ fd, FunD K "read_step" "QuestionReading.read_step" (defArgs s_QuestionReading_read_step) (defBody s_QuestionReading_read_step) (defScope s_QuestionReading_read_step) [] [] (He.fAd K at_QuestionReading_read_step) fd → FnOk P w K mg base CX k (He.fAd K at_QuestionReading_read_step) fd ps_QuestionReading_read_step sp) :
    Can P w K mg base CX k (He.fAd K at_QuestionReading_read_step) ps_QuestionReading_read_step [] sp := by
  obtain ⟨fd, F⟩ := T.d 6 _ rfl
  exact ⟨fd, h fd F, [], .nil, FunD.bindsN F fun _ _ _ _ _ _ us hl => match us, hl with | [_, _], _ => rfl⟩
theorem mk_QuestionReading_read_test {P : Program} {w : World} {K : PySem.W.Frag} {mg : Str → Option Value} {base : Heap} {CX : CXT} {k : Nat} {sp : Sp} (T : TX K mg) (h : ∀ fd, FunD K "read_test" "QuestionReading.read_test" (defArgs s_QuestionReading_read_test) (defBody s_QuestionReading_read_test) (defScope s_QuestionReading_read_test) [] [] (He.fAd K at_QuestionReading_read_test) fd → FnOk P w K mg base CX k (He.fAd K at_QuestionReading_read_test) fd ps_QuestionReading_read_test sp) :
    Can P w K mg base CX k (He.fAd K at_QuestionReading_read_test) ps_QuestionReading_read_test [] sp := by
  obtain ⟨fd, F⟩ := T.d 7 _ rfl
  exact ⟨fd, h fd F, [], .nil, FunD.bindsN F fun _ _ _ _ _ _ us hl => match us, hl with | [_], _ => rfl⟩
theorem mk_QuestionReading_read_filter {P : Program} {w : World} {K : PySem.W.Frag} {mg : Str → Option Value} {base : Heap} {CX : CXT} {k : Nat} {sp : Sp} (T : TX K mg) (h : ∀ fd, FunD K "read_filter" "QuestionReading.read_filter" (defArgs s_QuestionReading_read_filter) (defBody s_QuestionReading_read_filter) (defScope s_QuestionReading_read_filter) [] [] (He.fAd K at_QuestionReading_read_filter) fd → FnOk P w K mg base CX k (He.fAd K at_QuestionReading_read_filter) fd ps_QuestionReading_read_filter sp) :
    Can P w K mg base CX k (He.fAd K at_QuestionReading_read_filter) ps_QuestionReading_read_filter [] sp := by
  obtain ⟨fd, F⟩ := T.d 8 _ rfl
  exact ⟨fd, h fd F, [], .nil, FunD.bindsN F fun _ _ _ _ _ _ us hl => match us, hl with | [_, _, _], _ => rfl⟩
theorem mk_QuestionReading_read_number {P : Program} {w : World} {K : PySem.W.Frag} {mg : Str → Option Value} {base : Heap} {CX : CXT} {k : Nat} {sp : Sp} (T : TX K mg) (h : ∀ fd, FunD K "read_number" "QuestionReading.read_number" (defArgs s_QuestionReading_read_number) (defBody s_QuestionReading_read_number) (defScope s_QuestionReading_read_number) [] [] (He.fAd K at_QuestionReading_read_number) fd → FnOk P w K mg base CX k (He.fAd K at_QuestionReading_read_number) fd ps_QuestionReading_read_number sp) :
    Can P w K mg base CX k (He.fAd K at_QuestionReading_read_number) ps_QuestionReading_read_number [] sp := by
  obtain ⟨fd, F⟩ := T.d 9 _ rfl
  exact ⟨fd, h fd F, [], .nil, FunD.bindsN F fun _ _ _ _ _ _ us hl => match us, hl with | [_, _], _ => rfl⟩
theorem mk_QuestionReading_read_string {P : Program} {w : World} {K : PySem.W.Frag} {mg : Str → Option Value} {base : Heap} {CX : CXT} {k : Nat} {sp : Sp} (T : TX K mg) (h : ∀ fd, FunD K "read_string" "QuestionReading.read_string" (defArgs s_QuestionReading_read_string) (defBody s_QuestionReading_read_string) (defScope s_QuestionReading_read_string) [] [] (He.fAd K at_QuestionReading_read_string) fd → FnOk P w K mg base CX k (He.fAd K at_QuestionReading_read_string) fd ps_QuestionReading_read_string sp) :
    Can P w K mg base CX k (He.fAd K at_QuestionReading_read_string) ps_QuestionReading_read_string [] sp := by
  obtain ⟨fd, F⟩ := T.d 10 _ rfl
  exact ⟨fd, h fd F, [], .nil, FunD.bindsN F fun _ _ _ _ _ _ us hl => match us, hl with | [_], _ => rfl⟩
theorem mk_QuestionReading_read_string_sign {P : Program} {w : World} {K : PySem.W.Frag} {mg : Str → Option Value} {base : Heap} {CX : CXT} {k : Nat} {sp : Sp} (T : TX K mg) (h : ∀ fd, FunD K "read_string_sign" "QuestionReading.read_string_sign" (defArgs s_QuestionReading_read_string_sign) (defBody s_QuestionReading_read_string_sign) (defScope s_QuestionReading_read_string_sign) [] [] (He.fAd K at_QuestionReading_read_string_sign) fd → FnOk P w K mg base CX k (He.fAd K at_QuestionReading_read_string_sign) fd ps_QuestionReading_read_string_sign sp) :
    Can P w K mg base CX k (He.fAd K at_QuestionReading_read_string_sign) ps_QuestionReading_read_string_sign [] sp := by
  obtain ⟨fd, F⟩ := T.d 11 _ rfl
  exact ⟨fd, h fd F, [], .nil, FunD.bindsN F fun _ _ _ _ _ _ us hl => match us, hl with | [_], _ => rfl⟩
theorem mk_read_question {P : Program} {w : World} {K : PySem.W.Frag} {mg : Str → Option Value} {base : Heap} {CX : CXT} {k : Nat} {sp : Sp} (T : TX K mg) (h : ∀ fd, FunD K "read_question" "read_question" (defArgs s_read_question) (defBody s_read_question) (defScope s_read_question) [] [] (He.fAd K at_read_question) fd → FnOk P w K mg base CX k (He.fAd K at_read_question) fd ps_read_question sp) :
    Can P w K mg base CX k (He.fAd K at_read_question) ps_read_question [] sp := by
  obtain ⟨fd, F⟩ := T.d 12 _ rfl
  exact ⟨fd, h fd F, [], .nil, FunD.bindsN F fun _ _ _ _ _ _ us hl => match us, hl with | [_], _ => rfl⟩
theorem mk__law_mix {P : Program} {w : World} {K : PySem.W.Frag} {mg : Str → Option Value} {base : Heap} {CX : CXT} {k : Nat} {sp : Sp} (T : TX K mg) (h : ∀ fd, FunD K "_law_mix" "_law_mix" (defArgs s__law_mix) (defBody s__law_mix) (defScope s__law_mix) [] [] (He.fAd K at__law_mix) fd → FnOk P w K mg base CX k (He.fAd K at__law_mix) fd ps__law_mix sp) :
    Can P w K mg base CX k (He.fAd K at__law_mix) ps__law_mix [] sp := by
  obtain ⟨fd, F⟩ := T.d 13 _ rfl
  exact ⟨fd, h fd F, [], .nil, FunD.bindsN F fun _ _ _ _ _ _ us hl => match us, hl with | [_, _], _ => rfl⟩
theorem mk__law_numbers {P : Program} {w : World} {K : PySem.W.Frag} {mg : Str → Option Value} {base : Heap} {CX : CXT} {k : Nat} {sp : Sp} (T : TX K mg) (h : ∀ fd, FunD K "_law_numbers" "_law_numbers" (defArgs s__law_numbers) (defBody s__law_numbers) (defScope s__law_numbers) [] [] (He.fAd K at__law_numbers) fd → FnOk P w K mg base CX k (He.fAd K at__law_numbers) fd ps__law_numbers sp) :
    Can P w K mg base CX k (He.fAd K at__law_numbers) ps__law_numbers [] sp := by
  obtain ⟨fd, F⟩ := T.d 14 _ rfl
  exact ⟨fd, h fd F, [], .nil, FunD.bindsN F fun _ _ _ _ _ _ us hl => match us, hl with | [_, _], _ => rfl⟩
theorem mk__law_take {P : Program} {w : World} {K : PySem.W.Frag} {mg : Str → Option Value} {base : Heap} {CX : CXT} {k : Nat} {sp : Sp} (T : TX K mg) (h : ∀ fd, FunD K "_law_take" "_law_take" (defArgs s__law_take) (defBody s__law_take) (defScope s__law_take) [] [] (He.fAd K at__law_take) fd → FnOk P w K mg base CX k (He.fAd K at__law_take) fd ps__law_take sp) :
    Can P w K mg base CX k (He.fAd K at__law_take) ps__law_take [] sp := by
  obtain ⟨fd, F⟩ := T.d 15 _ rfl
  exact ⟨fd, h fd F, [], .nil, FunD.bindsN F fun _ _ _ _ _ _ us hl => match us, hl with | [_, _], _ => rfl⟩
theorem mk__law_told {P : Program} {w : World} {K : PySem.W.Frag} {mg : Str → Option Value} {base : Heap} {CX : CXT} {k : Nat} {sp : Sp} (T : TX K mg) (h : ∀ fd, FunD K "_law_told" "_law_told" (defArgs s__law_told) (defBody s__law_told) (defScope s__law_told) [] [] (He.fAd K at__law_told) fd → FnOk P w K mg base CX k (He.fAd K at__law_told) fd ps__law_told sp) :
    Can P w K mg base CX k (He.fAd K at__law_told) ps__law_told [] sp := by
  obtain ⟨fd, F⟩ := T.d 16 _ rfl
  exact ⟨fd, h fd F, [], .nil, FunD.bindsN F fun _ _ _ _ _ _ us hl => match us, hl with | [_], _ => rfl⟩
theorem mk__law_begun {P : Program} {w : World} {K : PySem.W.Frag} {mg : Str → Option Value} {base : Heap} {CX : CXT} {k : Nat} {sp : Sp} (T : TX K mg) (h : ∀ fd, FunD K "_law_begun" "_law_begun" (defArgs s__law_begun) (defBody s__law_begun) (defScope s__law_begun) [] [] (He.fAd K at__law_begun) fd → FnOk P w K mg base CX k (He.fAd K at__law_begun) fd ps__law_begun sp) :
    Can P w K mg base CX k (He.fAd K at__law_begun) ps__law_begun [] sp := by
  obtain ⟨fd, F⟩ := T.d 17 _ rfl
  exact ⟨fd, h fd F, [], .nil, FunD.bindsN F fun _ _ _ _ _ _ us hl => match us, hl with | [_], _ => rfl⟩
theorem mk__law_wrong {P : Program} {w : World} {K : PySem.W.Frag} {mg : Str → Option Value} {base : Heap} {CX : CXT} {k : Nat} {sp : Sp} (T : TX K mg) (h : ∀ fd, FunD K "_law_wrong" "_law_wrong" (defArgs s__law_wrong) (defBody s__law_wrong) (defScope s__law_wrong) [] [] (He.fAd K at__law_wrong) fd → FnOk P w K mg base CX k (He.fAd K at__law_wrong) fd ps__law_wrong sp) :
    Can P w K mg base CX k (He.fAd K at__law_wrong) ps__law_wrong [] sp := by
  obtain ⟨fd, F⟩ := T.d 18 _ rfl
  exact ⟨fd, h fd F, [], .nil, FunD.bindsN F fun _ _ _ _ _ _ us hl => match us, hl with | [_], _ => rfl⟩
theorem mk_law {P : Program} {w : World} {K : PySem.W.Frag} {mg : Str → Option Value} {base : Heap} {CX : CXT} {k : Nat} {sp : Sp} (T : TX K mg) (h : ∀ fd, FunD K "law" "law" (defArgs s_law) (defBody s_law) (defScope s_law) [] [] (He.fAd K at_law) fd → FnOk P w K mg base CX k (He.fAd K at_law) fd ps_law sp) :
    Can P w K mg base CX k (He.fAd K at_law) ps_law [] sp := by
  obtain ⟨fd, F⟩ := T.d 19 _ rfl
  exact ⟨fd, h fd F, [], .nil, FunD.bindsN F fun _ _ _ _ _ _ us hl => match us, hl with | [_], _ => rfl⟩
/-! ### values that are data -/
theorem dp_ex {K : PySem.W.Frag} {H H' : Hp} (e : Ex H H') : ∀ {d : PyData} {v : V}, Dp K H v d → Dp K H' v d := by
  intro d v h
  refine Dp.rec (motive_1 := fun v d _ => Dp K H' v d) (motive_2 := fun vs ds _ => DpAll K H' vs ds) .non .bl .int .str (fun h _ ih => .lst (ex_l e h) ih) (fun h _ ih => .tup (ex_t e h) ih) .nil (fun _ _ a b => .cons a b) h
theorem dpAll_ex {K : PySem.W.Frag} {H H' : Hp} (e : Ex H H') : ∀ {ds : List PyData} {vs : List V}, DpAll K H vs ds → DpAll K H' vs ds
  | [], _, h => by
    cases h
    exact .nil
  | d :: ds, _, h => by
    cases h with
    | cons a b => exact .cons (dp_ex e a) (dpAll_ex e b)
theorem dpAll_snoc {K : PySem.W.Frag} {H : Hp} {v : V} {d : PyData} : ∀ {ds : List PyData} {vs : List V}, DpAll K H vs ds → Dp K H v d → DpAll K H (vs ++ [v]) (ds ++ [d])
  | [], _, h, h2 => by
    cases h
    exact .cons h2 .nil
  | c :: ds, _, h, h2 => by
    cases h with
    | cons a b => exact .cons a (dpAll_snoc b h2)
theorem dpa_at {K : PySem.W.Frag} {H : Hp} : ∀ {ds : List PyData} {xs : List V} {i : Nat} {x : V}, DpAll K H xs ds → xs[i]? = some x → ∃ d, ds[i]? = some d ∧ Dp K H x d
  | [], _, _, _, h, e => by
    cases h
    cases e
  | c :: ds, _, 0, _, h, e => by
    cases h with
    | cons a b =>
      cases e
      exact ⟨c, rfl, a⟩
  | c :: ds, _, i + 1, _, h, e => by
    cases h with
    | cons a b => exact dpa_at (i := i) b e
theorem dpa_len {K : PySem.W.Frag} {H : Hp} : ∀ {ds : List PyData} {xs : List V}, DpAll K H xs ds → xs.length = ds.length
  | [], _, h => by
    cases h
    rfl
  | c :: ds, _, h => by
    cases h with
    | cons a b => rw [List.length_cons, List.length_cons, dpa_len b]
/-! ### the draws -/
/-- a list of numbers stands at d -/
def Dr (H : Hp) (d : Addr) : Prop := ∃ ns : List Int, H d = some (.lst (ns.map V.int))
theorem Dr.kp {S : List Addr} {H H' : Hp} {d : Addr} (D : Dr H d) (e : Kp S H H') (h : d ∉ S) : Dr H' d := D.imp fun _ g => e.at g h
theorem Dr.keep {H H' : Hp} {d : Addr} (D : Dr H d) (e : Ex H H') : Dr H' d := D.imp fun _ g => e _ _ g
theorem Dr.on {H : Hp} {d : Addr} (D : Dr H d) : H d ≠ none := by
  obtain ⟨ns, h⟩ := D
  rw [h]
  intro z
  cases z
theorem Dr.ne {H : Hp} {d p : Addr} (D : Dr H d) (h : H p = none) : p ≠ d := fun e => D.on (e ▸ h)
theorem Dr.put {H : Hp} {d p : Addr} {o : HO} (D : Dr H d) (h : H p = none) : Dr (upd H p o) d := D.keep (Ex.new h)
theorem Dr.mut {H : Hp} {d p : Addr} {o : HO} (D : Dr H d) (h : p ≠ d) : Dr (upd H p o) d := D.kp (Kp.up (p := p)) fun z => h (List.mem_singleton.mp z).symm
def spTake : Sp := fun vs H Q _ => ∃ (d : Addr) (m : Int), vs = [.ref d, .int m] ∧ 0 < m ∧ Dr H d ∧ ∀ (v : Int) (H' : Hp), 0 ≤ v → v < m → Dr H' d → Kp [d] H H' → Q (.int v) H'
theorem fmod_in {i m : Int} (h : 0 < m) : 0 ≤ i.fmod m ∧ i.fmod m < m := by
  rw [Int.fmod_eq_emod_of_nonneg i (Int.le_of_lt h)]
  exact ⟨Int.emod_nonneg _ (by omega), Int.emod_lt_of_pos _ h⟩
theorem rd_take {σ : L2.St} {H : Hp} {i : Nat} {te : TE} {d : Addr} {m : Int} {Q : VK} {E : XK} (hσ : σ[i]? = some (some (.ref d))) (hm : Val te σ H (.int m)) (m0 : 0 < m) (D : Dr H d)
    (k : ∀ (v : Int) (H' : Hp), 0 ≤ v → v < m → Dr H' d → Kp [d] H H' → Q (.int v) H') : tCall spTake [] E (tCons (tVar i) (tCons te tNil)) σ H Q := ⟨_, hσ, hm _ ⟨d, m, rfl, m0, D, k⟩⟩
theorem dpAll_ints {K : PySem.W.Frag} {H : Hp} : ∀ ns : List Int, DpAll K H (ns.map V.int) (ns.map PyData.int)
  | [] => .nil
  | n :: r => .cons (.int n) (dpAll_ints r)
theorem eqv_self {d : PyData} (h : SeqAt.shaped d = true) : PyData.eqv d d = true := SeqAt.eqv_refl d (SeqAt.canLay_of_shaped h)
/-! ### the program's reader of questions -/
section
variable {P : Program} {w : World} {K : PySem.W.Frag} {mg : Str → Option Value} {base : Heap}
theorem ok_InvalidQuestion_init (T : TX K mg) : Can P w K mg base CX0 1 (He.fAd K at_InvalidQuestion_init) ps_InvalidQuestion_init [] (spX2 K (He.ga K "InvalidQuestion") "column" "reason") := mk_InvalidQuestion_init T fun fd F => def0 F sc_InvalidQuestion_init (fun vs H Q E h => by
  obtain ⟨a, y, z, rfl, _⟩ := h
  rfl) fun cdv A outer s H vs Q E hr h => by
  obtain ⟨a, y, z, rfl, O, hf, hg, ha, k⟩ := h
  refine ⟨_, (pss_cons (ps_ost (pv 0) (pv 1))
  (pss_one (ps_ost (pv 0) (pv 2)))), ?_⟩
  exact ⟨_, rfl, _, rfl, a, _, rfl, O, hf, .inl ⟨ha, fun dx n1 n2 => ⟨_, rfl, _, rfl, a, _, rfl, O, hg, .inr ⟨dx, _, upd_same, by rw [upd_ne n2, upd_same], by show 1 ≤ 900; decide, k dx n1 n2⟩⟩⟩⟩
end
/-- the reading at o: its text, where it is, how many steps -/
def QO (K : PySem.W.Frag) (H : Hp) (o : Addr) (z : Str) (i m : Nat) : Prop := ∃ dx, H o = some (.ins (He.ga K "QuestionReading") dx (flds_QuestionReading (.str z) (.int (i : Int)) (.int (m : Int))))
theorem QO.kp {K : PySem.W.Frag} {S : List Addr} {H H' : Hp} {o : Addr} {z : Str} {i m : Nat} (h : QO K H o z i m) (e : Kp S H H') (ho : o ∉ S) : QO K H' o z i m := h.imp fun _ g => e.at g ho
theorem QO.ex {K : PySem.W.Frag} {H H' : Hp} {o : Addr} {z : Str} {i m : Nat} (h : QO K H o z i m) (e : Ex H H') : QO K H' o z i m := h.imp fun _ g => e _ _ g
theorem QO.on {K : PySem.W.Frag} {H : Hp} {o : Addr} {z : Str} {i m : Nat} (h : QO K H o z i m) : H o ≠ none := by
  obtain ⟨dx, h⟩ := h
  rw [h]
  nofun
theorem QO.ne {K : PySem.W.Frag} {H : Hp} {o p : Addr} {z : Str} {i m : Nat} (h : QO K H o z i m) (hp : H p = none) : p ≠ o := fun e => h.on (e ▸ hp)
theorem pq_reached (a0 a1 a2 x : V) : putF "reached" x (flds_QuestionReading a0 a1 a2) = flds_QuestionReading a0 x a2 := by
  show putF "reached" x [("source", a0), ("reached", a1), ("many_steps", a2)] = _
  rw [putF, if_neg (by decide +kernel), putF, if_pos rfl]
theorem pq_many (a0 a1 a2 x : V) : putF "many_steps" x (flds_QuestionReading a0 a1 a2) = flds_QuestionReading a0 a1 x := by
  show putF "many_steps" x [("source", a0), ("reached", a1), ("many_steps", a2)] = _
  rw [putF, if_neg (by decide +kernel), putF, if_neg (by decide +kernel), putF, if_pos rfl]
theorem fq_len (a0 a1 a2 : V) : (flds_QuestionReading a0 a1 a2).length < 1000 := by show 3 < 1000; decide
/-- an InvalidQuestion of this column and reason is let out -/
def BadQ (K : PySem.W.Frag) (H : Hp) (o : Addr) (E : XK) (c : Nat) (r : Str) : Prop := ∀ (d : Addr) (H' : Hp), H d = none → Kp [o] H H' → H' d = some (.xd [("reason", .str r), ("column", .int (c : Int))]) → E (.ref (He.ga K "InvalidQuestion")) (some d) H'
theorem BadQ.later {K : PySem.W.Frag} {H H1 : Hp} {o : Addr} {E : XK} {c : Nat} {r : Str} (h : BadQ K H o E c r) (e : Kp [o] H H1) (ho : H1 o ≠ none) : BadQ K H1 o E c r := fun d H' hd k hx =>
  h d H' (e.back (fun a ha => by rw [List.mem_singleton.mp ha]; exact ho) hd) (e.trans k) hx
/-- what becomes of the reading -/
def DoesQ (K : PySem.W.Frag) (H : Hp) (o : Addr) (z : Str) (l : List Nat) (d : Nat) (res : QR) (Q : VK) (E : XK) : Prop :=
  (∀ (l' : List Nat) (i' m' : Nat) (v : V) (H' : Hp), res = .ok l' i' m' → remS z i' l' → l'.length + d ≤ l.length → QO K H' o z i' m' → Kp [o] H H' → Q v H') ∧ ∀ (c : Nat) (r : Str), res = .no c r → BadQ K H o E c r
theorem DoesQ.from {K : PySem.W.Frag} {H H1 : Hp} {o : Addr} {z : Str} {l l1 : List Nat} {d d1 : Nat} {res : QR} {Q : VK} {E : XK} (h : DoesQ K H o z l d res Q E) (e : Kp [o] H H1) (ho : H1 o ≠ none) (hl : l1.length + d ≤ l.length + d1) : DoesQ K H1 o z l1 d1 res Q E :=
  ⟨fun l' i' m' v H' e1 r hl' q k => h.1 l' i' m' v H' e1 r (by omega) q (e.trans k), fun c r e1 => (h.2 c r e1).later e ho⟩
theorem take_one (l : List Nat) (c : Nat) : decide (l.take 1 = [c]) = decide (l.head? = some c) := by
  cases l with
  | nil => rfl
  | cons d r =>
    show decide ([d] = [c]) = decide (some d = some c)
    rw [decide_eq_decide]
    exact ⟨fun h => by cases h; rfl, fun h => by cases h; rfl⟩
def spQInit (K : PySem.W.Frag) : Sp := fun vs H Q _ => ∃ (o dx : Addr) (z : Str), vs = [.ref o, .str z] ∧ H o = some (.ins (He.ga K "QuestionReading") dx []) ∧ ∀ H', QO K H' o z 0 0 → Kp [o] H H' → Q .non H'
def spQBegins (K : PySem.W.Frag) : Sp := fun vs H Q _ => ∃ (o : Addr) (wd z : Str) (i m : Nat) (l : List Nat), vs = [.ref o, .str wd] ∧ QO K H o z i m ∧ remS z i l ∧ Q (.bl (decide (l.take wd.cps.toList.length = wd.cps.toList))) H
def spQSign (K : PySem.W.Frag) : Sp := fun vs H Q _ => ∃ (o : Addr) (z : Str) (i m : Nat) (l : List Nat), vs = [.ref o] ∧ QO K H o z i m ∧ remS z i l ∧ z.cps.size ≤ 1000 ∧ Q (.str (sL (l.take 1))) H
def spQLetter : Sp := fun vs H Q _ => ∃ l : List Nat, vs = [.str (sL l)] ∧ l.length ≤ 1 ∧ Q (.bl (match l with | [] => false | c :: _ => letB c)) H
def spQTest (K : PySem.W.Frag) : Sp := fun vs H Q E => ∃ (o : Addr) (z : Str) (i m : Nat) (l : List Nat), vs = [.ref o] ∧ QO K H o z i m ∧ remS z i l ∧ z.cps.size ≤ 1000 ∧ DoesQ K H o z l 0 (qTest l i m) Q E
def spQNum (K : PySem.W.Frag) : Sp := fun vs H Q E => ∃ (o : Addr) (z ax : Str) (i m : Nat) (l : List Nat), vs = [.ref o, .str ax] ∧ QO K H o z i m ∧ remS z i l ∧ z.cps.size ≤ 1000 ∧ (∃ c r, l = c :: r ∧ digB c = true) ∧ DoesQ K H o z l 0 (qNum (decide (ax = "below")) l i m) Q E
/-- 'a' <= text <= 'b', the text a sign or none -/
def inB (a b : Nat) (l : List Nat) : Bool := match l with
  | [] => false
  | c :: _ => Nat.ble a c && Nat.ble c b
theorem val_chN {σ : L2.St} {H : Hp} {te : TE} {za zb : Str} {a b : Nat} {l : List Nat} (hl : l.length ≤ 1) (h : Val te σ H (.str (sL l))) (ea : za.cps.toList = [a]) (eb : zb.cps.toList = [b]) :
    Val (tChain (fun x y H Q => ∃ i j, x = V.str i ∧ y = V.str j ∧ Q (V.bl !decide (j.cps.toList < i.cps.toList)) H) (fun x y H Q => ∃ i j, x = V.str i ∧ y = V.str j ∧ Q (V.bl !decide (j.cps.toList < i.cps.toList)) H) (tC (.str za)) te (tC (.str zb))) σ H (.bl (inB a b l)) := by
  match l, hl, h with
  | [], _, h =>
    intro Q q
    refine h _ ⟨_, _, rfl, rfl, _, rfl, ?_⟩
    rw [ea, sL_list, show (!decide (([] : List Nat) < [a])) = false by rw [decide_eq_true (List.nil_lt_cons a [])]; rfl]
    exact iteF q
  | [c], _, h =>
    have := val_chS h ea eb
    refine val_is this ?_
    show V.bl (decide (a ≤ c) && decide (c ≤ b)) = V.bl (Nat.ble a c && Nat.ble c b)
    have e1 : decide (a ≤ c) = Nat.ble a c := by
      cases q : Nat.ble a c with
      | true => exact decide_eq_true (Nat.le_of_ble_eq_true q)
      | false => exact decide_eq_false fun z => by rw [Nat.ble_eq_true_of_le z] at q; cases q
    have e2 : decide (c ≤ b) = Nat.ble c b := by
      cases q : Nat.ble c b with
      | true => exact decide_eq_true (Nat.le_of_ble_eq_true q)
      | false => exact decide_eq_false fun z => by rw [Nat.ble_eq_true_of_le z] at q; cases q
    rw [e1, e2]
theorem val_chN_if {σ : L2.St} {H : Hp} {te t1 t2 : TE} {za zb : Str} {a b : Nat} {l : List Nat} {Q : VK} (hl : l.length ≤ 1) (h : Val te σ H (.str (sL l))) (ea : za.cps.toList = [a]) (eb : zb.cps.toList = [b]) (h1 : inB a b l = true → t1 σ H Q) (h2 : inB a b l = false → t2 σ H Q) :
    tIf (tTest (tChain (fun x y H Q => ∃ i j, x = V.str i ∧ y = V.str j ∧ Q (V.bl !decide (j.cps.toList < i.cps.toList)) H) (fun x y H Q => ∃ i j, x = V.str i ∧ y = V.str j ∧ Q (V.bl !decide (j.cps.toList < i.cps.toList)) H) (tC (.str za)) te (tC (.str zb)))) t1 t2 σ H Q := by
  refine ans_v (val_chN hl h ea eb) _ ?_
  cases q : inB a b l with
  | true => exact iteT (h1 q)
  | false => exact iteF (h2 q)
section
variable {P : Program} {w : World} {K : PySem.W.Frag} {mg : Str → Option Value} {base : Heap}
theorem qf (T : TX K mg) {σ : L2.St} {H : Hp} {o : Addr} {z : Str} {i m j : Nat} (h : QO K H o z i m) (hσ : σ[j]? = some (some (.ref o))) :
    Val (tFld K (tVar j) "source") σ H (.str z) ∧ Val (tFld K (tVar j) "reached") σ H (.int (i : Int)) ∧ Val (tFld K (tVar j) "many_steps") σ H (.int (m : Int)) := by
  obtain ⟨dx, h⟩ := h
  exact ⟨fun Q q => ⟨_, hσ, o, _, dx, _, _, rfl, h, T.cl_QuestionReading, T.na_QuestionReading_source, fl_QuestionReading_source .., q⟩, fun Q q => ⟨_, hσ, o, _, dx, _, _, rfl, h, T.cl_QuestionReading, T.na_QuestionReading_reached, fl_QuestionReading_reached .., q⟩,
    fun Q q => ⟨_, hσ, o, _, dx, _, _, rfl, h, T.cl_QuestionReading, T.na_QuestionReading_many_steps, fl_QuestionReading_many_steps .., q⟩⟩
/-- self.reached += k -/
theorem q_adv (T : TX K mg) {D : Ends} {σ : L2.St} {H : Hp} {o : Addr} {z : Str} {i m k : Nat} {te : TE} (h : QO K H o z i m) (hσ : σ[0]? = some (some (.ref o))) (hv : Val te σ H (.int (k : Int))) (q : ∀ H', QO K H' o z (i + k) m → Kp [o] H H' → D.nx σ H') : sFldAug K (tVar 0) te rAdd "reached" D σ H := by
  obtain ⟨dx, h⟩ := h
  refine ⟨_, hσ, o, _, dx, _, _, rfl, h, T.cl_QuestionReading, T.na_QuestionReading_reached, fl_QuestionReading_reached .., hv _ ⟨_, _, rfl, rfl, dx, _, h, fq_len .., ?_⟩⟩
  rw [pq_reached, show (i : Int) + (k : Int) = ((i + k : Nat) : Int) by omega]
  exact q _ ⟨dx, upd_same⟩ Kp.up
theorem ok_QuestionReading_init (T : TX K mg) : Can P w K mg base CX0 1 (He.fAd K at_QuestionReading_init) ps_QuestionReading_init [] (spQInit K) := mk_QuestionReading_init T fun fd F => def0 F sc_QuestionReading_init (fun vs H Q E h => by
  obtain ⟨o, dx, z, rfl, _⟩ := h
  rfl) fun cdv A outer s H vs Q E hr h => by
  obtain ⟨o, dx, z, rfl, ho, k⟩ := h
  refine ⟨_, (pss_cons (sFd K rfl (pv 0) (pv 1) rfl)
  (pss_cons (sFd K rfl (pv 0) pe_int rfl)
  (pss_one (sFd K rfl (pv 0) pe_int rfl)))), ?_⟩
  refine st_seq ⟨_, rfl, _, rfl, o, _, dx, [], rfl, ho, T.cl_QuestionReading, T.na_QuestionReading_source, by decide, ?_⟩
  refine st_seq ⟨_, rfl, o, _, dx, [("source", .str z)], rfl, upd_same, T.cl_QuestionReading, T.na_QuestionReading_reached, (by decide : 1 < 1000), ?_⟩
  rw [pf_QuestionReading_reached, upd_upd]
  dsimp only
  refine ⟨_, rfl, o, _, dx, _, rfl, upd_same, T.cl_QuestionReading, T.na_QuestionReading_many_steps, (by decide : 2 < 1000), ?_⟩
  rw [pf_QuestionReading_many_steps, upd_upd]
  exact k _ ⟨dx, upd_same⟩ Kp.up
theorem ok_QuestionReading_begins (T : TX K mg) : Can P w K mg base CX0 1 (He.fAd K at_QuestionReading_begins) ps_QuestionReading_begins [] (spQBegins K) := mk_QuestionReading_begins T fun fd F => def0 F sc_QuestionReading_begins (fun vs H Q E h => by
  obtain ⟨o, wd, z, i, m, l, rfl, _⟩ := h
  rfl) fun cdv A outer s H vs Q E hr h => by
  obtain ⟨o, wd, z, i, m, l, rfl, R, hl, k⟩ := h
  refine ⟨_, (pss_one (ps_ret (eBm K rfl PySem.F.plainAttrs_str PySem.F.slot_str_startswith PySem.F.type_str_startswith mt_startswith3 (eFld K rfl (pv 0) rfl) (pa_cons (pv 1) (pa_cons (eFld K rfl (pv 0) rfl) pa_nil))))), ?_⟩
  obtain ⟨f1, f2, _⟩ := qf (K := K) (mg := mg) T R (j := 0) (σ := [some (.ref o), some (.str wd)]) rfl
  refine go_ret (f1 _ ⟨rfl, _, rfl, f2 _ ⟨z, wd, i, rfl, rfl, ?_⟩⟩)
  rw [sw3 hl]
  exact k
/-- self.begins('c') -/
theorem q_begins {σ : L2.St} {H : Hp} {o : Addr} {z wd : Str} {i m c : Nat} {l : List Nat} (R : QO K H o z i m) (hl : remS z i l) (hσ : σ[0]? = some (some (.ref o))) (hw : wd.cps.toList = [c]) : Val (tMeth (He.ga K "QuestionReading") "begins" (spQBegins K) [] E0 (tVar 0) (tCons (tC (.str wd)) tNil)) σ H (.bl (decide (l.head? = some c))) := fun Q q => by
  obtain ⟨dx, hR⟩ := id R
  refine ⟨_, hσ, o, dx, _, rfl, hR, fn_QuestionReading_begins .., o, wd, z, i, m, l, rfl, R, hl, ?_⟩
  rw [hw, show ([c] : List Nat).length = 1 from rfl, take_one]
  exact q
theorem ok_QuestionReading_sign (T : TX K mg) : Can P w K mg base CX0 1 (He.fAd K at_QuestionReading_sign) ps_QuestionReading_sign [] (spQSign K) := mk_QuestionReading_sign T fun fd F => def0 F sc_QuestionReading_sign (fun vs H Q E h => by
  obtain ⟨o, z, i, m, l, rfl, _⟩ := h
  rfl) fun cdv A outer s H vs Q E hr h => by
  obtain ⟨o, z, i, m, l, rfl, R, hl, hz, k⟩ := h
  refine ⟨_, (pss_one (ps_ret (pe_slice sl_str (eFld K rfl (pv 0) rfl) (po_some (eFld K rfl (pv 0) rfl)) (po_some (pe_op op_add (eFld K rfl (pv 0) rfl) pe_int))))), ?_⟩
  obtain ⟨f1, f2, _⟩ := qf (K := K) (mg := mg) T R (j := 0) (σ := [some (.ref o)]) rfl
  refine go_ret (f1 _ (f2 _ ⟨_, rfl, val_I f2 val_c _ ⟨_, rfl, z, rfl, sz_of (by show z.cps.size ≤ 100000; omega), ?_⟩⟩))
  rw [show (i : Int) + 1 = ((i + 1 : Nat) : Int) by omega, hl.cut]
  exact k
/-- self.sign() -/
theorem q_sign {σ : L2.St} {H : Hp} {o : Addr} {z : Str} {i m : Nat} {l : List Nat} (R : QO K H o z i m) (hl : remS z i l) (hz : z.cps.size ≤ 1000) (hσ : σ[0]? = some (some (.ref o))) : Val (tMeth (He.ga K "QuestionReading") "sign" (spQSign K) [] E0 (tVar 0) tNil) σ H (.str (sL (l.take 1))) := fun Q q => by
  obtain ⟨dx, hR⟩ := id R
  exact ⟨_, hσ, o, dx, _, rfl, hR, fn_QuestionReading_sign .., o, z, i, m, l, rfl, R, hl, hz, q⟩
theorem ok_is_letter (T : TX K mg) : Can P w K mg base CX0 1 (He.fAd K at_is_letter) ps_is_letter [] spQLetter := mk_is_letter T fun fd F => def0 F sc_is_letter (fun vs H Q E h => by
  obtain ⟨l, rfl, _⟩ := h
  rfl) fun cdv A outer s H vs Q E hr h => by
  obtain ⟨l, rfl, hl, k⟩ := h
  refine ⟨_, (pss_one (ps_ret (pe_chain op_le_str op_le_str pe_str (pv 0) pe_str))), ?_⟩
  refine go_ret (val_chN (a := 97) (b := 122) hl (val_var rfl) (by decide +kernel) (by decide +kernel) _ ?_)
  cases l with
  | nil => exact k
  | cons c r => exact k
theorem take_drop1 {l : List Nat} {j c : Nat} (h : l[j]? = some c) : (l.drop j).take 1 = [c] := by
  obtain ⟨h1, h2⟩ := List.getElem?_eq_some_iff.mp h
  rw [List.drop_eq_getElem_cons h1, h2]
  rfl
theorem take1_len (l : List Nat) : (l.take 1).length ≤ 1 := by rw [List.length_take]; omega
theorem ok_QuestionReading_read_test (T : TX K mg) : Can P w K mg base (L2.CX P w) 4 (He.fAd K at_QuestionReading_read_test) ps_QuestionReading_read_test [] (spQTest K) := by
  obtain ⟨fd_QuestionReading_sign, G_QuestionReading_sign, ds_QuestionReading_sign, v_QuestionReading_sign, b_QuestionReading_sign⟩ := ok_QuestionReading_sign (P := P) (w := w) (base := base) T
  obtain ⟨fd_is_letter, G_is_letter, ds_is_letter, v_is_letter, b_is_letter⟩ := ok_is_letter (P := P) (w := w) (base := base) T
  obtain ⟨fd_InvalidQuestion_init, G_InvalidQuestion_init, ds_InvalidQuestion_init, v_InvalidQuestion_init, b_InvalidQuestion_init⟩ := ok_InvalidQuestion_init (P := P) (w := w) (base := base) T
  exact mk_QuestionReading_read_test T fun fd F => defX F sc_QuestionReading_read_test (fun vs H Q E h => by
    obtain ⟨o, z, i, m, l, rfl, _⟩ := h
    rfl) fun cdv A outer s H vs Q E hr h => by
    obtain ⟨o, z, i, m, l, rfl, R, hl, hz, kD⟩ := h
    refine ⟨_, (pss_cons (ps_set (i := 1) sc_QuestionReading_read_test.nd rfl (Or.inl rfl) (eFld K rfl (pv 0) rfl))
  (pss_cons (ps_if (pt_cmpR (oIn K rfl) (pe_meth0 (pv 0) T.cl_QuestionReading T.me_QuestionReading_sign G_QuestionReading_sign (hr.mono (by first | decide | omega)) b_QuestionReading_sign v_QuestionReading_sign pass0) (pe_glob (v := .ref (He.ga K "OTHER_TESTS")) rfl T.g_OTHER_TESTS rfl) (by rfl)) (pss_cons (sFdAug K rfl in_add (pv 0) pe_int)
  (pss_one (ps_ret (pe_ix ix_str (eFld K rfl (pv 0) rfl) (pv 1) (fun _ _ => rfl))))) pss_nil)
  (pss_cons (ps_while (passes_of rfl) (pt_val (pe_call G_is_letter (hr.mono (by first | decide | omega)) rfl T.g_is_letter T.k_is_letter b_is_letter v_is_letter pass0 (pa_cons (pe_meth0 (pv 0) T.cl_QuestionReading T.me_QuestionReading_sign G_QuestionReading_sign (hr.mono (by first | decide | omega)) b_QuestionReading_sign v_QuestionReading_sign pass0) pa_nil)))
  (pss_one (sFdAug K rfl in_add (pv 0) pe_int)))
  (pss_cons (ps_if (pt_not (pt_chain op_le op_le pe_int (pe_op op_sub (eFld K rfl (pv 0) rfl) (pv 1)) (pe_glob (v := .int 12) rfl T.c_NAME_LETTERS.choose_spec ⟨_, rfl⟩))) (pss_one (ps_raise rfl (takes_of rfl rfl rfl rfl) (pmk_oex T.ox_InvalidQuestion T.oi_InvalidQuestion T.ot_InvalidQuestion G_InvalidQuestion_init (hr.mono (by first | decide | omega)) b_InvalidQuestion_init v_InvalidQuestion_init pass0 rfl T.g_InvalidQuestion (pa_cons (pe_op op_add (pv 1) pe_int) (pa_cons pe_str pa_nil))))) pss_nil)
  (pss_one (ps_ret (pe_slice sl_str (eFld K rfl (pv 0) rfl) (po_some (pv 1)) (po_some (eFld K rfl (pv 0) rfl))))))))), ?_⟩
    have hlen := hl.len
    refine st_seq (go_asg ((qf (K := K) T R (j := 0) (σ := [some (.ref o), none]) rfl).2.1 _ ?_))
    dsimp only [gName]
    refine st_seq ?_
    refine st_if (b := decide (l.head? = some 42 ∨ l.head? = some 35)) (fun Q q => ?_) (fun hb => ?_) (fun hb => ?_)
    · refine q_sign (K := K) R hl hz rfl _ ⟨_, _, rfl, .inr (T.st_OTHER_TESTS H), rfl, rfl, _, rfl, ?_⟩
      have e : inV (V.str (sL (l.take 1))) ((["*", "#"] : List Str).map V.str) = decide (l.head? = some 42 ∨ l.head? = some 35) := by
        have h1 : ("*" : Str) = sL [42] := by decide +kernel
        have h2 : ("#" : Str) = sL [35] := by decide +kernel
        rw [h1, h2]
        cases l with
        | nil => rfl
        | cons c r =>
          show (decide (sL [42] = sL [c]) || (decide (sL [35] = sL [c]) || false)) = decide (some c = some 42 ∨ some c = some 35)
          have h3 : ∀ a : Nat, decide (sL [a] = sL [c]) = decide (c = a) := fun a => by
            rw [decide_eq_decide]
            exact ⟨fun h => ((List.cons.inj (congrArg (fun x : Str => x.cps.toList) h)).1).symm, fun h => by rw [h]⟩
          rw [h3, h3, Bool.or_false, ← Bool.decide_or, decide_eq_decide]
          simp
      rw [show (if false = true then !inV (V.str (sL (l.take 1))) ((["*", "#"] : List Str).map V.str) else inV (V.str (sL (l.take 1))) ((["*", "#"] : List Str).map V.str)) = inV (V.str (sL (l.take 1))) ((["*", "#"] : List Str).map V.str) from rfl, e]
      exact q
    · have hb := of_decide_eq_true hb
      obtain ⟨c, r, rfl⟩ : ∃ c r, l = c :: r := by
        cases l with
        | nil => rcases hb with h | h <;> cases h
        | cons c r => exact ⟨c, r, rfl⟩
      refine st_seq (q_adv (k := 1) T R rfl val_c fun H1 R1 e1 => ?_)
      dsimp only
      refine go_ret (val_op (qf (K := K) T R1 (j := 0) (σ := [some (.ref o), some (.int (i : Int))]) rfl).1 (val_var rfl) (fun Q q => ⟨z, _, c, rfl, rfl, sz_of (by show z.cps.size ≤ 100000; omega), atI_nat (by have := hl.get (j := 0); exact this), q⟩) _ ?_)
      exact kD.1 r (i + 1) m _ H1 (by unfold qTest; rw [if_pos hb]; rfl) hl.one (by simp) R1 e1
    · have hb := of_decide_eq_false hb
      have hq : qTest l i m = if 1 ≤ runL letB l ∧ runL letB l ≤ 12 then .ok (l.drop (runL letB l)) (i + runL letB l) m else .no (i + 1) "test" := by unfold qTest; rw [if_neg hb]
      rw [hq] at kD
      have hrl := runL_le letB l
      have at_ := runL_at letB l
      generalize runL letB l = n at kD hrl at_
      dsimp only [tNext]
      refine st_seq ⟨fun k σ G => ∃ j : Nat, σ = [some (.ref o), some (.int (i : Int))] ∧ k = n - j ∧ j ≤ n ∧ Kp [o] H G ∧ QO K G o z (i + j) m, ⟨_, 0, rfl, rfl, Nat.zero_le _, Kp.refl, R⟩, ?_⟩
      rintro k σ G ⟨j, rfl, rfl, hj, eG, RG⟩
      have hlj := hl.drop (k := j) (by omega)
      refine ans_v (val_call (va_one (q_sign (K := K) RG hlj hz rfl)) fun Q q => ⟨_, rfl, take1_len _, q⟩) _ ?_
      by_cases hjn : j < n
      · obtain ⟨c, hc, hp⟩ := (at_ j).1 hjn
        rw [take_drop1 hc]
        show if letB c = true then _ else _
        rw [hp]
        refine iteT ⟨fun σ' G' => ∃ k', k' < n - j ∧ ∃ j : Nat, σ' = [some (.ref o), some (.int (i : Int))] ∧ k' = n - j ∧ j ≤ n ∧ Kp [o] H G' ∧ QO K G' o z (i + j) m, fun _ _ h => h, ?_⟩
        refine q_adv (k := 1) T RG rfl val_c fun H1 R1 e1 => ⟨_, ?_, j + 1, rfl, rfl, by omega, eG.trans e1, R1⟩
        omega
      · obtain rfl : j = n := by omega
        have hf : (match (l.drop j).take 1 with | [] => false | c :: _ => letB c) = false := by
          cases q : l[j]? with
          | none => rw [List.drop_eq_nil_of_le (List.getElem?_eq_none_iff.mp q)]; rfl
          | some c => rw [take_drop1 q]; exact (at_ j).2 rfl c q
        rw [hf]
        refine iteF ?_
        have fG := qf (K := K) T RG (j := 0) (σ := [some (.ref o), some (.int (i : Int))]) rfl
        dsimp only
        refine st_seq (st_if (b := !(decide (1 ≤ j ∧ j ≤ 12))) (ans_is (ans_not (ans_v (val_chain (g := fun i j => decide (i ≤ j)) (g' := fun i j => decide (i ≤ j)) (b := (j : Int)) val_c (val_is (val_I fG.2.1 (val_var rfl)) (by congr 1; omega)) val_c))) (by
          congr 1
          rw [Bool.decide_and]
          congr 1 <;> rw [decide_eq_decide] <;> omega)) (fun hb => ?_) (fun hb => ?_))
        · have hn : ¬ (1 ≤ j ∧ j ≤ 12) := fun z => by rw [decide_eq_true z] at hb; cases hb
          rw [if_neg hn] at kD
          refine st_raise2 (W := fun cls d _ H => E cls d H) (y := .int ((i + 1 : Nat) : Int)) (z := .str "test") T.ox_InvalidQuestion T.na_InvalidQuestion_column T.na_InvalidQuestion_reason (val_is (val_I (val_var rfl) val_c) (by congr 1)) val_c fun d hd => ?_
          exact (kD.2 (i + 1) "test" rfl).later eG RG.on d _ hd (Kp.new hd) upd_same
        · have hn : 1 ≤ j ∧ j ≤ 12 := by simpa using hb
          rw [if_pos hn] at kD
          dsimp only [tNext]
          refine go_ret (fG.1 _ ⟨_, rfl, _, rfl, fG.2.1 _ ⟨_, rfl, z, rfl, sz_of (by show z.cps.size ≤ 100000; omega), ?_⟩⟩)
          exact kD.1 _ _ _ _ G rfl hlj (by rw [List.length_drop]; omega) RG eG
theorem ok_QuestionReading_read_number (T : TX K mg) : Can P w K mg base (L2.CX P w) 4 (He.fAd K at_QuestionReading_read_number) ps_QuestionReading_read_number [] (spQNum K) := by
  obtain ⟨fd_QuestionReading_sign, G_QuestionReading_sign, ds_QuestionReading_sign, v_QuestionReading_sign, b_QuestionReading_sign⟩ := ok_QuestionReading_sign (P := P) (w := w) (base := base) T
  obtain ⟨fd_InvalidQuestion_init, G_InvalidQuestion_init, ds_InvalidQuestion_init, v_InvalidQuestion_init, b_InvalidQuestion_init⟩ := ok_InvalidQuestion_init (P := P) (w := w) (base := base) T
  exact mk_QuestionReading_read_number T fun fd F => defX F sc_QuestionReading_read_number (fun vs H Q E h => by
    obtain ⟨o, z, ax, i, m, l, rfl, _⟩ := h
    rfl) fun cdv A outer s H vs Q E hr h => by
    obtain ⟨o, z, ax, i, m, l, rfl, R, hl, hz, hne, kD⟩ := h
    refine ⟨_, (pss_cons (ps_set (i := 2) sc_QuestionReading_read_number.nd rfl (Or.inl rfl) (eFld K rfl (pv 0) rfl))
  (pss_cons (ps_while (passes_of rfl) (pt_chain op_le_str op_le_str pe_str (pe_meth0 (pv 0) T.cl_QuestionReading T.me_QuestionReading_sign G_QuestionReading_sign (hr.mono (by first | decide | omega)) b_QuestionReading_sign v_QuestionReading_sign pass0) pe_str)
  (pss_one (sFdAug K rfl in_add (pv 0) pe_int)))
  (pss_cons (ps_set (i := 3) sc_QuestionReading_read_number.nd rfl (Or.inl rfl) (pe_slice sl_str (eFld K rfl (pv 0) rfl) (po_some (pv 2)) (po_some (eFld K rfl (pv 0) rfl))))
  (pss_cons (ps_if (PW.pt (pw_or (pt_cmpR op_eq (pv 1) pe_str (nomark _)) (pw_or (pt_cmpR op_gt (pe_callB call_len_str (by rfl) T.n_len PySem.boot_len (pa_cons (pv 3) pa_nil)) (pe_callB call_len_str (by rfl) T.n_len PySem.boot_len (pa_cons (pe_callTy call_str_int (by rfl) T.n_str (by decide +kernel) (pa_cons (pe_glob (v := .int 5000) rfl T.c_MOST_PLACE.choose_spec ⟨_, rfl⟩) pa_nil)) pa_nil)) (nomark _)) (pw_or1 (pt_cmpR op_gt (pe_callTy call_int_str (by rfl) T.n_int (by decide +kernel) (pa_cons (pv 3) pa_nil)) (pe_glob (v := .int 5000) rfl T.c_MOST_PLACE.choose_spec ⟨_, rfl⟩) (nomark _)))))) (pss_one (ps_raise rfl (takes_of rfl rfl rfl rfl) (pmk_oex T.ox_InvalidQuestion T.oi_InvalidQuestion T.ot_InvalidQuestion G_InvalidQuestion_init (hr.mono (by first | decide | omega)) b_InvalidQuestion_init v_InvalidQuestion_init pass0 rfl T.g_InvalidQuestion (pa_cons (pe_op op_add (pv 2) pe_int) (pa_cons pe_str pa_nil))))) pss_nil)
  (pss_one (ps_ret (pe_callTy call_int_str (by rfl) T.n_int (by decide +kernel) (pa_cons (pv 3) pa_nil)))))))), ?_⟩
    have hlen := hl.len
    refine st_seq (go_asg ((qf (K := K) T R (j := 0) (σ := [some (.ref o), some (.str ax), none, none]) rfl).2.1 _ ?_))
    dsimp only [gName]
    have hrl := runL_le digB l
    have at_ := runL_at digB l
    have hpos : 1 ≤ runL digB l := by
      obtain ⟨c, r, rfl, hc⟩ := hne
      rw [runL, hc]
      exact Nat.succ_le_succ (Nat.zero_le _)
    have hdig : ∀ c ∈ l.take (runL digB l), 48 ≤ c ∧ c ≤ 57 := fun c hc => by
      obtain ⟨j, hj, e⟩ := List.mem_iff_getElem.mp hc
      rw [List.length_take] at hj
      obtain ⟨d, hd, hp⟩ := (at_ j).1 (by omega)
      rw [List.getElem_take] at e
      have e2 : l[j]? = some c := by rw [← e]; exact List.getElem?_eq_getElem (by omega)
      rw [hd] at e2
      obtain rfl := Option.some.inj e2
      unfold digB at hp
      obtain ⟨h1, h2⟩ := Bool.and_eq_true_iff.mp hp
      exact ⟨Nat.le_of_ble_eq_true h1, Nat.le_of_ble_eq_true h2⟩
    have hq : qNum (decide (ax = "below")) l i m = if decide (ax = "below") = true ∨ 4 < runL digB l ∨ 5000 < NumText.digitsVal (l.take (runL digB l)) then .no (i + 1) "number" else .ok (l.drop (runL digB l)) (i + runL digB l) m := rfl
    rw [hq] at kD
    generalize runL digB l = n at kD hrl at_ hpos hdig
    refine st_seq ⟨fun k σ G => ∃ j : Nat, σ = [some (.ref o), some (.str ax), some (.int (i : Int)), none] ∧ k = n - j ∧ j ≤ n ∧ Kp [o] H G ∧ QO K G o z (i + j) m, ⟨_, 0, rfl, rfl, Nat.zero_le _, Kp.refl, R⟩, ?_⟩
    rintro k σ G ⟨j, rfl, rfl, hj, eG, RG⟩
    have hlj := hl.drop (k := j) (by omega)
    refine ans_v (val_chN (a := 48) (b := 57) (take1_len _) (q_sign (K := K) RG hlj hz rfl) (by decide +kernel) (by decide +kernel)) _ ?_
    by_cases hjn : j < n
    · obtain ⟨c, hc, hp⟩ := (at_ j).1 hjn
      rw [take_drop1 hc]
      show if digB c = true then _ else _
      rw [hp]
      refine iteT ⟨fun σ' G' => ∃ k', k' < n - j ∧ ∃ j : Nat, σ' = [some (.ref o), some (.str ax), some (.int (i : Int)), none] ∧ k' = n - j ∧ j ≤ n ∧ Kp [o] H G' ∧ QO K G' o z (i + j) m, fun _ _ h => h, ?_⟩
      refine q_adv (k := 1) T RG rfl val_c fun H1 R1 e1 => ⟨_, ?_, j + 1, rfl, rfl, by omega, eG.trans e1, R1⟩
      omega
    · obtain rfl : j = n := by omega
      have hf : inB 48 57 ((l.drop j).take 1) = false := by
        cases q : l[j]? with
        | none => rw [List.drop_eq_nil_of_le (List.getElem?_eq_none_iff.mp q)]; rfl
        | some c => rw [take_drop1 q]; exact (at_ j).2 rfl c q
      rw [hf]
      refine iteF ?_
      have fG := fun (σ : L2.St) (h0 : σ[0]? = some (some (.ref o))) => qf (K := K) T RG h0
      dsimp only
      refine st_seq (go_asg ((fG _ rfl).1 _ ⟨_, rfl, _, rfl, (fG _ rfl).2.1 _ ⟨_, rfl, z, rfl, sz_of (by show z.cps.size ≤ 100000; omega), ?_⟩⟩))
      rw [hl.cut]
      dsimp only [gName]
      have hdl : (l.take j).length = j := by rw [List.length_take]; omega
      have vlen : ∀ {σ : L2.St}, σ[3]? = some (some (.str (sL (l.take j)))) → Val (tCB (fun xs H Q => ∃ z, xs = [V.str z] ∧ z.length ≤ sizeLine ∧ Q (V.int (z.length : Int)) H) (tCons (tVar 3) tNil)) σ G (.int (j : Int)) := fun {σ} h3 => val_cb (va_one (val_var h3)) fun Q q => ⟨_, rfl, by rw [sL_len, hdl]; exact sz_of (by omega), by rw [sL_len, hdl]; exact q⟩
      have h4 : ((Str.ofString (toString (5000 : Int))).length : Int) = 4 := by decide +kernel
      have hint : l.take j ≠ [] := fun q => by rw [q] at hdl; simp at hdl; omega
      have vint : j ≤ 640 → ∀ {σ : L2.St}, σ[3]? = some (some (.str (sL (l.take j)))) → Val (tCB (fun xs H Q => ∃ a n, xs = [V.str a] ∧ PySem.intText? a = some n ∧ a.length ≤ 640 ∧ Q (V.int n) H) (tCons (tVar 3) tNil)) σ G (.int (NumText.digitsVal (l.take j) : Nat)) := fun hj {σ} h3 => val_cb (va_one (val_var h3)) fun Q q =>
        ⟨_, _, rfl, intText_digits (x := sL (l.take j)) hdig hint (by rw [sL_len, hdl]; omega), by rw [sL_len, hdl]; omega, q⟩
      refine st_seq (st_if (b := decide (decide (ax = "below") = true ∨ 4 < j ∨ 5000 < NumText.digitsVal (l.take j))) (ans_is (ans_or2 (a := decide (ax = "below")) (b := decide (4 < j) || decide (5000 < NumText.digitsVal (l.take j))) (ans_v (val_is (val_eq (val_var rfl) val_c rfl) (by
        congr 1
        rw [decide_eq_decide]
        exact ⟨fun h => V.str.inj h, fun h => by rw [h]⟩))) fun _ => ans_or2 (a := decide (4 < j)) (b := decide (5000 < NumText.digitsVal (l.take j))) (ans_v (val_is (val_I (vlen rfl) (val_cb (va_one (val_cb (va_one val_c) fun Q q => ⟨5000, rfl, by decide +kernel, q⟩)) fun Q q => ⟨_, rfl, by decide +kernel, q⟩)) (by
          congr 1
          rw [h4, decide_eq_decide]
          omega))) fun h => ans_v (val_is (val_I (vint (by have := of_decide_eq_false h; omega) rfl) val_c) (by
            congr 1
            rw [decide_eq_decide]
            omega))) (by rw [← Bool.decide_or, ← Bool.decide_or, decide_eq_decide]; simp)) (fun hb => ?_) (fun hb => ?_))
      · rw [if_pos (of_decide_eq_true hb)] at kD
        refine st_raise2 (W := fun cls d _ H => E cls d H) (y := .int ((i + 1 : Nat) : Int)) (z := .str "number") T.ox_InvalidQuestion T.na_InvalidQuestion_column T.na_InvalidQuestion_reason (val_is (val_I (val_var rfl) val_c) (by congr 1)) val_c fun d hd => ?_
        exact (kD.2 (i + 1) "number" rfl).later eG RG.on d _ hd (Kp.new hd) upd_same
      · have hb' := of_decide_eq_false hb
        rw [if_neg hb'] at kD
        dsimp only [tNext]
        refine go_ret (vint (by omega) rfl _ ?_)
        exact kD.1 _ _ _ _ G rfl hlj (by rw [List.length_drop]; omega) RG eG
def spQChar (K : PySem.W.Frag) : Sp := fun vs H Q E => ∃ (o : Addr) (z : Str) (i m c : Nat) (r : List Nat), vs = [.ref o] ∧ QO K H o z i m ∧ remS z i (c :: r) ∧ z.cps.size ≤ 1000 ∧ c ≠ 34 ∧
  (∀ (l' : List Nat) (i' n' : Nat) (s : Str) (H' : Hp), qSg c r i = .fin l' i' n' → remS z i' l' → l'.length ≤ r.length → s.length ≤ 1 → QO K H' o z i' m → Kp [o] H H' → Q (.str s) H') ∧ ∀ k : Nat, qSg c r i = .bad k → BadQ K H o E k "sign"
def goOn : List Nat → Bool
  | [] => false
  | c :: _ => !decide (c = 34)
theorem one_inj {a c : Nat} : decide (sL [a] = sL [c]) = decide (a = c) := by
  rw [decide_eq_decide]
  exact ⟨fun h => (List.cons.inj (congrArg (fun x : Str => x.cps.toList) h)).1, fun h => by rw [h]⟩
theorem ok_QuestionReading_read_string_sign (T : TX K mg) (D : Dics ts w K) : Can P w K mg base (L2.CX P w) 4 (He.fAd K at_QuestionReading_read_string_sign) ps_QuestionReading_read_string_sign [] (spQChar K) := by
  obtain ⟨fd_QuestionReading_sign, G_QuestionReading_sign, ds_QuestionReading_sign, v_QuestionReading_sign, b_QuestionReading_sign⟩ := ok_QuestionReading_sign (P := P) (w := w) (base := base) T
  obtain ⟨fd_QuestionReading_begins, G_QuestionReading_begins, ds_QuestionReading_begins, v_QuestionReading_begins, b_QuestionReading_begins⟩ := ok_QuestionReading_begins (P := P) (w := w) (base := base) T
  obtain ⟨fd_InvalidQuestion_init, G_InvalidQuestion_init, ds_InvalidQuestion_init, v_InvalidQuestion_init, b_InvalidQuestion_init⟩ := ok_InvalidQuestion_init (P := P) (w := w) (base := base) T
  exact mk_QuestionReading_read_string_sign T fun fd F => defX F sc_QuestionReading_read_string_sign (fun vs H Q E h => by
    obtain ⟨o, z, i, m, c, r, rfl, _⟩ := h
    rfl) fun cdv A outer s H vs Q E hr h => by
    obtain ⟨o, z, i, m, c, r, rfl, R, hl, hz, hc, kD, kE⟩ := h
    refine ⟨_, (Evl.pss_cut (ps_if (pt_val (pe_meth (pv 0) T.cl_QuestionReading T.me_QuestionReading_begins G_QuestionReading_begins (hr.mono (by first | decide | omega)) b_QuestionReading_begins v_QuestionReading_begins pass0 (pa_cons pe_str pa_nil))) (pss_cons (sFdAug K rfl in_add (pv 0) pe_int)
  (pss_cons (ps_if (pt_cmpR op_eq (eFld K rfl (pv 0) rfl) (pe_callB call_len_str (by rfl) T.n_len PySem.boot_len (pa_cons (eFld K rfl (pv 0) rfl) pa_nil)) (nomark _)) (pss_one (ps_ret pe_str)) pss_nil)
  (pss_one (ps_set (i := 1) sc_QuestionReading_read_string_sign.nd rfl (Or.inl rfl) (kget1 K w rfl rfl (pe_glob (v := .ref (He.ga K "ESCAPED")) rfl T.g_ESCAPED rfl) (pe_meth0 (pv 0) T.cl_QuestionReading T.me_QuestionReading_sign G_QuestionReading_sign (hr.mono (by first | decide | omega)) b_QuestionReading_sign v_QuestionReading_sign pass0) ⟨rfl, rfl, rfl, rfl⟩))))) (pss_one (ps_set (i := 1) sc_QuestionReading_read_string_sign.nd rfl (Or.inl rfl) (pe_ifExp (pt_chain op_le_str op_le_str pe_str (pe_meth0 (pv 0) T.cl_QuestionReading T.me_QuestionReading_sign G_QuestionReading_sign (hr.mono (by first | decide | omega)) b_QuestionReading_sign v_QuestionReading_sign pass0) pe_str) (pe_meth0 (pv 0) T.cl_QuestionReading T.me_QuestionReading_sign G_QuestionReading_sign (hr.mono (by first | decide | omega)) b_QuestionReading_sign v_QuestionReading_sign pass0) pe_non))))
  (pss_cons (ps_if (pt_cmpR op_isN (pv 1) pe_non (nomark _)) (pss_one (ps_raise rfl (takes_of rfl rfl rfl rfl) (pmk_oex T.ox_InvalidQuestion T.oi_InvalidQuestion T.ot_InvalidQuestion G_InvalidQuestion_init (hr.mono (by first | decide | omega)) b_InvalidQuestion_init v_InvalidQuestion_init pass0 rfl T.g_InvalidQuestion (pa_cons (pe_op op_add (eFld K rfl (pv 0) rfl) pe_int) (pa_cons pe_str pa_nil))))) pss_nil)
  (pss_cons (sFdAug K rfl in_add (pv 0) pe_int)
  (pss_one (ps_ret (pv 1)))))), ?_⟩
    have hlen := hl.len
    rw [List.length_cons] at hlen
    have hzl : z.length = z.cps.size := rfl
    have hbs : ("\\" : Str).cps.toList = [92] := by decide +kernel
    refine ⟨fun σ G => ∃ (i' : Nat) (v : V), σ = [some (.ref o), some v] ∧ QO K G o z i' m ∧ Kp [o] H G ∧ ((v = .non ∧ BadQ K H o E (i' + 1) "sign") ∨ ∃ s : Str, v = .str s ∧ ∀ H', QO K H' o z (i' + 1) m → Kp [o] H H' → Q (.str s) H'), ?_, ?_⟩
    · refine st_if (ans_v (q_begins (K := K) R hl rfl hbs)) (fun hb => ?_) (fun hb => ?_)
      · have hc92 : c = 92 := by
          have := of_decide_eq_true hb
          exact Option.some.inj this
        subst hc92
        refine st_seq (q_adv (k := 1) T R rfl val_c fun H1 R1 e1 => ?_)
        have f1 := qf (K := K) T R1 (j := 0) (σ := [some (.ref o), none]) rfl
        dsimp only
        refine st_seq (st_if (b := decide (r = [])) (ans_v (val_is (val_eq f1.2.1 (val_cb (va_one f1.1) fun Q q => ⟨z, rfl, sz_of (by omega), q⟩) rfl) (by
          congr 1
          rw [decide_eq_decide]
          constructor
          · intro h
            have := V.int.inj h
            exact List.length_eq_zero_iff.mp (by omega)
          · intro h
            rw [h, List.length_nil] at hlen
            congr 1
            omega))) (fun hr0 => ?_) (fun hr0 => ?_))
        · have hr0 := of_decide_eq_true hr0
          subst hr0
          refine go_ret ?_
          exact kD [] (i + 1) 0 "" H1 rfl hl.one (Nat.le_refl _) (by decide +kernel) R1 e1
        · have hr0 := of_decide_eq_false hr0
          obtain ⟨e, r', rfl⟩ : ∃ e r', r = e :: r' := by
            cases r with
            | nil => exact absurd rfl hr0
            | cons e r' => exact ⟨e, r', rfl⟩
          dsimp only [tNext]
          obtain ⟨es, n, hd⟩ := dk_ESCAPED D
          have hl1 := hl.one
          refine go_asg ⟨_, es, n, rfl, hd, q_sign (K := K) R1 hl1 hz rfl _ ?_⟩
          have h1 : (e :: r').take 1 = [e] := rfl
          rw [h1]
          have t1 : ("\"" : Str) = sL [34] := by decide +kernel
          have t2 : ("\\" : Str) = sL [92] := by decide +kernel
          have t3 : ("n" : Str) = sL [110] := by decide +kernel
          have yes : ∀ (s : Str) (u : Value), RelV (.str s) u → s.length ≤ 1 → (e = 34 ∨ e = 92 ∨ e = 110) → PySem.W.nsIn K (He.ga K "ESCAPED") (sL [e]) = some (some u) → ∃ (z_1 : Str) (r : Option Value) (v : V), V.str (sL [e]) = V.str z_1 ∧ PySem.W.nsIn K (He.ga K "ESCAPED") z_1 = some r ∧ RelV v (r.getD .none) ∧ ∃ (i' : Nat) (v' : V), ([some (.ref o), some v] : L2.St) = [some (.ref o), some v'] ∧ QO K H1 o z i' m ∧ Kp [o] H H1 ∧ ((v' = .non ∧ BadQ K H o E (i' + 1) "sign") ∨ ∃ s : Str, v' = .str s ∧ ∀ H', QO K H' o z (i' + 1) m → Kp [o] H H' → Q (.str s) H') := fun s u ru hs he hn =>
            ⟨_, _, .str s, rfl, hn, ru, i + 1, .str s, rfl, R1, e1, .inr ⟨s, rfl, fun H' R' k' => kD r' (i + 2) 0 s H' (by unfold qSg; rw [if_pos rfl]; dsimp only; rw [if_pos he]) hl1.one (by simp) hs R' k'⟩⟩
          by_cases h34 : e = 34
          · obtain ⟨u, hu, ru⟩ := T.dv_ESCAPED (p := ("\"", .str "\"")) (by simp)
            exact yes _ u ru (by decide +kernel) (.inl h34) (by rw [h34, ← t1]; exact hu)
          by_cases h92 : e = 92
          · obtain ⟨u, hu, ru⟩ := T.dv_ESCAPED (p := ("\\", .str "\\")) (by simp)
            exact yes _ u ru (by decide +kernel) (.inr (.inl h92)) (by rw [h92, ← t2]; exact hu)
          by_cases h110 : e = 110
          · obtain ⟨u, hu, ru⟩ := T.dv_ESCAPED (p := ("n", .str "\n")) (by simp)
            exact yes _ u ru (by decide +kernel) (.inr (.inr h110)) (by rw [h110, ← t3]; exact hu)
          · have hno : sL [e] ∉ (["\"", "\\", "n"] : List Str) := by
              rw [t1, t2, t3]
              intro h
              have inj : ∀ a : Nat, sL [e] = sL [a] → e = a := fun a q => (List.cons.inj (congrArg (fun x : Str => x.cps.toList) q)).1
              simp only [List.mem_cons, List.not_mem_nil, or_false] at h
              rcases h with h | h | h
              · exact h34 (inj _ h)
              · exact h92 (inj _ h)
              · exact h110 (inj _ h)
            exact ⟨_, none, .non, rfl, dn_ESCAPED D hno, rfl, i + 1, .non, rfl, R1, e1, .inl ⟨rfl, kE (i + 2) (by unfold qSg; rw [if_pos rfl]; dsimp only; rw [if_neg (by omega)])⟩⟩
      · have hc92 : c ≠ 92 := fun q => by
          rw [q] at hb
          cases hb
        refine go_asg (val_chN_if (a := 32) (b := 126) (take1_len _) (q_sign (K := K) R hl hz rfl) (by decide +kernel) (by decide +kernel) ?_ ?_)
        · intro hin
          have h2 : 32 ≤ c ∧ c ≤ 126 := by
            obtain ⟨h3, h4⟩ := Bool.and_eq_true_iff.mp (show (Nat.ble 32 c && Nat.ble c 126) = true from hin)
            exact ⟨Nat.le_of_ble_eq_true h3, Nat.le_of_ble_eq_true h4⟩
          exact q_sign (K := K) R hl hz rfl _ ⟨i, _, rfl, R, Kp.refl, .inr ⟨_, rfl, fun H' R' k' => kD r (i + 1) 0 _ H' (by unfold qSg; rw [if_neg hc92, if_pos h2]) hl.one (Nat.le_refl _) (by rw [sL_len]; exact take1_len _) R' k'⟩⟩
        · intro hin
          have h2 : ¬ (32 ≤ c ∧ c ≤ 126) := fun q => by
            have : (Nat.ble 32 c && Nat.ble c 126) = false := hin
            rw [Nat.ble_eq_true_of_le q.1, Nat.ble_eq_true_of_le q.2] at this
            cases this
          exact ⟨i, _, rfl, R, Kp.refl, .inl ⟨rfl, kE (i + 1) (by unfold qSg; rw [if_neg hc92, if_neg h2])⟩⟩
    · rintro σ G ⟨i', v, rfl, RG, eG, h⟩
      have fG := qf (K := K) T RG (j := 0) (σ := [some (.ref o), some v]) rfl
      rcases h with ⟨rfl, hB⟩ | ⟨s, rfl, k⟩
      · refine st_seq (st_yes (ans_v (val_is (val_isN (val_var rfl)) (by rw [decide_eq_true rfl]))) ?_)
        refine st_raise2 (W := fun cls d _ H => E cls d H) (y := .int ((i' + 1 : Nat) : Int)) (z := .str "sign") T.ox_InvalidQuestion T.na_InvalidQuestion_column T.na_InvalidQuestion_reason (val_is (val_I fG.2.1 val_c) (by congr 1)) val_c fun d hd => ?_
        exact hB.later eG RG.on d _ hd (Kp.new hd) upd_same
      · refine st_seq (st_no (ans_v (val_is (val_isN (val_var rfl)) (by rw [decide_eq_false nofun]))) ?_)
        dsimp only [tNext]
        refine st_seq (q_adv (k := 1) T RG rfl val_c fun H1 R1 e1 => ?_)
        dsimp only
        exact st_ret (val_var rfl) (k H1 R1 (eG.trans e1))
def spQString (K : PySem.W.Frag) : Sp := fun vs H Q E => ∃ (o : Addr) (z : Str) (i m : Nat) (r : List Nat), vs = [.ref o] ∧ QO K H o z i m ∧ remS z i (34 :: r) ∧ z.cps.size ≤ 1000 ∧ DoesQ K H o z (34 :: r) 0 (qString (34 :: r) i m) Q E
theorem ok_QuestionReading_read_string (T : TX K mg) (D : Dics ts w K) : Can P w K mg base (L2.CX P w) 5 (He.fAd K at_QuestionReading_read_string) ps_QuestionReading_read_string [] (spQString K) := by
  obtain ⟨fd_QuestionReading_begins, G_QuestionReading_begins, ds_QuestionReading_begins, v_QuestionReading_begins, b_QuestionReading_begins⟩ := ok_QuestionReading_begins (P := P) (w := w) (base := base) T
  obtain ⟨fd_InvalidQuestion_init, G_InvalidQuestion_init, ds_InvalidQuestion_init, v_InvalidQuestion_init, b_InvalidQuestion_init⟩ := ok_InvalidQuestion_init (P := P) (w := w) (base := base) T
  obtain ⟨fd_QuestionReading_read_string_sign, G_QuestionReading_read_string_sign, ds_QuestionReading_read_string_sign, v_QuestionReading_read_string_sign, b_QuestionReading_read_string_sign⟩ := ok_QuestionReading_read_string_sign (P := P) (w := w) (base := base) T D
  exact mk_QuestionReading_read_string T fun fd F => defX F sc_QuestionReading_read_string (fun vs H Q E h => by
    obtain ⟨o, z, i, m, r, rfl, _⟩ := h
    rfl) fun cdv A outer s H vs Q E hr h => by
    obtain ⟨o, z, i, m, r, rfl, R, hl, hz, kD⟩ := h
    refine ⟨_, (pss_cons (ps_set (i := 1) sc_QuestionReading_read_string.nd rfl (Or.inl rfl) (eFld K rfl (pv 0) rfl))
  (pss_cons (ps_set (i := 2) sc_QuestionReading_read_string.nd rfl (Or.inl rfl) (pe_lst pa_nil))
  (pss_cons (sFdAug K rfl in_add (pv 0) pe_int)
  (pss_cons (ps_while (passes_of rfl) (PW.pt (pw_and (pt_cmpR op_lt (eFld K rfl (pv 0) rfl) (pe_callB call_len_str (by rfl) T.n_len PySem.boot_len (pa_cons (eFld K rfl (pv 0) rfl) pa_nil)) (nomark _)) (pw_and1 (pt_not (pt_val (pe_meth (pv 0) T.cl_QuestionReading T.me_QuestionReading_begins G_QuestionReading_begins (hr.mono (by first | decide | omega)) b_QuestionReading_begins v_QuestionReading_begins pass0 (pa_cons pe_str pa_nil)))))))
  (pss_one (ps_expr (eBm K rfl PySem.F.plainAttrs_list PySem.F.slot_list_append PySem.F.type_list_append mt_append (pv 2) (pa_cons (pe_meth0 (pv 0) T.cl_QuestionReading T.me_QuestionReading_read_string_sign G_QuestionReading_read_string_sign (hr.mono (by first | decide | omega)) b_QuestionReading_read_string_sign v_QuestionReading_read_string_sign (passes_call (takes_of rfl rfl rfl rfl) (fun _ _ _ _ h => h))) pa_nil)))))
  (pss_cons (ps_if (PW.pt (pw_or (pt_not (pt_val (pe_meth (pv 0) T.cl_QuestionReading T.me_QuestionReading_begins G_QuestionReading_begins (hr.mono (by first | decide | omega)) b_QuestionReading_begins v_QuestionReading_begins pass0 (pa_cons pe_str pa_nil)))) (pw_or1 (pt_not (pt_chain op_le op_le pe_int (pe_callB (cLen K rfl) (by rfl) T.n_len PySem.boot_len (pa_cons (pv 2) pa_nil)) (pe_glob (v := .int 40) rfl T.c_STRING_SIGNS.choose_spec ⟨_, rfl⟩)))))) (pss_one (ps_raise rfl (takes_of rfl rfl rfl rfl) (pmk_oex T.ox_InvalidQuestion T.oi_InvalidQuestion T.ot_InvalidQuestion G_InvalidQuestion_init (hr.mono (by first | decide | omega)) b_InvalidQuestion_init v_InvalidQuestion_init pass0 rfl T.g_InvalidQuestion (pa_cons (pe_op op_add (pv 1) pe_int) (pa_cons pe_str pa_nil))))) pss_nil)
  (pss_cons (sFdAug K rfl in_add (pv 0) pe_int)
  (pss_one (ps_ret (pe_join pe_str (pv 2)))))))))), ?_⟩
    have hlen := hl.len
    rw [List.length_cons] at hlen
    have hzl : z.length = z.cps.size := rfl
    have hqt : ("\"" : Str).cps.toList = [34] := by decide +kernel
    refine st_seq (go_asg ((qf (K := K) T R (j := 0) (σ := [some (.ref o), none, none]) rfl).2.1 _ ?_))
    dsimp only [gName]
    refine st_seq ⟨by show 0 ≤ sizeLine; decide, fun p hp => ?_⟩
    dsimp only [gName]
    have npo : p ≠ o := R.ne hp
    refine st_seq (q_adv (k := 1) T (R.ex (Ex.new hp)) rfl val_c fun H1 R1 e1 => ?_)
    have hp1 : H1 p = some (.lst []) := e1.at upd_same (by simpa using npo)
    dsimp only
    refine st_seq ⟨fun k σ G => ∃ (l' : List Nat) (i' n : Nat) (xs : List Str), σ = [some (.ref o), some (.int (i : Int)), some (.ref p)] ∧ k = l'.length ∧ QO K G o z i' m ∧ remS z i' l' ∧ Kp [o] H G ∧ G p = some (.lst (xs.map V.str)) ∧ xs.length = n ∧ (xs.map (·.length)).sum ≤ n ∧ n + l'.length ≤ r.length ∧ qStr l' i' n = qStr r (i + 1) 0,
      ⟨_, r, i + 1, 0, [], rfl, rfl, R1, hl.one, (Kp.new hp).trans e1, hp1, rfl, Nat.le_refl _, by omega, rfl⟩, ?_⟩
    rintro k σ G ⟨l', i', n, xs, rfl, rfl, RG, hl', eG, hpG, hxn, hxs, hnl, hq⟩
    have hlen' := hl'.len
    have fG := qf (K := K) T RG (j := 0) (σ := [some (.ref o), some (.int (i : Int)), some (.ref p)]) rfl
    have hxl : (xs.map V.str).length = n := by rw [List.length_map]; exact hxn
    have cond : Ans (tAnd (tTest (tOp (rI0 fun i j => V.bl (decide (i < j))) (tFld K (tVar 0) "reached") (tCB (fun xs H Q => ∃ z, xs = [V.str z] ∧ z.length ≤ sizeLine ∧ Q (V.int (z.length : Int)) H) (tCons (tFld K (tVar 0) "source") tNil))))
        (tNot (tTest (tMeth (He.ga K "QuestionReading") "begins" (spQBegins K) [] E0 (tVar 0) (tCons (tC (.str "\"")) tNil))))) [some (.ref o), some (.int (i : Int)), some (.ref p)] G (goOn l') := by
      cases l' with
      | nil => exact ans_is (ans_and3 (a := false) (b := false) (ans_v (val_is (val_I fG.2.1 (val_cb (va_one fG.1) fun Q q => ⟨z, rfl, sz_of (by omega), q⟩)) (by
          rw [List.length_nil] at hlen'
          rw [decide_eq_false (by omega)]))) nofun) rfl
      | cons c r' => exact ans_is (ans_and3 (a := true) (b := !decide (some c = some 34)) (ans_v (val_is (val_I fG.2.1 (val_cb (va_one fG.1) fun Q q => ⟨z, rfl, sz_of (by omega), q⟩)) (by
          rw [List.length_cons] at hlen'
          rw [decide_eq_true (by omega)]))) fun _ => ans_not (ans_v (q_begins (K := K) RG hl' rfl hqt))) (by
          rw [Bool.true_and]
          congr 1
          rw [decide_eq_decide]
          exact ⟨fun h => Option.some.inj h, fun h => by rw [h]⟩)
    refine cond _ ?_
    have qfin : (goOn l') = false → qStr r (i + 1) 0 = .fin l' i' n := fun h => by
      rw [← hq]
      cases l' with
      | nil => exact qStr_nil _ _
      | cons c r' =>
        have : c = 34 := by simpa [goOn] using h
        rw [this]
        exact qStr_end _ _ _
    cases hb : (goOn l') with
    | true =>
      obtain ⟨c, r', rfl, hc⟩ : ∃ c r', l' = c :: r' ∧ c ≠ 34 := by
        cases l' with
        | nil => cases hb
        | cons c r' => exact ⟨c, r', rfl, by simpa [goOn] using hb⟩
      refine iteT ⟨fun σ' G' => ∃ k', k' < (c :: r').length ∧ ∃ (l' : List Nat) (i' n : Nat) (xs : List Str), σ' = [some (.ref o), some (.int (i : Int)), some (.ref p)] ∧ k' = l'.length ∧ QO K G' o z i' m ∧ remS z i' l' ∧ Kp [o] H G' ∧ G' p = some (.lst (xs.map V.str)) ∧ xs.length = n ∧ (xs.map (·.length)).sum ≤ n ∧ n + l'.length ≤ r.length ∧ qStr l' i' n = qStr r (i + 1) 0, fun _ _ h => h, ?_⟩
      obtain ⟨dx, hRG⟩ := id RG
      rw [List.length_cons] at hnl hlen'
      have hstep := qStr_step hc r' i' n
      rw [hq] at hstep
      refine ⟨_, rfl, Or.inl ⟨rfl, _, SqL.of hpG⟩, _, rfl, o, dx, _, rfl, hRG, fn_QuestionReading_read_string_sign .., o, z, i', m, c, r', rfl, RG, hl', hz, hc, fun l2 i2 n2 y G2 e2 hl2 hle hy R2 k2 => ?_, fun k e2 => ?_⟩
      · rw [e2] at hstep
        refine ⟨p, _, .str y, rfl, rfl, k2.at hpG (by simpa using npo), by rw [hxl]; exact sz_lt (by omega), ?_⟩
        refine ⟨_, ?_, l2, i2, n + 1, xs ++ [y], rfl, rfl, ?_, hl2, (eG.trans k2).mut hp, ?_, ?_, ?_, by omega, hstep.symm⟩
        · rw [List.length_cons]; omega
        · obtain ⟨dx2, hR2⟩ := R2
          exact ⟨dx2, by rw [upd_ne npo.symm]; exact hR2⟩
        · rw [upd_same, List.map_append]
          rfl
        · rw [List.length_append, List.length_singleton, hxn]
        · rw [List.map_append, List.sum_append]
          show _ + (y.length + 0) ≤ _
          omega
      · rw [e2] at hstep
        have : qString (34 :: r) i m = .no k "sign" := by
          unfold qString
          rw [List.tail_cons, hstep]
        exact (kD.2 k "sign" this).later eG RG.on
    | false =>
      refine iteF ?_
      have hfin := qfin hb
      have hres : qString (34 :: r) i m = if l'.head? = some 34 ∧ 1 ≤ n ∧ n ≤ 40 then .ok l'.tail (i' + 1) m else .no (i + 1) "string" := by
        unfold qString
        rw [List.tail_cons, hfin]
      rw [hres] at kD
      dsimp only
      refine st_seq (st_if (b := !decide (l'.head? = some 34 ∧ 1 ≤ n ∧ n ≤ 40)) (ans_is (ans_or2 (a := !decide (l'.head? = some 34)) (b := !(decide (1 ≤ n ∧ n ≤ 40))) (ans_not (ans_v (q_begins (K := K) RG hl' rfl hqt))) fun _ => ans_is (ans_not (ans_v (val_chain (g := fun i j => decide (i ≤ j)) (g' := fun i j => decide (i ≤ j)) (b := (n : Int)) val_c (val_is (val_lenL (val_var rfl) (SqL.of hpG)) (by rw [hxl])) val_c))) (by
        congr 1
        rw [Bool.decide_and]
        congr 1 <;> rw [decide_eq_decide] <;> omega)) (by rw [← Bool.not_and, ← Bool.decide_and])) (fun hb2 => ?_) (fun hb2 => ?_))
      · have hn : ¬ (l'.head? = some 34 ∧ 1 ≤ n ∧ n ≤ 40) := fun q => by rw [decide_eq_true q] at hb2; cases hb2
        rw [if_neg hn] at kD
        refine st_raise2 (W := fun cls d _ H => E cls d H) (y := .int ((i + 1 : Nat) : Int)) (z := .str "string") T.ox_InvalidQuestion T.na_InvalidQuestion_column T.na_InvalidQuestion_reason (val_is (val_I (val_var rfl) val_c) (by congr 1)) val_c fun d hd => ?_
        exact (kD.2 (i + 1) "string" rfl).later eG RG.on d _ hd (Kp.new hd) upd_same
      · have hn : l'.head? = some 34 ∧ 1 ≤ n ∧ n ≤ 40 := by simpa using hb2
        rw [if_pos hn] at kD
        obtain ⟨r', rfl⟩ : ∃ r', l' = 34 :: r' := by
          cases l' with
          | nil => cases hn.1
          | cons c r' => exact ⟨r', by rw [Option.some.inj hn.1]⟩
        rw [List.length_cons] at hnl
        dsimp only [tNext]
        refine st_seq (q_adv (k := 1) T RG rfl val_c fun H2 R2 e2 => ?_)
        dsimp only
        refine go_ret ⟨⟨_, rfl⟩, _, rfl, _, p, xs, rfl, rfl, .inl (SqL.of (e2.at hpG (by simpa using npo))), ?_, ?_⟩
        · show _ + _ * 0 ≤ _
          omega
        · exact kD.1 r' (i' + 1) m _ H2 rfl hl'.one (by rw [List.length_cons]; omega) R2 (eG.trans e2)
/-- self.many_steps += 1 -/
theorem q_more (T : TX K mg) {D : Ends} {σ : L2.St} {H : Hp} {o : Addr} {z : Str} {i m : Nat} (h : QO K H o z i m) (hσ : σ[0]? = some (some (.ref o))) (q : ∀ H', QO K H' o z i (m + 1) → Kp [o] H H' → D.nx σ H') : sFldAug K (tVar 0) (tC (.int 1)) rAdd "many_steps" D σ H := by
  obtain ⟨dx, h⟩ := h
  refine ⟨_, hσ, o, _, dx, _, _, rfl, h, T.cl_QuestionReading, T.na_QuestionReading_many_steps, fl_QuestionReading_many_steps .., _, _, rfl, rfl, dx, _, h, fq_len .., ?_⟩
  rw [pq_many, show (m : Int) + 1 = ((m + 1 : Nat) : Int) by omega]
  exact q _ ⟨dx, upd_same⟩ Kp.up
def spQSteps (K : PySem.W.Frag) (k : Nat) : Sp := fun vs H Q E => ∃ (o : Addr) (z : Str) (i m : Nat) (l : List Nat), vs = [.ref o, .int (4 - (k : Int))] ∧ QO K H o z i m ∧ remS z i l ∧ z.cps.size ≤ 1000 ∧ DoesQ K H o z l 1 (qSteps k l i m) Q E
def spQStep (K : PySem.W.Frag) (k : Nat) : Sp := fun vs H Q E => ∃ (o : Addr) (z : Str) (i m : Nat) (l : List Nat), vs = [.ref o, .int (4 - (k : Int))] ∧ QO K H o z i m ∧ remS z i l ∧ z.cps.size ≤ 1000 ∧ DoesQ K H o z l 1 (qStepK k l i m) Q E
def spQFilter (K : PySem.W.Frag) (k : Nat) : Sp := fun vs H Q E => ∃ (o : Addr) (z ax : Str) (i m : Nat) (r : List Nat), vs = [.ref o, .str ax, .int (3 - (k : Int))] ∧ QO K H o z i m ∧ remS z i (91 :: r) ∧ z.cps.size ≤ 1000 ∧ DoesQ K H o z (91 :: r) 1 (qFilter (qSteps k) (decide (ax = "below")) (91 :: r) i m) Q E
theorem no_filter_ok (T : TX K mg) : Can P w K mg base (L2.CX P w) 0 (He.fAd K at_QuestionReading_read_filter) ps_QuestionReading_read_filter [] (fun _ _ _ _ => False) := mk_QuestionReading_read_filter T fun fd F => ⟨fun _ _ _ _ h => h.elim, fun _ _ _ _ _ _ _ _ _ _ _ _ _ h => h.elim⟩
theorem qFilter_eq (steps : List Nat → Nat → Nat → QR) (b : Bool) (r : List Nat) (i m : Nat) : qFilter steps b (91 :: r) i m = qClose (if r.head? = some 47 then steps r (i + 1) m else if r.head? = some 34 then qString r (i + 1) m else if inB 49 57 (r.take 1) = true then qNum b r (i + 1) m else .no (i + 2) "filter") := by
  unfold qFilter
  rw [List.tail_cons]
  cases r with
  | nil => rfl
  | cons c r => rfl
theorem ok_filter_of (T : TX K mg) (D : Dics ts w K) {j k : Nat} (hj : 8 ≤ j) (S : Can P w K mg base (L2.CX P w) j (He.fAd K at_QuestionReading_read_steps) ps_QuestionReading_read_steps [] (spQSteps K k)) :
    Can P w K mg base (L2.CX P w) (j + 1) (He.fAd K at_QuestionReading_read_filter) ps_QuestionReading_read_filter [] (spQFilter K k) := by
  obtain ⟨fd_S, G_QuestionReading_read_steps, ds_S, v_QuestionReading_read_steps, b_QuestionReading_read_steps⟩ := S
  obtain ⟨fd_QuestionReading_begins, G_QuestionReading_begins, ds_QuestionReading_begins, v_QuestionReading_begins, b_QuestionReading_begins⟩ := ok_QuestionReading_begins (P := P) (w := w) (base := base) T
  obtain ⟨fd_QuestionReading_sign, G_QuestionReading_sign, ds_QuestionReading_sign, v_QuestionReading_sign, b_QuestionReading_sign⟩ := ok_QuestionReading_sign (P := P) (w := w) (base := base) T
  obtain ⟨fd_QuestionReading_read_number, G_QuestionReading_read_number, ds_QuestionReading_read_number, v_QuestionReading_read_number, b_QuestionReading_read_number⟩ := ok_QuestionReading_read_number (P := P) (w := w) (base := base) T
  obtain ⟨fd_InvalidQuestion_init, G_InvalidQuestion_init, ds_InvalidQuestion_init, v_InvalidQuestion_init, b_InvalidQuestion_init⟩ := ok_InvalidQuestion_init (P := P) (w := w) (base := base) T
  obtain ⟨fd_QuestionReading_read_string, G_QuestionReading_read_string, ds_QuestionReading_read_string, v_QuestionReading_read_string, b_QuestionReading_read_string⟩ := ok_QuestionReading_read_string (P := P) (w := w) (base := base) T D
  exact mk_QuestionReading_read_filter T fun fd F => defX F sc_QuestionReading_read_filter (fun vs H Q E h => by
    obtain ⟨o, z, ax, i, m, r, rfl, _⟩ := h
    rfl) fun cdv A outer s H vs Q E hr h => by
    obtain ⟨o, z, ax, i, m, r, rfl, R, hl, hz, kD⟩ := h
    refine ⟨_, (pss_cons (sFdAug K rfl in_add (pv 0) pe_int)
  (Evl.pss_cut (ps_if (pt_val (pe_meth (pv 0) T.cl_QuestionReading T.me_QuestionReading_begins G_QuestionReading_begins (hr.mono (by first | decide | omega)) b_QuestionReading_begins v_QuestionReading_begins pass0 (pa_cons pe_str pa_nil))) (pss_one (ps_set (i := 3) sc_QuestionReading_read_filter.nd rfl (Or.inl rfl) (pe_tup (pa_cons pe_str (pa_cons (pe_meth (pv 0) T.cl_QuestionReading T.me_QuestionReading_read_steps G_QuestionReading_read_steps (hr.mono (by first | decide | omega)) b_QuestionReading_read_steps v_QuestionReading_read_steps (passes_call (takes_of rfl rfl rfl rfl) (fun _ _ _ _ h => h)) (pa_cons (pe_op op_add (pv 2) pe_int) pa_nil)) pa_nil))))) (pss_one (ps_if (pt_val (pe_meth (pv 0) T.cl_QuestionReading T.me_QuestionReading_begins G_QuestionReading_begins (hr.mono (by first | decide | omega)) b_QuestionReading_begins v_QuestionReading_begins pass0 (pa_cons pe_str pa_nil))) (pss_one (ps_set (i := 3) sc_QuestionReading_read_filter.nd rfl (Or.inl rfl) (pe_tup (pa_cons pe_str (pa_cons (pe_meth0 (pv 0) T.cl_QuestionReading T.me_QuestionReading_read_string G_QuestionReading_read_string (hr.mono (by first | decide | omega)) b_QuestionReading_read_string v_QuestionReading_read_string (passes_call (takes_of rfl rfl rfl rfl) (fun _ _ _ _ h => h))) pa_nil))))) (pss_one (ps_if (pt_chain op_le_str op_le_str pe_str (pe_meth0 (pv 0) T.cl_QuestionReading T.me_QuestionReading_sign G_QuestionReading_sign (hr.mono (by first | decide | omega)) b_QuestionReading_sign v_QuestionReading_sign pass0) pe_str) (pss_one (ps_set (i := 3) sc_QuestionReading_read_filter.nd rfl (Or.inl rfl) (pe_tup (pa_cons pe_str (pa_cons (pe_meth (pv 0) T.cl_QuestionReading T.me_QuestionReading_read_number G_QuestionReading_read_number (hr.mono (by first | decide | omega)) b_QuestionReading_read_number v_QuestionReading_read_number (passes_call (takes_of rfl rfl rfl rfl) (fun _ _ _ _ h => h)) (pa_cons (pv 1) pa_nil)) pa_nil))))) (pss_one (ps_raise rfl (takes_of rfl rfl rfl rfl) (pmk_oex T.ox_InvalidQuestion T.oi_InvalidQuestion T.ot_InvalidQuestion G_InvalidQuestion_init (hr.mono (by first | decide | omega)) b_InvalidQuestion_init v_InvalidQuestion_init pass0 rfl T.g_InvalidQuestion (pa_cons (pe_op op_add (eFld K rfl (pv 0) rfl) pe_int) (pa_cons pe_str pa_nil))))))))))
  (pss_cons (ps_if (pt_not (pt_val (pe_meth (pv 0) T.cl_QuestionReading T.me_QuestionReading_begins G_QuestionReading_begins (hr.mono (by first | decide | omega)) b_QuestionReading_begins v_QuestionReading_begins pass0 (pa_cons pe_str pa_nil)))) (pss_one (ps_raise rfl (takes_of rfl rfl rfl rfl) (pmk_oex T.ox_InvalidQuestion T.oi_InvalidQuestion T.ot_InvalidQuestion G_InvalidQuestion_init (hr.mono (by first | decide | omega)) b_InvalidQuestion_init v_InvalidQuestion_init pass0 rfl T.g_InvalidQuestion (pa_cons (pe_op op_add (eFld K rfl (pv 0) rfl) pe_int) (pa_cons pe_str pa_nil))))) pss_nil)
  (pss_cons (sFdAug K rfl in_add (pv 0) pe_int)
  (pss_one (ps_ret (pv 3))))))), ?_⟩
    rw [qFilter_eq] at kD
    have hsl : ("/" : Str).cps.toList = [47] := by decide +kernel
    have hqt : ("\"" : Str).cps.toList = [34] := by decide +kernel
    have hcl : ("]" : Str).cps.toList = [93] := by decide +kernel
    refine st_seq (q_adv (k := 1) T R rfl val_c fun H1 R1 e1 => ?_)
    have hl1 := hl.one
    dsimp only
    generalize hres : (if r.head? = some 47 then qSteps k r (i + 1) m else if r.head? = some 34 then qString r (i + 1) m else if inB 49 57 (r.take 1) = true then qNum (decide (ax = "below")) r (i + 1) m else .no (i + 2) "filter") = res at kD
    have bad : ∀ {c : Nat} {y : Str} {G : Hp}, res = .no c y → Kp [o] H G → G o ≠ none → BadQ K G o E c y := fun {c y G} e k1 ho => (kD.2 c y (by rw [e]; rfl)).later k1 ho
    refine ⟨fun σ G => ∃ (l' : List Nat) (i' m' : Nat) (v : V), σ = [some (.ref o), some (.str ax), some (.int (3 - (k : Int))), some v] ∧ res = .ok l' i' m' ∧ remS z i' l' ∧ l'.length ≤ r.length ∧ QO K G o z i' m' ∧ Kp [o] H G, ?_, ?_⟩
    · obtain ⟨dx, hR1⟩ := id R1
      refine st_if (ans_v (q_begins (K := K) R1 hl1 rfl hsl)) (fun hb => ?_) (fun hb => ?_)
      · rw [if_pos (of_decide_eq_true hb)] at hres
        refine go_asg ⟨_, rfl, o, dx, _, rfl, hR1, fn_QuestionReading_read_steps .., _, rfl, _, _, rfl, rfl, o, z, i + 1, m, r, ?_, R1, hl1, hz, fun l' i' m' v G e hl' hle RG k1 => ⟨by show 2 ≤ sizeLine; decide, fun t ht => ?_⟩, fun c y e => bad (hres.symm.trans e) e1 R1.on⟩
        · show [V.ref o, V.int (3 - (k : Int) + 1)] = _
          rw [show 3 - (k : Int) + 1 = 4 - (k : Int) by omega]
        · exact ⟨l', i', m', _, rfl, hres.symm.trans e, hl', by omega, RG.ex (Ex.new ht), (e1.trans k1).trans (Kp.new ht)⟩
      · rw [if_neg (of_decide_eq_false hb)] at hres
        refine st_if (ans_v (q_begins (K := K) R1 hl1 rfl hqt)) (fun hb => ?_) (fun hb => ?_)
        · have hb' := of_decide_eq_true hb
          rw [if_pos hb'] at hres
          obtain ⟨r', rfl⟩ : ∃ r', r = 34 :: r' := by
            cases r with
            | nil => cases hb'
            | cons c r' => exact ⟨r', by rw [Option.some.inj hb']⟩
          refine go_asg ⟨_, rfl, o, dx, _, rfl, hR1, fn_QuestionReading_read_string .., o, z, i + 1, m, r', rfl, R1, hl1, hz, fun l' i' m' v G e hl' hle RG k1 => ⟨by show 2 ≤ sizeLine; decide, fun t ht => ?_⟩, fun c y e => bad (hres.symm.trans e) e1 R1.on⟩
          exact ⟨l', i', m', _, rfl, hres.symm.trans e, hl', by omega, RG.ex (Ex.new ht), (e1.trans k1).trans (Kp.new ht)⟩
        · rw [if_neg (of_decide_eq_false hb)] at hres
          refine st_if (ans_v (val_chN (a := 49) (b := 57) (take1_len _) (q_sign (K := K) R1 hl1 hz rfl) (by decide +kernel) (by decide +kernel))) (fun hb => ?_) (fun hb => ?_)
          · rw [if_pos hb] at hres
            refine go_asg ⟨_, rfl, o, dx, _, rfl, hR1, fn_QuestionReading_read_number .., _, rfl, o, z, ax, i + 1, m, r, rfl, R1, hl1, hz, ?_, fun l' i' m' v G e hl' hle RG k1 => ⟨by show 2 ≤ sizeLine; decide, fun t ht => ?_⟩, fun c y e => bad (hres.symm.trans e) e1 R1.on⟩
            · cases r with
              | nil => cases hb
              | cons c r' =>
                refine ⟨c, r', rfl, ?_⟩
                obtain ⟨h3, h4⟩ := Bool.and_eq_true_iff.mp (show (Nat.ble 49 c && Nat.ble c 57) = true from hb)
                unfold digB
                rw [h4, Nat.ble_eq_true_of_le (Nat.le_trans (by decide) (Nat.le_of_ble_eq_true h3))]
                rfl
            · exact ⟨l', i', m', _, rfl, hres.symm.trans e, hl', by omega, RG.ex (Ex.new ht), (e1.trans k1).trans (Kp.new ht)⟩
          · rw [if_neg (by rw [hb]; nofun)] at hres
            have f1 := qf (K := K) T R1 (j := 0) (σ := [some (.ref o), some (.str ax), some (.int (3 - (k : Int))), none]) rfl
            refine st_raise2 (W := fun cls d _ H => E cls d H) (y := .int ((i + 2 : Nat) : Int)) (z := .str "filter") T.ox_InvalidQuestion T.na_InvalidQuestion_column T.na_InvalidQuestion_reason (val_is (val_I f1.2.1 val_c) (by congr 1)) val_c fun d hd => ?_
            exact bad hres.symm e1 R1.on d _ hd (Kp.new hd) upd_same
    · rintro σ G ⟨l', i', m', v, rfl, e, hl', hle, RG, eG⟩
      rw [e] at kD
      have kD' : DoesQ K H o z (91 :: r) 1 (if l'.head? = some 93 then .ok l'.tail (i' + 1) m' else .no (i' + 1) "close") Q E := kD
      have fG := qf (K := K) T RG (j := 0) (σ := [some (.ref o), some (.str ax), some (.int (3 - (k : Int))), some v]) rfl
      refine st_seq (st_if (ans_not (ans_v (q_begins (K := K) RG hl' rfl hcl))) (fun hb => ?_) (fun hb => ?_))
      · have hn : ¬ l'.head? = some 93 := fun q => by rw [decide_eq_true q] at hb; cases hb
        rw [if_neg hn] at kD'
        refine st_raise2 (W := fun cls d _ H => E cls d H) (y := .int ((i' + 1 : Nat) : Int)) (z := .str "close") T.ox_InvalidQuestion T.na_InvalidQuestion_column T.na_InvalidQuestion_reason (val_is (val_I fG.2.1 val_c) (by congr 1)) val_c fun d hd => ?_
        exact (kD'.2 (i' + 1) "close" rfl).later eG RG.on d _ hd (Kp.new hd) upd_same
      · have hn : l'.head? = some 93 := by simpa using hb
        rw [if_pos hn] at kD'
        obtain ⟨r', rfl⟩ : ∃ r', l' = 93 :: r' := by
          cases l' with
          | nil => cases hn
          | cons c r' => exact ⟨r', by rw [Option.some.inj hn]⟩
        rw [List.length_cons] at hle
        dsimp only [tNext]
        refine st_seq (q_adv (k := 1) T RG rfl val_c fun H2 R2 e2 => ?_)
        dsimp only
        exact st_ret (val_var rfl) (kD'.1 r' (i' + 1) m' _ H2 rfl hl'.one (by rw [List.length_cons]; omega) R2 (eG.trans e2))
theorem ok_step_of (T : TX K mg) (D : Dics ts w K) {j k : Nat} (hj : 8 ≤ j) {spF : Sp} (S : Can P w K mg base (L2.CX P w) j (He.fAd K at_QuestionReading_read_filter) ps_QuestionReading_read_filter [] spF)
    (hF : ∀ k', k = k' + 1 → ∀ vs H Q E, spQFilter K k' vs H Q E → spF vs H Q E) (hk : k ≤ 3) : Can P w K mg base (L2.CX P w) (j + 1) (He.fAd K at_QuestionReading_read_step) ps_QuestionReading_read_step [] (spQStep K k) := by
  obtain ⟨fd_S, G_QuestionReading_read_filter, ds_S, v_QuestionReading_read_filter, b_QuestionReading_read_filter⟩ := S
  obtain ⟨fd_QuestionReading_begins, G_QuestionReading_begins, ds_QuestionReading_begins, v_QuestionReading_begins, b_QuestionReading_begins⟩ := ok_QuestionReading_begins (P := P) (w := w) (base := base) T
  obtain ⟨fd_QuestionReading_read_test, G_QuestionReading_read_test, ds_QuestionReading_read_test, v_QuestionReading_read_test, b_QuestionReading_read_test⟩ := ok_QuestionReading_read_test (P := P) (w := w) (base := base) T
  obtain ⟨fd_InvalidQuestion_init, G_InvalidQuestion_init, ds_InvalidQuestion_init, v_InvalidQuestion_init, b_InvalidQuestion_init⟩ := ok_InvalidQuestion_init (P := P) (w := w) (base := base) T
  exact mk_QuestionReading_read_step T fun fd F => defX F sc_QuestionReading_read_step (fun vs H Q E h => by
    obtain ⟨o, z, i, m, l, rfl, _⟩ := h
    rfl) fun cdv A outer s H vs Q E hr h => by
    obtain ⟨o, z, i, m, l, rfl, R, hl, hz, kD⟩ := h
    refine ⟨_, (pss_cons (ps_if (pt_not (pt_val (pe_meth (pv 0) T.cl_QuestionReading T.me_QuestionReading_begins G_QuestionReading_begins (hr.mono (by first | decide | omega)) b_QuestionReading_begins v_QuestionReading_begins pass0 (pa_cons pe_str pa_nil)))) (pss_one (ps_raise rfl (takes_of rfl rfl rfl rfl) (pmk_oex T.ox_InvalidQuestion T.oi_InvalidQuestion T.ot_InvalidQuestion G_InvalidQuestion_init (hr.mono (by first | decide | omega)) b_InvalidQuestion_init v_InvalidQuestion_init pass0 rfl T.g_InvalidQuestion (pa_cons (pe_op op_add (eFld K rfl (pv 0) rfl) pe_int) (pa_cons pe_str pa_nil))))) pss_nil)
  (pss_cons (ps_if (pt_cmpR op_eq (eFld K rfl (pv 0) rfl) (pe_glob (v := .int 12) rfl T.c_MOST_STEPS.choose_spec ⟨_, rfl⟩) (nomark _)) (pss_one (ps_raise rfl (takes_of rfl rfl rfl rfl) (pmk_oex T.ox_InvalidQuestion T.oi_InvalidQuestion T.ot_InvalidQuestion G_InvalidQuestion_init (hr.mono (by first | decide | omega)) b_InvalidQuestion_init v_InvalidQuestion_init pass0 rfl T.g_InvalidQuestion (pa_cons (pe_op op_add (eFld K rfl (pv 0) rfl) pe_int) (pa_cons pe_str pa_nil))))) pss_nil)
  (pss_cons (ps_if (pt_cmpR op_gt (pv 1) (pe_glob (v := .int 3) rfl T.c_MOST_NESTED.choose_spec ⟨_, rfl⟩) (nomark _)) (pss_one (ps_raise rfl (takes_of rfl rfl rfl rfl) (pmk_oex T.ox_InvalidQuestion T.oi_InvalidQuestion T.ot_InvalidQuestion G_InvalidQuestion_init (hr.mono (by first | decide | omega)) b_InvalidQuestion_init v_InvalidQuestion_init pass0 rfl T.g_InvalidQuestion (pa_cons (pe_op op_add (eFld K rfl (pv 0) rfl) pe_int) (pa_cons pe_str pa_nil))))) pss_nil)
  (pss_cons (sFdAug K rfl in_add (pv 0) pe_int)
  (pss_cons (ps_set (i := 2) sc_QuestionReading_read_step.nd rfl (Or.inl rfl) (pe_ifExp (pt_val (pe_meth (pv 0) T.cl_QuestionReading T.me_QuestionReading_begins G_QuestionReading_begins (hr.mono (by first | decide | omega)) b_QuestionReading_begins v_QuestionReading_begins pass0 (pa_cons pe_str pa_nil))) pe_str pe_str))
  (pss_cons (sFdAug K rfl in_add (pv 0) (pe_callB call_len_str (by rfl) T.n_len PySem.boot_len (pa_cons (pe_ix (ixKD K w rfl rfl) (pe_glob (v := .ref (He.ga K "AXES")) rfl T.g_AXES rfl) (pv 2) (fun _ _ => rfl)) pa_nil)))
  (pss_cons (ps_set (i := 3) sc_QuestionReading_read_step.nd rfl (Or.inl rfl) (pe_meth0 (pv 0) T.cl_QuestionReading T.me_QuestionReading_read_test G_QuestionReading_read_test (hr.mono (by first | decide | omega)) b_QuestionReading_read_test v_QuestionReading_read_test (passes_call (takes_of rfl rfl rfl rfl) (fun _ _ _ _ h => h))))
  (pss_cons (ps_set (i := 4) sc_QuestionReading_read_step.nd rfl (Or.inl rfl) (pe_lst pa_nil))
  (pss_cons (ps_while (passes_of rfl) (pt_val (pe_meth (pv 0) T.cl_QuestionReading T.me_QuestionReading_begins G_QuestionReading_begins (hr.mono (by first | decide | omega)) b_QuestionReading_begins v_QuestionReading_begins pass0 (pa_cons pe_str pa_nil)))
  (pss_one (ps_expr (eBm K rfl PySem.F.plainAttrs_list PySem.F.slot_list_append PySem.F.type_list_append mt_append (pv 4) (pa_cons (pe_meth (pv 0) T.cl_QuestionReading T.me_QuestionReading_read_filter G_QuestionReading_read_filter (hr.mono (by first | decide | omega)) b_QuestionReading_read_filter v_QuestionReading_read_filter (passes_call (takes_of rfl rfl rfl rfl) (fun _ _ _ _ h => h)) (pa_cons (pv 2) (pa_cons (pv 1) pa_nil))) pa_nil)))))
  (pss_one (ps_ret (pe_tup (pa_cons (pv 2) (pa_cons (pv 3) (pa_cons (pv 4) pa_nil))))))))))))))), ?_⟩
    have hsl : ("/" : Str).cps.toList = [47] := by decide +kernel
    have hs2 : ("//" : Str).cps.toList = [47, 47] := by decide +kernel
    have hbr : ("[" : Str).cps.toList = [91] := by decide +kernel
    obtain ⟨steps, hst⟩ : ∃ steps, qStepK k = qStep steps (decide (k = 0)) ∧ ∀ k', k = k' + 1 → steps = qSteps k' := by
      cases k with
      | zero => exact ⟨_, rfl, nofun⟩
      | succ k => exact ⟨qSteps k, rfl, fun k' e => by cases e; rfl⟩
    obtain ⟨hst, hst2⟩ := hst
    rw [hst] at kD
    have f0 := qf (K := K) T R (j := 0) (σ := [some (.ref o), some (.int (4 - (k : Int))), none, none, none]) rfl
    refine st_seq (st_if (ans_not (ans_v (q_begins (K := K) R hl rfl hsl))) (fun hb => ?_) (fun hb => ?_))
    · have hn : ¬ l.head? = some 47 := fun q => by rw [decide_eq_true q] at hb; cases hb
      refine st_raise2 (W := fun cls d _ H => E cls d H) (y := .int ((i + 1 : Nat) : Int)) (z := .str "step") T.ox_InvalidQuestion T.na_InvalidQuestion_column T.na_InvalidQuestion_reason (val_is (val_I f0.2.1 val_c) (by congr 1)) val_c fun d hd => ?_
      exact kD.2 (i + 1) "step" (by unfold qStep; rw [if_neg hn]) d _ hd (Kp.new hd) upd_same
    have hn : l.head? = some 47 := by simpa using hb
    obtain ⟨r, rfl⟩ : ∃ r, l = 47 :: r := by
      cases l with
      | nil => cases hn
      | cons c r' => exact ⟨r', by rw [Option.some.inj hn]⟩
    unfold qStep at kD
    rw [if_pos hn] at kD
    dsimp only [tNext]
    refine st_seq (st_if (b := decide (m = 12)) (ans_v (val_is (val_eq f0.2.2 val_c rfl) (by
      congr 1
      rw [decide_eq_decide]
      exact ⟨fun h => by have := V.int.inj h; omega, fun h => by rw [h]; rfl⟩))) (fun hb => ?_) (fun hb => ?_))
    · rw [if_pos (of_decide_eq_true hb)] at kD
      refine st_raise2 (W := fun cls d _ H => E cls d H) (y := .int ((i + 1 : Nat) : Int)) (z := .str "steps") T.ox_InvalidQuestion T.na_InvalidQuestion_column T.na_InvalidQuestion_reason (val_is (val_I f0.2.1 val_c) (by congr 1)) val_c fun d hd => ?_
      exact kD.2 (i + 1) "steps" rfl d _ hd (Kp.new hd) upd_same
    rw [if_neg (of_decide_eq_false hb)] at kD
    dsimp only [tNext]
    refine st_seq (st_if (b := decide (k = 0)) (ans_v (val_is (val_I (val_var rfl) val_c) (by
      congr 1
      rw [decide_eq_decide]
      omega))) (fun hb => ?_) (fun hb => ?_))
    · rw [if_pos hb] at kD
      refine st_raise2 (W := fun cls d _ H => E cls d H) (y := .int ((i + 1 : Nat) : Int)) (z := .str "deep") T.ox_InvalidQuestion T.na_InvalidQuestion_column T.na_InvalidQuestion_reason (val_is (val_I f0.2.1 val_c) (by congr 1)) val_c fun d hd => ?_
      exact kD.2 (i + 1) "deep" rfl d _ hd (Kp.new hd) upd_same
    rw [if_neg (by rw [hb]; nofun)] at kD
    have hk0 := of_decide_eq_false hb
    obtain ⟨k', rfl⟩ : ∃ k', k = k' + 1 := ⟨k - 1, by omega⟩
    obtain rfl := hst2 k' rfl
    clear hst2
    dsimp only [tNext]
    refine st_seq (q_more T R rfl fun H1 R1 e1 => ?_)
    dsimp only
    obtain ⟨ax, hax, hbel, hlen⟩ : ∃ ax : Str, (ax = if qAxis (47 :: r) = true then "below" else "child") ∧ decide (ax = "below") = qAxis (47 :: r) ∧ ∀ H, Val (tCB (fun xs H Q => ∃ z, xs = [V.str z] ∧ z.length ≤ sizeLine ∧ Q (V.int (z.length : Int)) H) (tCons (tOp (rIxD K w) (tC (.ref (He.ga K "AXES"))) (tVar 2)) tNil)) [some (.ref o), some (.int (4 - ((k' + 1 : Nat) : Int))), some (.str ax), none, none] H (.int ((bif qAxis (47 :: r) then 2 else 1 : Nat) : Int)) := by
      obtain ⟨es, n, hd⟩ := dk_AXES D
      cases hq : qAxis (47 :: r) with
      | true =>
        obtain ⟨u, hu, ru⟩ := T.dv_AXES (p := ("below", .str "//")) (by simp)
        exact ⟨"below", rfl, by decide +kernel, fun H => val_cb (va_one (val_op val_c (val_var rfl) fun Q q => ⟨_, _, .str "//", rfl, rfl, ⟨es, n, u, hd.at_, hd.lit, hu, ru⟩, q⟩)) fun Q q => ⟨_, rfl, by decide +kernel, q⟩⟩
      | false =>
        obtain ⟨u, hu, ru⟩ := T.dv_AXES (p := ("child", .str "/")) (by simp)
        exact ⟨"child", rfl, by decide +kernel, fun H => val_cb (va_one (val_op val_c (val_var rfl) fun Q q => ⟨_, _, .str "/", rfl, rfl, ⟨es, n, u, hd.at_, hd.lit, hu, ru⟩, q⟩)) fun Q q => ⟨_, rfl, by decide +kernel, q⟩⟩
    refine st_seq (go_asg (val_if (b := qAxis (47 :: r)) (v := .str ax) (ans_v fun Q q => ?_) (fun h => by rw [hax, if_pos h]; exact val_c) (fun h => by rw [hax, if_neg (by rw [h]; nofun)]; exact val_c) _ ?_))
    · obtain ⟨dx, hR⟩ := id R1
      refine ⟨_, rfl, o, dx, _, rfl, hR, fn_QuestionReading_begins .., o, "//", z, i, m + 1, _, rfl, R1, hl, ?_⟩
      rw [hs2, show ([47, 47] : List Nat).length = 2 from rfl]
      have : decide (List.take 2 (47 :: r) = [47, 47]) = qAxis (47 :: r) := by
        unfold qAxis
        rw [List.tail_cons, List.take_succ_cons, ← take_one, decide_eq_decide]
        exact ⟨fun h => (List.cons.inj h).2, fun h => by rw [h]⟩
      rw [this]
      exact q
    dsimp only [gName]
    refine st_seq (q_adv T R1 rfl (hlen H1) fun H2 R2 e2 => ?_)
    clear hlen
    have hdl : (bif qAxis (47 :: r) then 2 else 1 : Nat) ≤ (47 :: r).length := by
      cases hq : qAxis (47 :: r) with
      | true =>
        unfold qAxis at hq
        cases r with
        | nil => cases hq
        | cons c r => show 2 ≤ r.length + 1 + 1; omega
      | false => show 1 ≤ r.length + 1; omega
    have hdp : 1 ≤ (bif qAxis (47 :: r) then 2 else 1 : Nat) := by cases qAxis (47 :: r) <;> decide
    have hl2 := hl.drop hdl
    generalize (bif qAxis (47 :: r) then 2 else 1 : Nat) = dd at kD R2 hl2 hdl hdp
    have hld : ((47 :: r).drop dd).length + 1 ≤ (47 :: r).length := by rw [List.length_drop]; omega
    generalize (47 :: r).drop dd = l2 at kD hl2 hld
    have e02 := e1.trans e2
    obtain ⟨dx, hR2⟩ := id R2
    dsimp only
    refine st_seq (go_asg ⟨_, rfl, o, dx, _, rfl, hR2, fn_QuestionReading_read_test .., o, z, _, _, l2, rfl, R2, hl2, hz, fun l3 i3 m3 v H3 e3 hl3 hle3 R3 k3 => ?_, fun c y e => ?_⟩)
    rotate_left
    · rw [e] at kD
      exact (kD.2 c y rfl).later e02 R2.on
    rw [e3] at kD
    have kD' : DoesQ K H o z (47 :: r) 1 (qLoop 91 (qFilter (qSteps k') (qAxis (47 :: r))) (l3.length + 1) l3 i3 m3) Q E := kD
    clear kD
    dsimp only [gName]
    refine st_seq ⟨by show 0 ≤ sizeLine; decide, fun p hp => ?_⟩
    dsimp only [gName]
    have npo : p ≠ o := R3.ne hp
    have e03 := e02.trans k3
    have hpH : H p = none := e03.back (fun a ha => by rw [List.mem_singleton.mp ha]; exact R3.on) hp
    have hlz := hl.len
    rw [List.length_cons] at hlz hld
    refine st_seq ⟨fun μ σ G => ∃ (l' : List Nat) (i' m' f : Nat) (xs : List V), σ = [some (.ref o), some (.int (4 - ((k' + 1 : Nat) : Int))), some (.str ax), some v, some (.ref p)] ∧ μ = l'.length ∧ QO K G o z i' m' ∧ remS z i' l' ∧ Kp [o] H G ∧ G p = some (.lst xs) ∧ xs.length + l'.length ≤ 1000 ∧ l'.length ≤ l3.length ∧ l'.length < f ∧
        qLoop 91 (qFilter (qSteps k') (qAxis (47 :: r))) f l' i' m' = qLoop 91 (qFilter (qSteps k') (qAxis (47 :: r))) (l3.length + 1) l3 i3 m3,
      ⟨_, l3, i3, m3, _, [], rfl, rfl, R3.ex (Ex.new hp), hl3, e03.trans (Kp.new hp), upd_same, by rw [List.length_nil]; omega, Nat.le_refl _, Nat.lt_succ_self _, rfl⟩, ?_⟩
    rintro μ σ G ⟨l', i', m', f, xs, rfl, rfl, RG, hl', eG, hpG, hxs, hle', hf, hq⟩
    refine ans_v (q_begins (K := K) RG hl' rfl hbr) _ ?_
    obtain ⟨f, rfl⟩ : ∃ f', f = f' + 1 := ⟨f - 1, by omega⟩
    rw [qLoop] at hq
    by_cases hb : l'.head? = some 91
    · rw [decide_eq_true hb]
      rw [if_pos hb] at hq
      obtain ⟨r', rfl⟩ : ∃ r', l' = 91 :: r' := by
        cases l' with
        | nil => cases hb
        | cons c r' => exact ⟨r', by rw [Option.some.inj hb]⟩
      refine iteT ⟨fun σ' G' => ∃ μ', μ' < (91 :: r').length ∧ ∃ (l' : List Nat) (i' m' f : Nat) (xs : List V), σ' = [some (.ref o), some (.int (4 - ((k' + 1 : Nat) : Int))), some (.str ax), some v, some (.ref p)] ∧ μ' = l'.length ∧ QO K G' o z i' m' ∧ remS z i' l' ∧ Kp [o] H G' ∧ G' p = some (.lst xs) ∧ xs.length + l'.length ≤ 1000 ∧ l'.length ≤ l3.length ∧ l'.length < f ∧
        qLoop 91 (qFilter (qSteps k') (qAxis (47 :: r))) f l' i' m' = qLoop 91 (qFilter (qSteps k') (qAxis (47 :: r))) (l3.length + 1) l3 i3 m3, fun _ _ h => h, ?_⟩
      obtain ⟨dx3, hRG⟩ := id RG
      rw [List.length_cons] at hxs hle' hf
      refine ⟨_, rfl, Or.inl ⟨rfl, _, SqL.of hpG⟩, _, rfl, o, dx3, _, rfl, hRG, fn_QuestionReading_read_filter .., _, rfl, _, rfl, hF k' rfl _ _ _ _ ⟨o, z, ax, i', m', r', ?_, RG, hl', hz, fun l4 i4 m4 v4 G4 e4 hl4 hle4 R4 k4 => ⟨p, _, v4, rfl, rfl, k4.at hpG (by simpa using npo), sz_lt (by omega), ?_⟩, fun c y e => ?_⟩⟩
      · show [V.ref o, V.str ax, V.int (4 - ((k' + 1 : Nat) : Int))] = _
        rw [show 4 - ((k' + 1 : Nat) : Int) = 3 - (k' : Int) by omega]
      · rw [hbel] at e4
        rw [e4] at hq
        rw [List.length_cons] at hle4
        refine ⟨_, by rw [List.length_cons]; omega, l4, i4, m4, f, xs ++ [v4], rfl, rfl, ?_, hl4, (eG.trans k4).mut hpH, upd_same, by rw [List.length_append, List.length_singleton]; omega, by omega, by omega, hq⟩
        obtain ⟨dx4, hR4⟩ := R4
        exact ⟨dx4, by rw [upd_ne npo.symm]; exact hR4⟩
      · rw [hbel] at e
        rw [e] at hq
        exact (kD'.2 c y hq.symm).later eG RG.on
    · rw [decide_eq_false hb]
      rw [if_neg hb] at hq
      refine iteF ?_
      dsimp only
      refine go_ret ⟨_, rfl, _, rfl, _, rfl, by show 3 ≤ sizeLine; decide, fun t ht => ?_⟩
      exact kD'.1 l' i' m' _ _ hq.symm hl' (by rw [List.length_cons]; omega) (RG.ex (Ex.new ht)) (eG.trans (Kp.new ht))
theorem ok_steps_of (T : TX K mg) {j k : Nat} (hj : 8 ≤ j) (S : Can P w K mg base (L2.CX P w) j (He.fAd K at_QuestionReading_read_step) ps_QuestionReading_read_step [] (spQStep K k)) :
    Can P w K mg base (L2.CX P w) (j + 1) (He.fAd K at_QuestionReading_read_steps) ps_QuestionReading_read_steps [] (spQSteps K k) := by
  obtain ⟨fd_S, G_QuestionReading_read_step, ds_S, v_QuestionReading_read_step, b_QuestionReading_read_step⟩ := S
  obtain ⟨fd_QuestionReading_begins, G_QuestionReading_begins, ds_QuestionReading_begins, v_QuestionReading_begins, b_QuestionReading_begins⟩ := ok_QuestionReading_begins (P := P) (w := w) (base := base) T
  exact mk_QuestionReading_read_steps T fun fd F => defX F sc_QuestionReading_read_steps (fun vs H Q E h => by
    obtain ⟨o, z, i, m, l, rfl, _⟩ := h
    rfl) fun cdv A outer s H vs Q E hr h => by
    obtain ⟨o, z, i, m, l, rfl, R, hl, hz, kD⟩ := h
    refine ⟨_, (pss_cons (ps_set (i := 2) sc_QuestionReading_read_steps.nd rfl (Or.inl rfl) (pe_lst (pa_cons (pe_meth (pv 0) T.cl_QuestionReading T.me_QuestionReading_read_step G_QuestionReading_read_step (hr.mono (by first | decide | omega)) b_QuestionReading_read_step v_QuestionReading_read_step (passes_call (takes_of rfl rfl rfl rfl) (fun _ _ _ _ h => h)) (pa_cons (pv 1) pa_nil)) pa_nil)))
  (pss_cons (ps_while (passes_of rfl) (pt_val (pe_meth (pv 0) T.cl_QuestionReading T.me_QuestionReading_begins G_QuestionReading_begins (hr.mono (by first | decide | omega)) b_QuestionReading_begins v_QuestionReading_begins pass0 (pa_cons pe_str pa_nil)))
  (pss_one (ps_expr (eBm K rfl PySem.F.plainAttrs_list PySem.F.slot_list_append PySem.F.type_list_append mt_append (pv 2) (pa_cons (pe_meth (pv 0) T.cl_QuestionReading T.me_QuestionReading_read_step G_QuestionReading_read_step (hr.mono (by first | decide | omega)) b_QuestionReading_read_step v_QuestionReading_read_step (passes_call (takes_of rfl rfl rfl rfl) (fun _ _ _ _ h => h)) (pa_cons (pv 1) pa_nil)) pa_nil)))))
  (pss_one (ps_ret (pv 2))))), ?_⟩
    have hsl : ("/" : Str).cps.toList = [47] := by decide +kernel
    rw [qSteps_eq] at kD
    unfold qMany at kD
    have hlz := hl.len
    obtain ⟨dx, hR⟩ := id R
    refine st_seq (go_asg ⟨_, rfl, o, dx, _, rfl, hR, fn_QuestionReading_read_step .., _, rfl, o, z, i, m, l, rfl, R, hl, hz, fun l3 i3 m3 v H3 e3 hl3 hle3 R3 k3 => ⟨by show 1 ≤ sizeLine; decide, fun p hp => ?_⟩, fun c y e => ?_⟩)
    rotate_left
    · rw [e] at kD
      exact kD.2 c y rfl
    rw [e3] at kD
    have kD' : DoesQ K H o z l 1 (qLoop 47 (qStepK k) (l3.length + 1) l3 i3 m3) Q E := kD
    clear kD
    dsimp only [gName]
    have npo : p ≠ o := R3.ne hp
    have hpH : H p = none := k3.back (fun a ha => by rw [List.mem_singleton.mp ha]; exact R3.on) hp
    refine st_seq ⟨fun μ σ G => ∃ (l' : List Nat) (i' m' f : Nat) (xs : List V), σ = [some (.ref o), some (.int (4 - (k : Int))), some (.ref p)] ∧ μ = l'.length ∧ QO K G o z i' m' ∧ remS z i' l' ∧ Kp [o] H G ∧ G p = some (.lst xs) ∧ xs.length + l'.length ≤ 1000 ∧ l'.length ≤ l3.length ∧ l'.length < f ∧
        qLoop 47 (qStepK k) f l' i' m' = qLoop 47 (qStepK k) (l3.length + 1) l3 i3 m3,
      ⟨_, l3, i3, m3, _, [v], rfl, rfl, R3.ex (Ex.new hp), hl3, k3.trans (Kp.new hp), upd_same, by rw [List.length_singleton]; omega, Nat.le_refl _, Nat.lt_succ_self _, rfl⟩, ?_⟩
    rintro μ σ G ⟨l', i', m', f, xs, rfl, rfl, RG, hl', eG, hpG, hxs, hle', hf, hq⟩
    refine ans_v (q_begins (K := K) RG hl' rfl hsl) _ ?_
    obtain ⟨f, rfl⟩ : ∃ f', f = f' + 1 := ⟨f - 1, by omega⟩
    rw [qLoop] at hq
    by_cases hb : l'.head? = some 47
    · rw [decide_eq_true hb]
      rw [if_pos hb] at hq
      have hpos : 1 ≤ l'.length := by
        cases l' with
        | nil => cases hb
        | cons c r' => rw [List.length_cons]; omega
      refine iteT ⟨fun σ' G' => ∃ μ', μ' < l'.length ∧ ∃ (l' : List Nat) (i' m' f : Nat) (xs : List V), σ' = [some (.ref o), some (.int (4 - (k : Int))), some (.ref p)] ∧ μ' = l'.length ∧ QO K G' o z i' m' ∧ remS z i' l' ∧ Kp [o] H G' ∧ G' p = some (.lst xs) ∧ xs.length + l'.length ≤ 1000 ∧ l'.length ≤ l3.length ∧ l'.length < f ∧
        qLoop 47 (qStepK k) f l' i' m' = qLoop 47 (qStepK k) (l3.length + 1) l3 i3 m3, fun _ _ h => h, ?_⟩
      obtain ⟨dx3, hRG⟩ := id RG
      refine ⟨_, rfl, Or.inl ⟨rfl, _, SqL.of hpG⟩, _, rfl, o, dx3, _, rfl, hRG, fn_QuestionReading_read_step .., _, rfl, o, z, i', m', l', rfl, RG, hl', hz, fun l4 i4 m4 v4 G4 e4 hl4 hle4 R4 k4 => ⟨p, _, v4, rfl, rfl, k4.at hpG (by simpa using npo), sz_lt (by omega), ?_⟩, fun c y e => ?_⟩
      · rw [e4] at hq
        refine ⟨_, by omega, l4, i4, m4, f, xs ++ [v4], rfl, rfl, ?_, hl4, (eG.trans k4).mut hpH, upd_same, by rw [List.length_append, List.length_singleton]; omega, by omega, by omega, hq⟩
        obtain ⟨dx4, hR4⟩ := R4
        exact ⟨dx4, by rw [upd_ne npo.symm]; exact hR4⟩
      · rw [e] at hq
        exact (kD'.2 c y hq.symm).later eG RG.on
    · rw [decide_eq_false hb]
      rw [if_neg hb] at hq
      refine iteF ?_
      dsimp only
      exact go_ret ⟨_, rfl, kD'.1 l' i' m' _ _ hq.symm hl' (by omega) RG eG⟩
end
/-! ### readings that give data -/
/-- H3 still has what H2 has in H or beyond H1 -/
def Fp (H H1 H2 H3 : Hp) : Prop := ∀ a o, H2 a = some o → (H a ≠ none ∨ H1 a = none) → H3 a = some o
theorem Fp.base {H H1 H2 H3 : Hp} (f : Fp H H1 H2 H3) (e : Ex H H2) : Ex H H3 := fun a o h => f a o (e a o h) (.inl (by rw [h]; intro z; cases z))
theorem Fp.self {H H1 H2 : Hp} : Fp H H1 H2 H2 := fun _ _ h _ => h
theorem Fp.ex {H H1 H2 H3 : Hp} (e : Ex H2 H3) : Fp H H1 H2 H3 := fun a o h _ => e a o h
/-- from a later start: less is asked -/
theorem Fp.late {H H1 G1 H2 H3 : Hp} (f : Fp H H1 H2 H3) (e : Ex H1 G1) : Fp H G1 H2 H3 := fun a o h q => f a o h (q.imp id fun z => fresh_back e z)
/-- what was there earlier -/
theorem Fp.early {H H1 G2 H2 H3 : Hp} (f : Fp H H1 H2 H3) (e : Ex G2 H2) : Fp H H1 G2 H3 := fun a o h q => f a o (e a o h) q
def EvD (K : PySem.W.Frag) (te : TE) (σ : L2.St) (H : Hp) (d : PyData) : Prop := ∀ H1, Ex H H1 → ∀ Q : VK, (∀ v H2, Ex H1 H2 → (∀ H3, Fp H H1 H2 H3 → Dp K H3 v d) → Q v H2) → te σ H1 Q
def EvDs (K : PySem.W.Frag) (ta : TA) (σ : L2.St) (H : Hp) (ds : List PyData) : Prop := ∀ H1, Ex H H1 → ∀ Q : List V → Hp → Prop, (∀ vs H2, Ex H1 H2 → (∀ H3, Fp H H1 H2 H3 → DpAll K H3 vs ds) → Q vs H2) → ta σ H1 Q
def SpD (K : PySem.W.Frag) (sp : Sp) (vs : List V) (H : Hp) (d : PyData) : Prop := ∀ H1, Ex H H1 → ∀ Q : VK, (∀ v H2, Ex H1 H2 → (∀ H3, Fp H H1 H2 H3 → Dp K H3 v d) → Q v H2) → ∀ E : XK, sp vs H1 Q E
section
variable {K : PySem.W.Frag} {σ : L2.St} {H : Hp} {ta tb te tf : TE} {v : V} {d : PyData} {ds : List PyData}
theorem ed_val (h : Ev te σ H v) (hd : Dp K H v d) : EvD K te σ H d := fun H1 e _ q => h H1 e _ fun H2 e2 => q v H2 e2 fun _ f => dp_ex (f.base (e.trans e2)) hd
theorem ed_var {i : Nat} (h : σ[i]? = some (some v)) (hd : Dp K H v d) : EvD K (tVar i) σ H d := ed_val (ev_var h) hd
theorem ed_int {i : Int} (h : Ev te σ H (.int i)) : EvD K te σ H (.int i) := ed_val h (.int i)
theorem ed_cint {i : Int} : EvD K (tC (.int i)) σ H (.int i) := ed_val ev_c (.int i)
theorem ed_cstr {w : Str} : EvD K (tC (.str w)) σ H (.str w) := ed_val ev_c (.str w)
theorem ed_cbl {b : Bool} : EvD K (tC (.bl b)) σ H (.bool b) := ed_val ev_c (.bl b)
theorem ed_cnon : EvD K (tC .non) σ H .none := ed_val ev_c .non
theorem ed_ints {ns : List Int} (h : EvL te σ H (ns.map V.int)) : EvD K te σ H (.list (ns.map PyData.int)) := fun H1 e _ q => h H1 e _ fun p H2 hp e2 h2 => q _ H2 e2 fun H3 f => .lst (SqL.of (f _ _ h2 (.inr hp))) (dpAll_ints ns)
theorem eds_nil : EvDs K tNil σ H [] := fun H1 _ _ q => q [] H1 (Ex.refl _) fun _ _ => .nil
theorem eds_cons {tr : TA} (h : EvD K te σ H d) (hr : EvDs K tr σ H ds) : EvDs K (tCons te tr) σ H (d :: ds) := fun H1 e _ q =>
  h H1 e _ fun v H2 e2 dv => hr H2 (e.trans e2) _ fun vs H3 e3 dvs => q (v :: vs) H3 (e2.trans e3) fun H4 f => .cons (dv H4 (f.early e3)) (dvs H4 (f.late e2))
theorem ed_tup {ta : TA} (h : EvDs K ta σ H ds) (hl : ds.length ≤ 100000) : EvD K (tTup ta) σ H (.tuple ds) := fun H1 e _ q => h H1 e _ fun vs H2 e2 dvs =>
  ⟨sz_of (by rw [dpa_len (dvs H2 Fp.self)]; exact hl), fun p hp => q (.ref p) _ (e2.trans (Ex.new hp)) fun H3 f => .tup (SqT.of (f _ _ upd_same (.inr (fresh_back e2 hp)))) (dvs H3 (f.early (Ex.new hp)))⟩
theorem ed_lst {ta : TA} (h : EvDs K ta σ H ds) (hl : ds.length ≤ 100000) : EvD K (tLst ta) σ H (.list ds) := fun H1 e _ q => h H1 e _ fun vs H2 e2 dvs =>
  ⟨sz_of (by rw [dpa_len (dvs H2 Fp.self)]; exact hl), fun p hp => q (.ref p) _ (e2.trans (Ex.new hp)) fun H3 f => .lst (SqL.of (f _ _ upd_same (.inr (fresh_back e2 hp)))) (dvs H3 (f.early (Ex.new hp)))⟩
theorem ed_call {sp : Sp} {dvs vs : List V} {E : XK} {ta : TA} (h : EvA ta σ H vs) (hs : SpD K sp (vs ++ dvs) H d) : EvD K (tCall sp dvs E ta) σ H d := fun H1 e Q q =>
  h H1 e _ fun H2 e2 => hs H2 (e.trans e2) Q (fun v H3 e3 dv => q v H3 (e2.trans e3) fun H4 f => dv H4 (f.late e2)) E
/-- what a promise of a new tuple of data gives -/
theorem spd_tup {xs : List V} {H1 : Hp} {Q : VK} (hd : ∀ H3, DpAll K H3 xs ds) (q : ∀ v H2, Ex H1 H2 → (∀ H3, Fp H H1 H2 H3 → Dp K H3 v (.tuple ds)) → Q v H2) : ∀ t H2, H1 t = none → Ex H1 H2 → H2 t = some (.tup xs) → Q (.ref t) H2 :=
  fun t H2 ht e2 h2 => q _ H2 e2 fun H3 f => .tup (SqT.of (f _ _ h2 (.inr ht))) (hd H3)
theorem spd_val {H1 : Hp} {Q : VK} (hd : ∀ H3, Dp K H3 v d) (q : ∀ v H2, Ex H1 H2 → (∀ H3, Fp H H1 H2 H3 → Dp K H3 v d) → Q v H2) : ∀ H2, Ex H1 H2 → Q v H2 := fun H2 e2 => q _ H2 e2 fun H3 _ => hd H3
theorem eqD {d e : PyData} (h1 : EvD K ta σ H d) (h2 : EvD K tb σ H e) (s1 : SeqAt.shaped d = true) (s2 : SeqAt.shaped e = true) : Ev (tOp (rEqD K) ta tb) σ H (.bl (PyData.eqv d e)) :=
  fun H1 e1 _ q => h1 H1 e1 _ fun v H2 e2 dv => h2 H2 (e1.trans e2) _ fun u H3 e3 du => ⟨d, e, dv H3 (Fp.ex e3), du H3 Fp.self, s1, s2, q _ (e2.trans e3)⟩
theorem neD {d e : PyData} (h1 : EvD K ta σ H d) (h2 : EvD K tb σ H e) (s1 : SeqAt.shaped d = true) (s2 : SeqAt.shaped e = true) : Ev (tOp (rNeD K) ta tb) σ H (.bl (!PyData.eqv d e)) :=
  fun H1 e1 _ q => h1 H1 e1 _ fun v H2 e2 dv => h2 H2 (e1.trans e2) _ fun u H3 e3 du => ⟨d, e, dv H3 (Fp.ex e3), du H3 Fp.self, s1, s2, q _ (e2.trans e3)⟩
/-- [.. for j in range(n)] -/
theorem ed_lcR {ta : TA} {j : Nat} {vs : List Nat} {n : Int} (f : Nat → PyData) (h : EvA ta σ H [.int n]) (hn : 0 ≤ n ∧ n ≤ 40000) (hw : ∀ x, wipe ((wipe σ vs).set j (some x)) vs = wipe σ vs)
    (he : ∀ (i : Nat) H1, Ex H H1 → (i : Int) < n → EvD K te ((wipe σ vs).set j (some (.int (i : Int)))) H (f i)) : EvD K (tLc (iRng1 ta) (gName j) tYes te vs) σ H (.list ((List.range n.toNat).map f)) := fun H0 e Q q =>
  h H0 e _ fun H1 e1 => ⟨n, rfl, by omega, by omega, fun L hL => lc_range (lo := 0) (n := n.toNat)
    (fun i G => Ex H1 G ∧ ∃ acc, G L = some (.lst acc) ∧ acc.length = i ∧ ∀ H5, (∀ a o, G a = some o → (H a ≠ none ∨ (H1 a = none ∧ a ≠ L)) → H5 a = some o) → DpAll K H5 acc ((List.range i).map f))
    ⟨Ex.new hL, [], upd_same, rfl, fun _ _ => .nil⟩ (by
      rintro i G hi ⟨eG, acc, ha, hl, hdp⟩
      have nLH : ∀ a, H a ≠ none → a ≠ L := fun a h z => h (by rw [z]; exact fresh_back (e.trans e1) hL)
      have e0 : (0 : Int) + (i : Int) = (i : Int) := Int.zero_add _
      show wipe ((wipe σ vs).set j (some (.int ((0 : Int) + (i : Int))))) vs = wipe σ vs ∧ te ((wipe σ vs).set j (some (.int ((0 : Int) + (i : Int))))) G _
      rw [e0]
      refine ⟨hw _, he i H1 (e.trans e1) (by omega) G ((e.trans e1).trans eG) _ fun v G2 eG2 dv => ⟨acc, eG2 _ _ ha, sz_lt (by omega), ?_, acc ++ [v], upd_same, by rw [List.length_append, hl]; rfl, fun H5 hH5 => ?_⟩⟩
      · exact (eG.trans eG2).mut hL
      · have hup : ∀ a o, G2 a = some o → a ≠ L → upd G2 L (.lst (acc ++ [v])) a = some o := fun a o h hne => by rw [upd_ne hne]; exact h
        rw [List.range_succ, List.map_append]
        refine dpAll_snoc (hdp H5 fun a o ho hq => hH5 a o (hup a o (eG2 a o ho) (hq.elim (nLH a) fun z => z.2)) hq) (dv H5 fun a o ho hq => ?_)
        have hne : a ≠ L := hq.elim (nLH a) fun z y => by rw [y, ha] at z; cases z
        exact hH5 a o (hup a o ho hne) (hq.imp id fun z => ⟨fresh_back eG z, hne⟩)) (by
      rintro G ⟨eG, acc, ha, hl, hdp⟩
      refine q (.ref L) G (e1.trans eG) fun H3 f3 => .lst (SqL.of (f3 _ _ ha (.inr (fresh_back e1 hL)))) (hdp H3 fun a o ho hq => f3 a o ho (hq.imp id fun z => fresh_back e1 z.1)))⟩
variable {D : Ends} {tz : TS}
theorem q_asgD {i : Nat} (h : EvD K te σ H d) (k : ∀ v H1, Ex H H1 → Dp K H1 v d → tz D (σ.set i (some v)) H1) : tSeq (tAsg te (gName i)) tz D σ H := h H (Ex.refl H) _ fun v H1 e dv => k v H1 e (dv H1 Fp.self)
end
/-! ### the whole reading, and what the law asks -/
theorem Can.mono {P : Program} {w : World} {K : PySem.W.Frag} {mg : Str → Option Value} {base : Heap} {CX : CXT} {j k : Nat} {f : Addr} {ps : List Str} {dvs : List V} {sp : Sp} (h : Can P w K mg base CX j f ps dvs sp) (hjk : j ≤ k) : Can P w K mg base CX k f ps dvs sp := by
  obtain ⟨fd, F, ds, v, b⟩ := h
  exact ⟨fd, F.mono hjk, ds, v, b⟩
def spQAll (K : PySem.W.Frag) : Sp := fun vs H Q E => ∃ z : Str, vs = [.str z] ∧ z.cps.size ≤ 1000 ∧ (∀ l i m, qAll z.cps.toList = .ok l i m → ∀ v H', Ex H H' → Q v H') ∧
  ∀ c r, qAll z.cps.toList = .no c r → ∀ d H', H d = none → Ex H H' → H' d = some (.xd [("reason", .str r), ("column", .int (c : Int))]) → E (.ref (He.ga K "InvalidQuestion")) (some d) H'
def spTold : Sp := fun vs H Q _ => ∃ z : Str, vs = [.str z] ∧ z.cps.size ≤ 1000 ∧ (∀ l i m, qAll z.cps.toList = .ok l i m → ∀ H', Ex H H' → Q (.str "read") H') ∧
  ∀ c r, qAll z.cps.toList = .no c r → ∀ t H', H t = none → Ex H H' → H' t = some (.tup [.int (c : Int), .str r]) → Q (.ref t) H'
def spMix : Sp := fun vs H Q _ => ∃ n k : Int, vs = [.int n, .int k] ∧ 0 ≤ k ∧ k ≤ 1000 ∧ ∀ v : Int, 0 ≤ v → v < 998244353 → Q (.int v) H
def spNumbers (K : PySem.W.Frag) : Sp := fun vs H Q _ => ∃ (a : Addr) (ns : List Int), vs = [.ref a, .int 60] ∧ SqL K H a (ns.map V.int) ∧ ns.length ≤ 63 ∧ ∀ (d : Addr) (H' : Hp), H d = none → Dr H' d → Ex H H' → Q (.ref d) H'
def spBegun : Sp := fun vs H Q _ => ∃ d : Addr, vs = [.ref d] ∧ Dr H d ∧ ∀ (js : List Nat) (H' : Hp), js.length ≤ 3 → (∀ j ∈ js, j < 6) → Dr H' d → Kp [d] H H' → Q (.str (sL (begT js))) H'
def spWrong : Sp := fun vs H Q _ => ∃ d : Addr, vs = [.ref d] ∧ Dr H d ∧ ∀ (p : PySem.Str × Nat × PySem.Str) (t : Addr) (H' : Hp), p ∈ wrS → H t = none → Dr H' d → Kp [d] H H' → H' t = some (.tup [.str p.1, .int (p.2.1 : Int), .str p.2.2]) → Q (.ref t) H'
/-- tuples of a text, a number, a text -/
def Rows3 (G : Hp) : List V → List (PySem.Str × Nat × PySem.Str) → Prop
  | [], [] => True
  | x :: xs, r :: rs => (∃ t, x = .ref t ∧ G t = some (.tup [.str r.1, .int (r.2.1 : Int), .str r.2.2])) ∧ Rows3 G xs rs
  | _, _ => False
theorem Rows3.ex {G G' : Hp} (e : Ex G G') : ∀ {xs : List V} {rs : List (PySem.Str × Nat × PySem.Str)}, Rows3 G xs rs → Rows3 G' xs rs
  | [], [], _ => trivial
  | _ :: _, _ :: _, ⟨⟨t, h1, h2⟩, h3⟩ => ⟨⟨t, h1, e _ _ h2⟩, Rows3.ex e h3⟩
  | [], _ :: _, h => h.elim
  | _ :: _, [], h => h.elim
theorem Rows3.app {G : Hp} : ∀ {xs : List V} {rs : List (PySem.Str × Nat × PySem.Str)} {ys : List V} {ss : List (PySem.Str × Nat × PySem.Str)}, Rows3 G xs rs → Rows3 G ys ss → Rows3 G (xs ++ ys) (rs ++ ss)
  | [], [], _, _, _, h => h
  | _ :: _, _ :: _, _, _, ⟨h1, h2⟩, h => ⟨h1, Rows3.app h2 h⟩
  | [], _ :: _, _, _, h, _ => h.elim
  | _ :: _, [], _, _, h, _ => h.elim
theorem Rows3.len {G : Hp} : ∀ {xs : List V} {rs : List (PySem.Str × Nat × PySem.Str)}, Rows3 G xs rs → xs.length = rs.length
  | [], [], _ => rfl
  | _ :: _, _ :: _, ⟨_, h⟩ => congrArg Nat.succ (Rows3.len h)
  | [], _ :: _, h => h.elim
  | _ :: _, [], h => h.elim
theorem Rows3.at {G : Hp} : ∀ {xs : List V} {rs : List (PySem.Str × Nat × PySem.Str)} {i : Nat} {r : PySem.Str × Nat × PySem.Str}, Rows3 G xs rs → rs[i]? = some r → ∃ t, xs[i]? = some (.ref t) ∧ G t = some (.tup [.str r.1, .int (r.2.1 : Int), .str r.2.2])
  | [], [], i, r, _, e => by cases e
  | x :: _, _ :: _, 0, r, ⟨⟨t, h1, h2⟩, _⟩, e => by
    cases e
    exact ⟨t, by rw [h1] <;> rfl, h2⟩
  | _ :: _, _ :: _, i + 1, r, ⟨_, h⟩, e => Rows3.at (i := i) h e
  | [], _ :: _, _, _, h, _ => h.elim
  | _ :: _, [], _, _, h, _ => h.elim
/-- readings that make such tuples, one behind the other -/
def EvR (ta : TA) (σ : L2.St) (H : Hp) (rs : List (PySem.Str × Nat × PySem.Str)) : Prop := ∀ H1, Ex H H1 → ∀ Q : List V → Hp → Prop, (∀ vs H2, Ex H1 H2 → (∀ t, V.ref t ∈ vs → H1 t = none) → Rows3 H2 vs rs → Q vs H2) → ta σ H1 Q
theorem ev_adS {σ : L2.St} {H : Hp} {ta tb : TE} {a b c : PySem.Str} (h1 : Ev ta σ H (.str a)) (h2 : Ev tb σ H (.str b)) (hl : a.length + b.length ≤ 1000) (e : a ++ b = c) : Ev (tOp (fun x y H Q => ∃ i j, x = V.str i ∧ y = V.str j ∧ i.length + j.length ≤ sizeLine ∧ Q (V.str (i ++ j)) H) ta tb) σ H (.str c) :=
  ev_op h1 h2 (rv_val fun _ _ Q q => ⟨a, b, rfl, rfl, sz_of (by omega), by rw [e]; exact q⟩)
theorem ev_muS {σ : L2.St} {H : Hp} {a c : PySem.Str} {n : Int} (h : (decide (0 ≤ n) && decide (n ≤ 10000) && decide (1 ≤ a.length) && decide (a.length ≤ 100) && decide (repS n.toNat a = c)) = true) : Ev (tOp (fun x y H Q => ∃ (z : PySem.Str) (n : Int), x = .str z ∧ y = .int n ∧ 0 ≤ n ∧ n ≤ 10000 ∧ 1 ≤ z.length ∧ z.length ≤ 100 ∧ Q (.str (repS n.toNat z)) H) (tC (.str a)) (tC (.int n))) σ H (.str c) := by
  simp only [Bool.and_eq_true, decide_eq_true_eq] at h
  obtain ⟨⟨⟨⟨h1, h2⟩, h3⟩, h4⟩, h5⟩ := h
  exact ev_op ev_c ev_c (rv_val fun _ _ Q q => ⟨a, n, rfl, rfl, h1, h2, h3, h4, by rw [h5]; exact q⟩)
/-- rows = [..] -/
theorem wr_first {σ : L2.St} {H : Hp} {ta : TA} {tz : TS} {D : Ends} {rs : List (PySem.Str × Nat × PySem.Str)} (h : EvR ta σ H rs) (hl : rs.length ≤ 100) (k : ∀ p xs G, Ex H G → G p = some (.lst xs) → (∀ t, V.ref t ∈ xs → H t = none) ∧ Rows3 G xs rs → tz D (σ.set 1 (some (.ref p))) G) : tSeq (tAsg (tLst ta) (gName 1)) tz D σ H :=
  h H (Ex.refl H) _ fun vs H2 e2 f2 r2 => ⟨by rw [r2.len]; exact sz_of (by omega), fun p hp => k p vs _ (e2.trans (Ex.new hp)) upd_same ⟨f2, r2.ex (Ex.new hp)⟩⟩
/-- rows = rows + [..] -/
theorem wr_next {σ : L2.St} {H0 H : Hp} {ta : TA} {tz : TS} {D : Ends} {p : Addr} {xs : List V} {rs ss : List (PySem.Str × Nat × PySem.Str)} (hσ : σ[1]? = some (some (.ref p))) (hp : H p = some (.lst xs)) (hr : (∀ t, V.ref t ∈ xs → H0 t = none) ∧ Rows3 H xs rs) (h : EvR ta σ H ss) (hl : rs.length ≤ 100) (hl2 : ss.length ≤ 100) (e0 : Ex H0 H)
    (k : ∀ p xs G, Ex H G → G p = some (.lst xs) → (∀ t, V.ref t ∈ xs → H0 t = none) ∧ Rows3 G xs (rs ++ ss) → tz D (σ.set 1 (some (.ref p))) G) : tSeq (tAsg (tOp rCat (tVar 1) (tLst ta)) (gName 1)) tz D σ H :=
  ⟨_, hσ, h H (Ex.refl H) _ fun vs H2 e2 f2 r2 => ⟨by rw [r2.len]; exact sz_of (by omega), fun q hq => ⟨p, q, xs, vs, rfl, rfl, by rw [upd_ne (ne_of_none (e2 _ _ hp) hq)]; exact e2 _ _ hp, upd_same, by rw [hr.2.len, r2.len]; exact sz_of (by omega), fun u hu => k u _ _ ((e2.trans (Ex.new hq)).trans (Ex.new hu)) upd_same
    ⟨fun t ht => (List.mem_append.mp ht).elim (hr.1 t) fun z => fresh_back e0 (f2 t z), ((hr.2.ex ((e2.trans (Ex.new hq)).trans (Ex.new hu))).app (r2.ex ((Ex.new hq).trans (Ex.new hu))))⟩⟩⟩⟩
theorem er_nil {σ : L2.St} {H : Hp} : EvR tNil σ H [] := fun H1 _ _ q => q [] H1 (Ex.refl _) (fun t h => by cases h) trivial
theorem er_cons {σ : L2.St} {H : Hp} {ta : TE} {tr : TA} {a r : PySem.Str} {i : Nat} {j : Int} {rs : List (PySem.Str × Nat × PySem.Str)} (h : Ev ta σ H (.str a)) (hj : j = (i : Int)) (hr : EvR tr σ H rs) : EvR (tCons (tTup (tCons ta (tCons (tC (.int j)) (tCons (tC (.str r)) tNil)))) tr) σ H (mk3 a i r :: rs) := fun H1 e Q q =>
  h H1 e _ fun H2 e2 => ⟨by show 3 ≤ sizeLine; decide, fun t ht => hr _ ((e.trans e2).trans (Ex.new ht)) _ fun vs H4 e4 f4 r4 => q _ H4 ((e2.trans (Ex.new ht)).trans e4) (fun u hu => by
    rcases List.mem_cons.mp hu with h | h
    · cases h
      exact fresh_back e2 ht
    · exact fresh_back (e2.trans (Ex.new ht)) (f4 u h)) ⟨⟨t, rfl, e4 _ _ (by rw [hj]; exact upd_same)⟩, r4⟩⟩
section
variable {P : Program} {w : World} {K : PySem.W.Frag} {mg : Str → Option Value} {base : Heap}
theorem ok_steps_all (T : TX K mg) (D : Dics ts w K) : ∀ k, k ≤ 3 → Can P w K mg base (L2.CX P w) (10 + 3 * k) (He.fAd K at_QuestionReading_read_steps) ps_QuestionReading_read_steps [] (spQSteps K k)
  | 0, _ => ok_steps_of T (j := 9) (by decide) (ok_step_of T D (j := 8) (Nat.le_refl _) ((no_filter_ok T).mono (Nat.zero_le _)) nofun (by decide))
  | k + 1, h => by
    have h1 := ok_filter_of T D (j := 10 + 3 * k) (by omega) (ok_steps_all T D k (by omega))
    have h2 := ok_step_of T D (j := 10 + 3 * k + 1) (k := k + 1) (by omega) h1 (fun k' e vs H Q E h => by cases e; exact h) h
    have h3 := ok_steps_of T (j := 10 + 3 * k + 1 + 1) (by omega) h2
    rw [show 10 + 3 * (k + 1) = 10 + 3 * k + 1 + 1 + 1 by omega]
    exact h3
theorem ok_read_question (T : TX K mg) (D : Dics ts w K) : Can P w K mg base (L2.CX P w) 20 (He.fAd K at_read_question) ps_read_question [] (spQAll K) := by
  obtain ⟨fd_QuestionReading_init, G_QuestionReading_init, ds_QuestionReading_init, v_QuestionReading_init, b_QuestionReading_init⟩ := ok_QuestionReading_init (P := P) (w := w) (base := base) T
  obtain ⟨fd_InvalidQuestion_init, G_InvalidQuestion_init, ds_InvalidQuestion_init, v_InvalidQuestion_init, b_InvalidQuestion_init⟩ := ok_InvalidQuestion_init (P := P) (w := w) (base := base) T
  obtain ⟨fd_S, G_QuestionReading_read_steps, ds_S, v_QuestionReading_read_steps, b_QuestionReading_read_steps⟩ := ok_steps_all (P := P) (w := w) (base := base) T D 3 (Nat.le_refl _)
  exact mk_read_question T fun fd F => defX F sc_read_question (fun vs H Q E h => by
    obtain ⟨z, rfl, _⟩ := h
    rfl) fun cdv A outer s H vs Q E hr h => by
    obtain ⟨z, rfl, hz, k, kE⟩ := h
    refine ⟨_, (pss_cons (ps_set (i := 1) sc_read_question.nd rfl (Or.inl rfl) (pe_make T.m_QuestionReading G_QuestionReading_init (hr.mono (by first | decide | omega)) rfl T.g_QuestionReading b_QuestionReading_init v_QuestionReading_init pass0 (pa_cons (pv 0) pa_nil)))
  (pss_cons (ps_set (i := 2) sc_read_question.nd rfl (Or.inl rfl) (pe_meth (pv 1) T.cl_QuestionReading T.me_QuestionReading_read_steps G_QuestionReading_read_steps (hr.mono (by first | decide | omega)) b_QuestionReading_read_steps v_QuestionReading_read_steps (passes_call (takes_of rfl rfl rfl rfl) (fun _ _ _ _ h => h)) (pa_cons pe_int pa_nil)))
  (pss_cons (ps_if (pt_cmpR op_lt (eFld K rfl (pv 1) rfl) (pe_callB call_len_str (by rfl) T.n_len PySem.boot_len (pa_cons (pv 0) pa_nil)) (nomark _)) (pss_one (ps_raise rfl (takes_of rfl rfl rfl rfl) (pmk_oex T.ox_InvalidQuestion T.oi_InvalidQuestion T.ot_InvalidQuestion G_InvalidQuestion_init (hr.mono (by first | decide | omega)) b_InvalidQuestion_init v_InvalidQuestion_init pass0 rfl T.g_InvalidQuestion (pa_cons (pe_op op_add (eFld K rfl (pv 1) rfl) pe_int) (pa_cons pe_str pa_nil))))) pss_nil)
  (pss_one (ps_ret (pv 2)))))), ?_⟩
    have hzl : z.length = z.cps.size := rfl
    refine st_seq (go_asg ⟨_, rfl, fun o dx ho hdx hne => ⟨o, dx, z, rfl, upd_same, fun G R e => ⟨rfl, ?_⟩⟩⟩)
    dsimp only [gName]
    have hEx : Ex H G := fun a u ha => e.at (by rw [upd_ne (ne_of_none ha ho), upd_ne (ne_of_none ha hdx)]; exact ha) (by simpa using ne_of_none ha ho)
    have after : ∀ {G' : Hp}, Kp [o] G G' → Ex H G' := fun {G'} e a u ha => e.at (hEx a u ha) (by simpa using ne_of_none ha ho)
    have back : ∀ {G' : Hp} {d : Addr}, Kp [o] G G' → G' d = none → H d = none := fun {G' d} e hd => fresh_back (after e) hd
    have hl : remS z 0 z.cps.toList := ⟨Nat.zero_le _, rfl⟩
    obtain ⟨dx1, hR⟩ := id R
    refine st_seq (go_asg ⟨_, rfl, o, dx1, _, rfl, hR, fn_QuestionReading_read_steps .., o, z, 0, 0, z.cps.toList, rfl, R, hl, hz, fun l i m v G1 e1 hl1 hle R1 k1 => ?_, fun c r e1 => ?_⟩)
    rotate_left
    · intro d H' hd k1 hx
      have : qAll z.cps.toList = .no c r := by unfold qAll; rw [e1]; rfl
      exact kE c r this d H' (fresh_back hEx hd) (after k1) hx
    have hres : qAll z.cps.toList = if l = [] then .ok l i m else .no (i + 1) "end" := by unfold qAll; rw [e1]; rfl
    dsimp only [gName]
    have hlen := hl1.len
    have f1 := qf (K := K) T R1 (j := 1) (σ := [some (.str z), some (.ref o), some v]) rfl
    refine st_seq (st_if (b := !decide (l = [])) (ans_v (val_is (val_I f1.2.1 (val_cb (va_one (val_var rfl)) fun Q q => ⟨z, rfl, sz_of (by omega), q⟩)) (by
      congr 1
      rw [← decide_not, decide_eq_decide]
      constructor
      · intro h q
        rw [q, List.length_nil] at hlen
        omega
      · intro h
        have : l.length ≠ 0 := fun q => h (List.length_eq_zero_iff.mp q)
        omega))) (fun hb => ?_) (fun hb => ?_))
    · have hn : ¬ l = [] := fun q => by rw [decide_eq_true q] at hb; cases hb
      rw [if_neg hn] at hres
      refine st_raise2 (W := fun cls d _ H => E cls d H) (y := .int ((i + 1 : Nat) : Int)) (z := .str "end") T.ox_InvalidQuestion T.na_InvalidQuestion_column T.na_InvalidQuestion_reason (val_is (val_I f1.2.1 val_c) (by congr 1)) val_c fun d hd => ?_
      exact kE _ _ hres d _ (back k1 hd) ((after k1).trans (Ex.new hd)) upd_same
    · have hn : l = [] := by simpa using hb
      rw [if_pos hn] at hres
      exact st_ret (val_var rfl) (k _ _ _ hres v G1 (after k1))
theorem ok__law_told (T : TX K mg) (D : Dics ts w K) : Can P w K mg base CX0 22 (He.fAd K at__law_told) ps__law_told [] spTold := by
  obtain ⟨fd_read_question, G_read_question, ds_read_question, v_read_question, b_read_question⟩ := ok_read_question (P := P) (w := w) (base := base) T D
  exact mk__law_told T fun fd F => def0 F sc__law_told (fun vs H Q E h => by
    obtain ⟨z, rfl, _⟩ := h
    rfl) fun cdv A outer s H vs Q E hr h => by
    obtain ⟨z, rfl, hz, k, kE⟩ := h
    refine ⟨_, (pss_cons (ps_try_mix rfl rfl sc__law_told.nd takes0 (fun W pn xe tk _ => (pss_one (ps_expr (pe_call G_read_question (hr.mono (by first | decide | omega)) rfl T.g_read_question T.k_read_question b_read_question v_read_question (passes_call (E := fun cls d H => ∀ σ, W cls d σ H) tk (fun _ _ σ _ h => h σ)) (pa_cons (pv 0) pa_nil))))) (.as (i := 1) rfl rfl ⟨rfl, by decide, .inl T.g_InvalidQuestion⟩ (fun a oe cls d pn hz hf => ps_len (n := 2) rfl (pss_one (ps_ret (pe_tup (pa_cons (pe_xf T.xf_InvalidQuestion T.na_InvalidQuestion_column hz hf (pv 1)) (pa_cons (pe_xf T.xf_InvalidQuestion T.na_InvalidQuestion_reason hz hf (pv 1)) pa_nil)))))) (.bare ⟨rfl, by decide, .inl T.g_TopiaryError⟩ (fun a oe cls d pn hz hf => ps_len (n := 2) rfl (pss_one (ps_ret pe_non))) .nil)))
  (pss_one (ps_ret pe_str))), ?_⟩
    refine st_seq (go_drop ?_)
    refine ⟨_, rfl, z, rfl, hz, fun l i m e v H' e' => ?_, fun c r e d H' hd e' hx σ => ⟨true, T.ex_InvalidQuestion_InvalidQuestion, fun _ a ha hl => ?_, nofun⟩⟩
    · exact k l i m e H' e'
    · have h3 : (named σ a (some 1))[1]? = some (some (V.ref a)) := by
        show (σ.set 1 (some (V.ref a)))[1]? = _
        have hl' : (σ.set 1 (some (V.ref a))).length = 2 := hl
        exact List.getElem?_set_self (by rw [List.length_set] at hl'; omega)
      refine go_ret ⟨_, h3, rfl, rfl, d, _, .int (c : Int), rfl, hx, rfl, _, h3, rfl, rfl, d, _, .str r, rfl, hx, rfl, by show 2 ≤ sizeLine; decide, fun t ht => ?_⟩
      exact kE c r e t _ (fresh_back e' ht) (e'.trans (Ex.new ht)) upd_same
theorem ok__law_take (T : TX K mg) : Can P w K mg base CX0 1 (He.fAd K at__law_take) ps__law_take [] spTake := mk__law_take T fun fd F => def0 F sc__law_take (fun vs H Q E h => by
  obtain ⟨d, m, rfl, _⟩ := h
  rfl) fun cdv A outer s H vs Q E hr h => by
  obtain ⟨d, m, rfl, m0, ⟨ns, hd⟩, k⟩ := h
  refine ⟨_, (pss_cons (ps_if (pt_not (tTruth K rfl (pv 0))) (pss_one (ps_ret pe_int)) pss_nil)
  (pss_one (ps_ret (pe_op op_modN (pe_callTy call_int1 (by rfl) T.n_int (by decide +kernel) (pa_cons (eBm0 K rfl PySem.F.plainAttrs_list PySem.F.slot_list_pop PySem.F.type_list_pop mt_pop (pv 0)) pa_nil)) (pv 1))))), ?_⟩
  refine st_seq (st_if (ans_not (b := !(ns.map V.int).isEmpty) fun Q q => ⟨_, rfl, _, .inl ⟨_, SqL.of hd, rfl⟩, q⟩) (fun h0 => ?_) (fun h0 => ?_))
  · exact go_ret (k 0 H (Int.le_refl _) m0 ⟨ns, hd⟩ Kp.refl)
  · have hl : ns ≠ [] := fun z => by
      subst z
      cases h0
    have hlast : (ns.map V.int)[(ns.map V.int).length - 1]? = some (.int (ns.getLast hl)) := by
      rw [List.length_map]
      refine at_int ?_
      rw [← List.getLast?_eq_getElem?, List.getLast?_eq_some_getLast hl]
    have hdrop : (ns.map V.int).dropLast = (ns.dropLast).map V.int := (List.map_dropLast ..).symm
    refine ⟨_, rfl, .inl ⟨rfl, _, SqL.of hd⟩, d, _, _, rfl, rfl, hd, hlast, .inl ⟨_, rfl, _, rfl, _, _, rfl, rfl, (by omega), ?_⟩⟩
    exact k _ _ (fmod_in m0).1 (fmod_in m0).2 ⟨ns.dropLast, by rw [upd_same, hdrop]⟩ (Kp.put (by simp))
theorem ok__law_mix (T : TX K mg) : Can P w K mg base CX0 1 (He.fAd K at__law_mix) ps__law_mix [] spMix := mk__law_mix T fun fd F => def0 F sc__law_mix (fun vs H Q E h => by
  obtain ⟨n, k, rfl, _⟩ := h
  rfl) fun cdv A outer s H vs Q E hr h => by
  obtain ⟨n, k, rfl, k0, k1, q⟩ := h
  refine ⟨_, (pss_one (ps_ret (pe_op op_modN (pe_op op_mul (pe_op op_modN (pe_callTy call_int1 (by rfl) T.n_int (by decide +kernel) (pa_cons (pe_op op_mul (pe_op op_add (pe_op op_add (pe_op op_modN (pe_callTy call_int1 (by rfl) T.n_int (by decide +kernel) (pa_cons (pv 0) pa_nil)) pe_int) (pe_op op_mul pe_int (pv 1))) pe_int) pe_int) pa_nil)) pe_int) pe_int) pe_int))), ?_⟩
  have vi : ∀ {te : TE} {σ : L2.St} {G : Hp} {i : Int}, Val te σ G (.int i) → Val (tCB (fun xs H Q => (∃ i, xs = [V.int i] ∧ Q (V.int i) H) ∨ ∃ k, xs = [V.bl k] ∧ Q (V.int (if k = true then 1 else 0)) H) (tCons te tNil)) σ G (.int i) := fun h => val_cb (va_one h) fun _ q => .inl ⟨_, rfl, q⟩
  refine go_ret (val_IC (g := fun i j => .int (i.fmod j)) (val_IC (g := fun i j => .int (i * j)) (val_IC (g := fun i j => .int (i.fmod j)) (vi (val_IC (g := fun i j => .int (i * j)) (val_I (g := fun i j => .int (i + j)) (val_I (g := fun i j => .int (i + j)) (val_IC (g := fun i j => .int (i.fmod j)) (vi (val_var rfl)) val_c (by decide)) (val_IC (g := fun i j => .int (i * j)) val_c (val_var rfl) (.inl ⟨by decide, by decide⟩))) val_c) val_c (.inr ⟨by decide, by decide⟩))) val_c (by decide)) val_c (.inr ⟨by decide, by decide⟩)) val_c (by decide) _ ?_)
  exact q _ (fmod_in (by decide)).1 (fmod_in (by decide)).2
theorem ok__law_numbers (T : TX K mg) : Can P w K mg base CX0 2 (He.fAd K at__law_numbers) ps__law_numbers [] (spNumbers K) := by
  obtain ⟨fd__law_mix, G__law_mix, ds__law_mix, v__law_mix, b__law_mix⟩ := ok__law_mix (P := P) (w := w) (base := base) T
  exact mk__law_numbers T fun fd F => def0 F sc__law_numbers (fun vs H Q E h => by
    obtain ⟨a, ns, rfl, _⟩ := h
    rfl) fun cdv A outer s H vs Q E hr h => by
    obtain ⟨a, ns, rfl, hS, hz, k⟩ := h
    refine ⟨_, (pss_cons (ps_set (i := 2) sc__law_numbers.nd rfl (Or.inl rfl) (pe_lst pa_nil))
  (pss_cons (ps_set (i := 3) sc__law_numbers.nd rfl (Or.inl rfl) pe_int)
  (pss_cons (ps_for PassesOwn.never rfl (iLst K rfl (pe_slice (slL K rfl) (pv 0) po_none (po_some pe_int))) (pg_name (i := 4) sc__law_numbers.nd rfl (Or.inl rfl))
  (pss_cons (ps_set (i := 3) sc__law_numbers.nd rfl (Or.inl rfl) (pe_op op_add (pv 3) (pv 4)))
  (pss_one (ps_if (pt_cmpR op_ge (pv 4) pe_int (nomark _)) (pss_cons (ps_set (i := 6) sc__law_numbers.nd rfl (Or.inl rfl) (pv 4))
  (pss_one (ps_for PassesOwn.never rfl (pi_range1 rfl T.n_range (pa_cons pe_int pa_nil)) (pg_name (i := 5) sc__law_numbers.nd rfl (Or.inl rfl))
  (pss_cons (ps_expr (eBm K rfl PySem.F.plainAttrs_list PySem.F.slot_list_append PySem.F.type_list_append mt_append (pv 2) (pa_cons (pe_op op_modN (pe_callTy call_int1 (by rfl) T.n_int (by decide +kernel) (pa_cons (pv 6) pa_nil)) pe_int) pa_nil)))
  (pss_cons (ps_set (i := 6) sc__law_numbers.nd rfl (Or.inl rfl) (pe_op op_fdivN (pv 6) pe_int))
  (pss_one (ps_if (pt_cmpR op_eq (pv 6) pe_int (nomark _)) (pss_one ps_break) pss_nil))))))) (pss_one (ps_expr (eBm K rfl PySem.F.plainAttrs_list PySem.F.slot_list_append PySem.F.type_list_append mt_append (pv 2) (pa_cons (pe_call G__law_mix (hr.mono (by first | decide | omega)) rfl T.g__law_mix T.k__law_mix b__law_mix v__law_mix pass0 (pa_cons (pe_call G__law_mix (hr.mono (by first | decide | omega)) rfl T.g__law_mix T.k__law_mix b__law_mix v__law_mix pass0 (pa_cons (pv 4) (pa_cons pe_int pa_nil))) (pa_cons pe_int pa_nil))) pa_nil))))))))
  (pss_cons (ps_for PassesOwn.never rfl (pi_range1 rfl T.n_range (pa_cons (pv 1) pa_nil)) (pg_name (i := 5) sc__law_numbers.nd rfl (Or.inl rfl))
  (pss_one (ps_expr (eBm K rfl PySem.F.plainAttrs_list PySem.F.slot_list_append PySem.F.type_list_append mt_append (pv 2) (pa_cons (pe_call G__law_mix (hr.mono (by first | decide | omega)) rfl T.g__law_mix T.k__law_mix b__law_mix v__law_mix pass0 (pa_cons (pe_call G__law_mix (hr.mono (by first | decide | omega)) rfl T.g__law_mix T.k__law_mix b__law_mix v__law_mix pass0 (pa_cons (pe_op op_add (pv 3) (pe_op op_mul pe_int (pv 5))) (pa_cons (pe_op op_add pe_int (pv 5)) pa_nil))) (pa_cons pe_int pa_nil))) pa_nil)))))
  (pss_cons (ps_expr (eBm0 K rfl PySem.F.plainAttrs_list PySem.F.slot_list_reverse PySem.F.type_list_reverse mt_reverse (pv 2)))
  (pss_one (ps_ret (pv 2)))))))), ?_⟩
    have vi : ∀ {te : TE} {σ : L2.St} {G : Hp} {i : Int}, Val te σ G (.int i) → Val (tCB (fun xs H Q => (∃ i, xs = [V.int i] ∧ Q (V.int i) H) ∨ ∃ k, xs = [V.bl k] ∧ Q (V.int (if k = true then 1 else 0)) H) (tCons te tNil)) σ G (.int i) := fun h => val_cb (va_one h) fun _ q => .inl ⟨_, rfl, q⟩
    refine st_seq ⟨by show 0 ≤ sizeLine; decide, fun p hp => ?_⟩
    dsimp only [gName]
    have app : ∀ {D : Ends} {σ : L2.St} {G : Hp} {te : TE} {ms : List Int} {v : Int}, σ[2]? = some (some (.ref p)) → G p = some (.lst (ms.map V.int)) → ms.length ≤ 10000 → Val te σ G (.int v) → D.nx σ (upd G p (.lst ((ms ++ [v]).map V.int))) → tDrop (tBM K "list" rAppend (tVar 2) (tCons te tNil)) D σ G := fun {D σ G te ms v} hσ hG hl hv k => st_app hG (val_var hσ) hv (small9 (by rw [List.length_map]; omega)) (by
      rw [List.map_append] at k
      exact k)
    have mix2 : ∀ {D : Ends} {σ : L2.St} {G : Hp} {te tk : TE} {ms : List Int} {n : Int} {j : Int}, σ[2]? = some (some (.ref p)) → G p = some (.lst (ms.map V.int)) → ms.length ≤ 10000 → Val te σ G (.int n) → Val tk σ G (.int j) → 0 ≤ j → j ≤ 1000 → ∀ k2 : Int, 0 ≤ k2 → k2 ≤ 1000 → (∀ v : Int, D.nx σ (upd G p (.lst ((ms ++ [v]).map V.int)))) →
        tDrop (tBM K "list" rAppend (tVar 2) (tCons (tCall spMix [] E0 (tCons (tCall spMix [] E0 (tCons te (tCons tk tNil))) (tCons (tC (.int k2)) tNil))) tNil)) D σ G := fun {D σ G te tk ms n j} hσ hG hl hv hk j0 j1 k2 k20 k21 q =>
      ⟨_, hσ, Or.inl ⟨rfl, _, SqL.of hG⟩, hv _ (hk _ ⟨n, j, rfl, j0, j1, fun v v0 v1 => ⟨v, k2, rfl, k20, k21, fun u u0 u1 => ⟨p, _, .int u, rfl, rfl, hG, small9 (by rw [List.length_map]; omega), by have := q u; rw [List.map_append] at this; exact this⟩⟩⟩)⟩
    refine st_seq (go_asg ?_)
    dsimp only [gName]
    have hcut : cutV (ns.map V.int) none (some 63) = ns.map V.int := by
      show ((ns.map V.int).drop (HT.sIx _ 0 none)).take (HT.sIx _ _ (some ((63 : Nat) : Int)) - HT.sIx _ 0 none) = _
      rw [HT.sIx_none, HT.sIx_nat, List.drop_zero, List.take_of_length_le]
      rw [List.length_map]
      omega
    refine q_forNLn (xs := ns.map V.int) (by rw [← hcut]; exact el_sl (lo := none) (hi := some 63) (ev_var rfl) eo_none (eo_some ev_c) (ex_l (Ex.new hp) hS)) (fun q i σ G => ∃ v4 v5 v6, ∃ (b : Int) (ms : List Int), σ = [some (.ref a), some (.int 60), some (.ref p), some (.int b), v4, v5, v6] ∧ Ex H G ∧ G p = some (.lst (ms.map V.int)) ∧ G q = some (.lst (ns.map V.int)) ∧ q ≠ p ∧ ms.length ≤ 60 * i)
      (fun q H1 hq e1 h1 => ⟨_, _, _, 0, [], rfl, (Ex.new hp).trans e1, e1 _ _ upd_same, h1, (fun z => by rw [z, upd_same] at hq; cases hq), Nat.zero_le _⟩) (fun q i σ G _ ⟨_, _, _, _, _, _, _, _, hq, _⟩ => SqL.of hq) ?_ ?_
    · rintro q i x σ G hi ⟨v4, v5, v6, b, ms, rfl, e, hG, hq, nqp, hl⟩
      obtain ⟨z, hz', rfl⟩ := int_at hi
      have hi63 := lt_of_at hz'
      have put : ∀ {G' : Hp} {o : HO}, G' q = some (.lst (ns.map V.int)) → upd G' p o q = some (.lst (ns.map V.int)) := fun {G' o} h => by rw [upd_ne nqp]; exact h
      refine st_seq (go_asg (val_I (g := fun i j => .int (i + j)) (val_var rfl) (val_var rfl) _ ?_))
      dsimp only [gName]
      refine st_if (ans_v (val_I (val_var rfl) val_c)) (fun _ => ?_) (fun _ => ?_)
      · refine st_seq (go_asg (val_var rfl _ ?_))
        dsimp only [gName]
        refine ⟨60, rfl, by decide, by decide, for_range (lo := 0) (n := 60) (fun j σ G' => ∃ v5, ∃ (y : Int) (ms' : List Int), σ = [some (.ref a), some (.int 60), some (.ref p), some (.int (b + z)), some (.int z), v5, some (.int y)] ∧ Ex H G' ∧ G' p = some (.lst (ms'.map V.int)) ∧ G' q = some (.lst (ns.map V.int)) ∧ ms'.length ≤ 60 * i + j) ⟨_, _, ms, rfl, e, hG, hq, by omega⟩ ?_ ?_⟩
        · rintro j σ G' hj ⟨v5, y, ms', rfl, e', hG', hq', hl'⟩
          refine st_seq (app rfl hG' (by omega) (val_IC (g := fun i j => .int (i.fmod j)) (vi (val_var rfl)) val_c (by decide)) ?_)
          refine st_seq (go_asg (val_IC (g := fun i j => .int (i.fdiv j)) (val_var rfl) val_c ⟨by decide, by decide⟩ _ ?_))
          dsimp only [gName]
          refine st_if (ans_v (val_eq (val_var rfl) val_c rfl)) (fun _ => ?_) (fun _ => ?_)
          · exact ⟨_, _, _, b + z, _, rfl, e'.mut hp, upd_same, put hq', nqp, by rw [List.length_append]; show _ + 1 ≤ _; omega⟩
          · exact ⟨_, _, _, rfl, e'.mut hp, upd_same, put hq', by rw [List.length_append]; show _ + 1 ≤ _; omega⟩
        · rintro σ G' ⟨v5, y, ms', rfl, e', hG', hq', hl'⟩
          exact ⟨_, _, _, b + z, ms', rfl, e', hG', hq', nqp, by omega⟩
      · refine mix2 rfl hG (by omega) (val_var rfl) val_c (by decide) (by decide) 5 (by decide) (by decide) fun v => ?_
        exact ⟨_, _, _, b + z, _, rfl, e.mut hp, upd_same, put hq, nqp, by rw [List.length_append]; show _ + 1 ≤ _; omega⟩
    · rintro q σ G ⟨v4, v5, v6, b, ms, rfl, e, hG, hq, nqp, hl⟩
      rw [List.length_map] at hl
      refine st_seq ⟨_, rfl, 60, rfl, by decide, by decide, for_range (lo := 0) (n := 60) (fun j σ G' => ∃ v5, ∃ (ms' : List Int), σ = [some (.ref a), some (.int 60), some (.ref p), some (.int b), v4, v5, v6] ∧ Ex H G' ∧ G' p = some (.lst (ms'.map V.int)) ∧ ms'.length ≤ 60 * 63 + j) ⟨_, ms, rfl, e, hG, by omega⟩ ?_ ?_⟩
      · rintro j σ G' hj ⟨v5, ms', rfl, e', hG', hl'⟩
        refine mix2 rfl hG' (by omega) (val_I (val_var rfl) (val_IC (g := fun i j => .int (i * j)) val_c (val_var rfl) (.inl ⟨by decide, by decide⟩))) (val_I val_c (val_var rfl)) (by omega) (by omega) 17 (by decide) (by decide) fun v => ?_
        exact ⟨_, _, rfl, e'.mut hp, upd_same, by rw [List.length_append]; show _ + 1 ≤ _; omega⟩
      · rintro σ G' ⟨v5, ms', rfl, e', hG', hl'⟩
        refine st_seq ⟨_, rfl, Or.inl ⟨rfl, _, SqL.of hG'⟩, p, _, rfl, rfl, hG', ?_⟩
        refine st_ret (val_var rfl) (k p _ hp ⟨ms'.reverse, by rw [upd_same, List.map_reverse]⟩ (e'.mut hp))
theorem ok__law_begun (T : TX K mg) : Can P w K mg base CX0 2 (He.fAd K at__law_begun) ps__law_begun [] spBegun := by
  obtain ⟨fd__law_take, G__law_take, ds__law_take, v__law_take, b__law_take⟩ := ok__law_take (P := P) (w := w) (base := base) T
  exact mk__law_begun T fun fd F => def0 F sc__law_begun (fun vs H Q E h => by
    obtain ⟨d, rfl, _⟩ := h
    rfl) fun cdv A outer s H vs Q E hr h => by
    obtain ⟨d, rfl, D, k⟩ := h
    refine ⟨_, (pss_cons (ps_set (i := 1) sc__law_begun.nd rfl (Or.inl rfl) pe_str)
  (pss_cons (ps_for PassesOwn.never rfl (pi_range1 rfl T.n_range (pa_cons (pe_call G__law_take (hr.mono (by first | decide | omega)) rfl T.g__law_take T.k__law_take b__law_take v__law_take pass0 (pa_cons (pv 0) (pa_cons pe_int pa_nil))) pa_nil)) (pg_name (i := 2) sc__law_begun.nd rfl (Or.inl rfl))
  (pss_one (ps_set (i := 1) sc__law_begun.nd rfl (Or.inl rfl) (pe_op op_add_str (pv 1) (pe_ix (ixL K rfl) (pe_lst (pa_cons pe_str (pa_cons pe_str (pa_cons pe_str (pa_cons pe_str (pa_cons pe_str (pa_cons pe_str pa_nil))))))) (pe_call G__law_take (hr.mono (by first | decide | omega)) rfl T.g__law_take T.k__law_take b__law_take v__law_take pass0 (pa_cons (pv 0) (pa_cons pe_int pa_nil))) (fun _ _ => rfl))))))
  (pss_one (ps_ret (pv 1))))), ?_⟩
    refine st_seq (go_asg ?_)
    dsimp only [gName]
    refine st_seq ?_
    refine rd_take rfl val_c (by decide) D fun n H1 n0 n1 D1 e1 => ?_
    refine ⟨n, rfl, by omega, by omega, for_range (lo := 0) (n := n.toNat) (fun i σ G => ∃ (v2 : Option V) (js : List Nat), σ = [some (.ref d), some (.str (sL (begT js))), v2] ∧ Kp [d] H G ∧ Dr G d ∧ js.length = i ∧ ∀ j ∈ js, j < 6) ⟨none, [], by rw [show sL (begT []) = ("" : PySem.Str) by decide +kernel] <;> rfl, e1, D1, rfl, fun j hj => by cases hj⟩ ?_ ?_⟩
    · rintro i σ G hi ⟨v2, js, rfl, e, DG, hlen, hjs⟩
      refine go_asg ?_
      refine ⟨_, rfl, by show 6 ≤ sizeLine; decide, fun l hl => ?_⟩
      have nld : l ∉ [d] := by simpa using DG.ne hl
      refine rd_take rfl val_c (by decide) (DG.put hl) fun v G2 v0 v1 D2 e2 => ?_
      have hv : v.toNat < 6 := by omega
      have hat : atI [V.str "/a", V.str "//b", V.str "/*[2]", V.str "//#", V.str "/abc[/d]", V.str "/e[\"x\"]"] v = some (.str (begS.getD v.toNat "")) := by
        obtain ⟨j, rfl⟩ : ∃ j : Nat, v = (j : Int) := ⟨v.toNat, by omega⟩
        have hj : j < 6 := by omega
        match j, hj with
        | 0, _ => rfl
        | 1, _ => rfl
        | 2, _ => rfl
        | 3, _ => rfl
        | 4, _ => rfl
        | 5, _ => rfl
      have hb1 := begT_len (js := js) (by omega)
      have hb2 := begT_len (js := js ++ [v.toNat]) (by rw [List.length_append]; show _ + 1 ≤ 3; omega)
      have ez : sL (begT js) ++ begS.getD v.toNat "" = sL (begT (js ++ [v.toNat])) := by
        rw [begT_snoc, ← sL_app, sL_of]
      have hln : (begS.getD v.toNat "").length ≤ 30 := by
        rw [begT_snoc, List.length_append] at hb2
        have : (begS.getD v.toNat "").cps.toList.length = (begS.getD v.toNat "").length := Array.length_toList
        omega
      refine ⟨l, _, v, _, rfl, rfl, SqL.of (e2.at upd_same nld), hat, _, _, rfl, rfl, by rw [sL_len]; exact sz_of (by omega), ?_⟩
      rw [ez]
      exact ⟨_, _, rfl, (e.trans (Kp.of (Ex.new hl))).trans e2, D2, by rw [List.length_append, hlen] <;> rfl, fun j hj => (List.mem_append.mp hj).elim (hjs j) fun z => by rw [List.mem_singleton.mp z]; exact hv⟩
    · rintro σ G ⟨v2, js, rfl, e, DG, hlen, hjs⟩
      exact st_ret (val_var rfl) (k js G (by omega) hjs DG e)
theorem ok__law_wrong (T : TX K mg) : Can P w K mg base CX0 2 (He.fAd K at__law_wrong) ps__law_wrong [] spWrong := by
  obtain ⟨fd__law_take, G__law_take, ds__law_take, v__law_take, b__law_take⟩ := ok__law_take (P := P) (w := w) (base := base) T
  exact mk__law_wrong T fun fd F => def0 F sc__law_wrong (fun vs H Q E h => by
    obtain ⟨d, rfl, _⟩ := h
    rfl) fun cdv A outer s H vs Q E hr h => by
    obtain ⟨d, rfl, D, k⟩ := h
    refine ⟨_, (pss_cons (ps_set (i := 1) sc__law_wrong.nd rfl (Or.inl rfl) (pe_lst (pa_cons (pe_tup (pa_cons pe_str (pa_cons pe_int (pa_cons pe_str pa_nil)))) (pa_cons (pe_tup (pa_cons pe_str (pa_cons pe_int (pa_cons pe_str pa_nil)))) (pa_cons (pe_tup (pa_cons pe_str (pa_cons pe_int (pa_cons pe_str pa_nil)))) (pa_cons (pe_tup (pa_cons pe_str (pa_cons pe_int (pa_cons pe_str pa_nil)))) (pa_cons (pe_tup (pa_cons pe_str (pa_cons pe_int (pa_cons pe_str pa_nil)))) pa_nil)))))))
  (pss_cons (ps_set (i := 1) sc__law_wrong.nd rfl (Or.inl rfl) (pe_op op_cat (pv 1) (pe_lst (pa_cons (pe_tup (pa_cons pe_str (pa_cons pe_int (pa_cons pe_str pa_nil)))) (pa_cons (pe_tup (pa_cons pe_str (pa_cons pe_int (pa_cons pe_str pa_nil)))) (pa_cons (pe_tup (pa_cons pe_str (pa_cons pe_int (pa_cons pe_str pa_nil)))) (pa_cons (pe_tup (pa_cons pe_str (pa_cons pe_int (pa_cons pe_str pa_nil)))) pa_nil)))))))
  (pss_cons (ps_set (i := 1) sc__law_wrong.nd rfl (Or.inl rfl) (pe_op op_cat (pv 1) (pe_lst (pa_cons (pe_tup (pa_cons pe_str (pa_cons pe_int (pa_cons pe_str pa_nil)))) (pa_cons (pe_tup (pa_cons pe_str (pa_cons pe_int (pa_cons pe_str pa_nil)))) (pa_cons (pe_tup (pa_cons pe_str (pa_cons pe_int (pa_cons pe_str pa_nil)))) (pa_cons (pe_tup (pa_cons pe_str (pa_cons pe_int (pa_cons pe_str pa_nil)))) pa_nil)))))))
  (pss_cons (ps_set (i := 1) sc__law_wrong.nd rfl (Or.inl rfl) (pe_op op_cat (pv 1) (pe_lst (pa_cons (pe_tup (pa_cons pe_str (pa_cons pe_int (pa_cons pe_str pa_nil)))) (pa_cons (pe_tup (pa_cons pe_str (pa_cons pe_int (pa_cons pe_str pa_nil)))) (pa_cons (pe_tup (pa_cons pe_str (pa_cons pe_int (pa_cons pe_str pa_nil)))) (pa_cons (pe_tup (pa_cons pe_str (pa_cons pe_int (pa_cons pe_str pa_nil)))) pa_nil)))))))
  (pss_cons (ps_set (i := 1) sc__law_wrong.nd rfl (Or.inl rfl) (pe_op op_cat (pv 1) (pe_lst (pa_cons (pe_tup (pa_cons pe_str (pa_cons pe_int (pa_cons pe_str pa_nil)))) (pa_cons (pe_tup (pa_cons (pe_op op_add_str (pe_op op_add_str pe_str (pe_op op_mulS pe_str pe_int)) pe_str) (pa_cons pe_int (pa_cons pe_str pa_nil)))) (pa_cons (pe_tup (pa_cons pe_str (pa_cons pe_int (pa_cons pe_str pa_nil)))) pa_nil))))))
  (pss_cons (ps_set (i := 1) sc__law_wrong.nd rfl (Or.inl rfl) (pe_op op_cat (pv 1) (pe_lst (pa_cons (pe_tup (pa_cons pe_str (pa_cons pe_int (pa_cons pe_str pa_nil)))) (pa_cons (pe_tup (pa_cons pe_str (pa_cons pe_int (pa_cons pe_str pa_nil)))) (pa_cons (pe_tup (pa_cons pe_str (pa_cons pe_int (pa_cons pe_str pa_nil)))) (pa_cons (pe_tup (pa_cons pe_str (pa_cons pe_int (pa_cons pe_str pa_nil)))) pa_nil)))))))
  (pss_cons (ps_set (i := 1) sc__law_wrong.nd rfl (Or.inl rfl) (pe_op op_cat (pv 1) (pe_lst (pa_cons (pe_tup (pa_cons pe_str (pa_cons pe_int (pa_cons pe_str pa_nil)))) (pa_cons (pe_tup (pa_cons pe_str (pa_cons pe_int (pa_cons pe_str pa_nil)))) (pa_cons (pe_tup (pa_cons pe_str (pa_cons pe_int (pa_cons pe_str pa_nil)))) (pa_cons (pe_tup (pa_cons pe_str (pa_cons pe_int (pa_cons pe_str pa_nil)))) (pa_cons (pe_tup (pa_cons pe_str (pa_cons pe_int (pa_cons pe_str pa_nil)))) pa_nil))))))))
  (pss_cons (ps_set (i := 1) sc__law_wrong.nd rfl (Or.inl rfl) (pe_op op_cat (pv 1) (pe_lst (pa_cons (pe_tup (pa_cons pe_str (pa_cons pe_int (pa_cons pe_str pa_nil)))) (pa_cons (pe_tup (pa_cons (pe_op op_mulS pe_str pe_int) (pa_cons pe_int (pa_cons pe_str pa_nil)))) (pa_cons (pe_tup (pa_cons pe_str (pa_cons pe_int (pa_cons pe_str pa_nil)))) (pa_cons (pe_tup (pa_cons pe_str (pa_cons pe_int (pa_cons pe_str pa_nil)))) pa_nil)))))))
  (pss_one (ps_ret (pe_ix (ixL K rfl) (pv 1) (pe_call G__law_take (hr.mono (by first | decide | omega)) rfl T.g__law_take T.k__law_take b__law_take v__law_take pass0 (pa_cons (pv 0) (pa_cons (pe_callB (cLen K rfl) (by rfl) T.n_len PySem.boot_len (pa_cons (pv 1) pa_nil)) pa_nil))) (fun _ _ => rfl)))))))))))), ?_⟩
    refine wr_first (rs := wrS.take 5) (er_cons ev_c rfl (er_cons ev_c rfl (er_cons ev_c rfl (er_cons ev_c rfl (er_cons ev_c rfl er_nil))))) (by decide) fun p1 x1 G1 e1 h1 r1 => ?_
    refine wr_next (rs := wrS.take 5) (ss := (wrS.drop 5).take 4) rfl h1 r1 (er_cons ev_c rfl (er_cons ev_c rfl (er_cons ev_c rfl (er_cons ev_c rfl er_nil)))) (by decide) (by decide) e1 fun p2 x2 G2 e2 h2 r2 => ?_
    refine wr_next (rs := wrS.take 9) (ss := (wrS.drop 9).take 4) rfl h2 r2 (er_cons ev_c rfl (er_cons ev_c rfl (er_cons ev_c rfl (er_cons ev_c rfl er_nil)))) (by decide) (by decide) (e1.trans e2) fun p3 x3 G3 e3 h3 r3 => ?_
    refine wr_next (rs := wrS.take 13) (ss := (wrS.drop 13).take 4) rfl h3 r3 (er_cons ev_c rfl (er_cons ev_c rfl (er_cons ev_c rfl (er_cons ev_c rfl er_nil)))) (by decide) (by decide) ((e1.trans e2).trans e3) fun p4 x4 G4 e4 h4 r4 => ?_
    refine wr_next (rs := wrS.take 17) (ss := (wrS.drop 17).take 3) rfl h4 r4 (er_cons ev_c rfl (er_cons (ev_adS (ev_adS (c := sL ([47, 97, 91, 34] ++ List.replicate 41 121)) ev_c (ev_muS (c := sL (List.replicate 41 121)) (by decide +kernel)) (by decide +kernel) (by decide +kernel)) ev_c (by decide +kernel) (by decide +kernel) (c := sL ([47, 97, 91, 34] ++ List.replicate 41 121 ++ [34, 93]))) rfl (er_cons ev_c rfl er_nil))) (by decide) (by decide) (((e1.trans e2).trans e3).trans e4) fun p5 x5 G5 e5 h5 r5 => ?_
    refine wr_next (rs := wrS.take 20) (ss := (wrS.drop 20).take 4) rfl h5 r5 (er_cons ev_c rfl (er_cons ev_c rfl (er_cons ev_c rfl (er_cons ev_c rfl er_nil)))) (by decide) (by decide) ((((e1.trans e2).trans e3).trans e4).trans e5) fun p6 x6 G6 e6 h6 r6 => ?_
    refine wr_next (rs := wrS.take 24) (ss := (wrS.drop 24).take 5) rfl h6 r6 (er_cons ev_c rfl (er_cons ev_c rfl (er_cons ev_c rfl (er_cons ev_c rfl (er_cons ev_c rfl er_nil))))) (by decide) (by decide) (((((e1.trans e2).trans e3).trans e4).trans e5).trans e6) fun p7 x7 G7 e7 h7 r7 => ?_
    refine wr_next (rs := wrS.take 29) (ss := (wrS.drop 29).take 4) rfl h7 r7 (er_cons ev_c rfl (er_cons (ev_muS (c := sL (List.replicate 13 [47, 97]).flatten) (by decide +kernel)) rfl (er_cons ev_c rfl (er_cons ev_c rfl er_nil)))) (by decide) (by decide) ((((((e1.trans e2).trans e3).trans e4).trans e5).trans e6).trans e7) fun p8 x8 G8 e8 h8 r8 => ?_
    have eAll := (((((((e1.trans e2).trans e3).trans e4).trans e5).trans e6).trans e7).trans e8)
    refine ⟨_, rfl, ?_⟩
    have D1 := D.keep eAll
    have hl : x8.length = 33 := r8.2.len
    have fr : ∀ (i : Nat) (t : Addr), x8[i]? = some (V.ref t) → H t = none := fun i t h => r8.1 t (List.mem_of_getElem? h)
    refine rd_take rfl (val_lenL (val_var rfl) (SqL.of h8)) (by rw [hl]; decide) D1 fun v G0 v0 v1 D0 e0 => ?_
    rw [hl] at v1
    have hv : v.toNat < 33 := by omega
    have hw : wrS[v.toNat]? = some wrS[v.toNat] := List.getElem?_eq_getElem hv
    obtain ⟨t, ht, hG⟩ := r8.2.at hw
    have npd : p8 ≠ d := fun z => by
      obtain ⟨ns, hd⟩ := D1
      rw [← z, h8] at hd
      cases hx : x8 with
      | nil => rw [hx] at hl; cases hl
      | cons y ys =>
        have r8' := r8.2
        rw [hx] at r8' hd
        obtain ⟨⟨u, hu, _⟩, _⟩ := (show Rows3 _ (y :: ys) (mk3 "/" 1 "test" :: wrS.tail) from r8')
        rw [hu] at hd
        cases ns with
        | nil => cases hd
        | cons n ns => cases hd
    refine ⟨p8, _, v, _, rfl, rfl, SqL.of (e0.at h8 (by simpa using npd)), by rw [show v = ((v.toNat : Nat) : Int) by omega]; exact atI_nat ht, ?_⟩
    refine k wrS[v.toNat] t G0 (List.getElem_mem hv) (fr _ _ ht) D0 ((Kp.of eAll).trans e0) (e0.at hG ?_)
    intro z
    obtain ⟨ns, hd⟩ := D1
    rw [← List.mem_singleton.mp z, hG] at hd
    cases hd
end
/-! ### the law -/
def spLaw (K : PySem.W.Frag) : Sp := fun vs H Q _ => ∃ (a : Addr) (ns : List Int), vs = [.ref a] ∧ SqL K H a (ns.map V.int) ∧ ns.length ≤ 63 ∧ ∀ H', Q (.bl true) H'
theorem law_start {K : PySem.W.Frag} {H : Hp} {a : Addr} {ns : List Int} (hl : ns.length ≤ 63) (_ : ∀ z ∈ ns, Builtin.Int.intBits z ≤ 1048576) (_ : ∀ p ∈ tf, H (He.cT K p).2 = some (.tbl #[])) (hS : SqL K H a (ns.map V.int)) : spLaw K [.ref a] H (fun v _ => v = .bl true) fun _ _ _ => False := ⟨a, ns, rfl, hS, hl, fun _ => rfl⟩
def others : List (PySem.Str × Nat × PySem.Str) := [mk3 "" 1 "step", mk3 "a" 1 "step", mk3 " /a" 1 "step", mk3 "[1]" 1 "step"]
theorem others_no : ∀ p ∈ others, qAll p.1.cps.toList = .no p.2.1 p.2.2 ∧ p.1.cps.size ≤ 1000 ∧ PyData.strOk p.2.2 = true := by
  intro p hp
  simp only [others, List.mem_cons, List.not_mem_nil, or_false] at hp
  rcases hp with rfl | rfl | rfl | rfl
  · exact ⟨other_no.1, by decide +kernel, by decide +kernel⟩
  · exact ⟨other_no.2.1, by decide +kernel, by decide +kernel⟩
  · exact ⟨other_no.2.2.1, by decide +kernel, by decide +kernel⟩
  · exact ⟨other_no.2.2.2, by decide +kernel, by decide +kernel⟩
theorem wr_ok : ∀ p ∈ wrS, PyData.strOk p.2.2 = true := by decide +kernel
theorem pair_shaped (i : Int) (r : PySem.Str) (hr : PyData.strOk r = true) : SeqAt.shaped (.tuple [.int i, .str r]) = true := by
  unfold SeqAt.shaped
  rw [Bool.and_eq_true]
  refine ⟨?_, ?_⟩
  · rw [PyData.canLay0, PyData.canLayAll0, PyData.canLayAll0, PyData.canLayAll0, PyData.canLay0, PyData.canLay0, hr]
    rfl
  · rw [PyData.depth, PyData.depthAll, PyData.depthAll, PyData.depthAll, PyData.depth, PyData.depth]
    rfl
section
variable {P : Program} {w : World} {K : PySem.W.Frag} {mg : Str → Option Value} {base : Heap}
theorem ok_law (T : TX K mg) (D : Dics ts w K) (_ : ∀ p ∈ tf, LamX.TabB base mg (He.cT K p).1 (He.cT K p).2) (fd : FuncData) (F : FunD K "law" "law" (defArgs s_law) (defBody s_law) (defScope s_law) [] [] (He.fAd K at_law) fd) : FnOk P w K mg base CX0 34 (He.fAd K at_law) fd ps_law (spLaw K) := by
  obtain ⟨fd__law_numbers, G__law_numbers, ds__law_numbers, v__law_numbers, b__law_numbers⟩ := ok__law_numbers (P := P) (w := w) (base := base) T
  obtain ⟨fd__law_begun, G__law_begun, ds__law_begun, v__law_begun, b__law_begun⟩ := ok__law_begun (P := P) (w := w) (base := base) T
  obtain ⟨fd__law_wrong, G__law_wrong, ds__law_wrong, v__law_wrong, b__law_wrong⟩ := ok__law_wrong (P := P) (w := w) (base := base) T
  obtain ⟨fd__law_told, G__law_told, ds__law_told, v__law_told, b__law_told⟩ := ok__law_told (P := P) (w := w) (base := base) T D
  refine def0 F sc_law (fun vs H Q E h => by
    obtain ⟨a, ns, rfl, _⟩ := h
    rfl) fun cdv A outer s H vs Q E hr h => ?_
  obtain ⟨a, ns, rfl, hS, hl, k⟩ := h
  refine ⟨_, (pss_cons (ps_set (i := 1) sc_law.nd rfl (Or.inl rfl) (pe_call G__law_numbers (hr.mono (by first | decide | omega)) rfl T.g__law_numbers T.k__law_numbers b__law_numbers v__law_numbers pass0 (pa_cons (pv 0) (pa_cons pe_int pa_nil))))
  (pss_cons (ps_set (i := 2) sc_law.nd rfl (Or.inl rfl) (pe_call G__law_begun (hr.mono (by first | decide | omega)) rfl T.g__law_begun T.k__law_begun b__law_begun v__law_begun pass0 (pa_cons (pv 1) pa_nil)))
  (pss_cons (ps_asg (pe_call G__law_wrong (hr.mono (by first | decide | omega)) rfl T.g__law_wrong T.k__law_wrong b__law_wrong v__law_wrong pass0 (pa_cons (pv 1) pa_nil)) (pg_tup rfl (pgs_cons (pg_name (i := 3) sc_law.nd rfl (Or.inl rfl)) (pgs_cons (pg_name (i := 4) sc_law.nd rfl (Or.inl rfl)) (pgs_cons (pg_name (i := 5) sc_law.nd rfl (Or.inl rfl)) pgs_nil)))))
  (pss_cons (ps_if (pt_cmpR op_eq (pv 5) pe_str (nomark _)) (pss_one (ps_set (i := 2) sc_law.nd rfl (Or.inl rfl) pe_str)) pss_nil)
  (pss_cons (ps_if (pt_cmpR (oNeD K rfl hr.units) (pe_call G__law_told (hr.mono (by first | decide | omega)) rfl T.g__law_told T.k__law_told b__law_told v__law_told pass0 (pa_cons (pe_op op_add_str (pv 2) (pv 3)) pa_nil)) (pe_tup (pa_cons (pe_op op_add (pe_op op_add (pe_callB call_len_str (by rfl) T.n_len PySem.boot_len (pa_cons (pv 2) pa_nil)) (pv 4)) pe_int) (pa_cons (pv 5) pa_nil))) (nomark _)) (pss_one (ps_ret pe_bl)) pss_nil)
  (pss_cons (ps_if (PW.pt (pw_and (pt_cmpR op_ne (pv 2) pe_str (nomark _)) (pw_and1 (pt_cmpR op_ne (pe_call G__law_told (hr.mono (by first | decide | omega)) rfl T.g__law_told T.k__law_told b__law_told v__law_told pass0 (pa_cons (pv 2) pa_nil)) pe_str (nomark _))))) (pss_one (ps_ret pe_bl)) pss_nil)
  (pss_cons (ps_for PassesOwn.never rfl (iLst K rfl (pe_lst (pa_cons (pe_tup (pa_cons pe_str (pa_cons pe_int (pa_cons pe_str pa_nil)))) (pa_cons (pe_tup (pa_cons pe_str (pa_cons pe_int (pa_cons pe_str pa_nil)))) (pa_cons (pe_tup (pa_cons pe_str (pa_cons pe_int (pa_cons pe_str pa_nil)))) (pa_cons (pe_tup (pa_cons pe_str (pa_cons pe_int (pa_cons pe_str pa_nil)))) pa_nil)))))) (pg_tup rfl (pgs_cons (pg_name (i := 6) sc_law.nd rfl (Or.inl rfl)) (pgs_cons (pg_name (i := 7) sc_law.nd rfl (Or.inl rfl)) (pgs_cons (pg_name (i := 8) sc_law.nd rfl (Or.inl rfl)) pgs_nil))))
  (pss_one (ps_if (pt_cmpR (oNeD K rfl hr.units) (pe_call G__law_told (hr.mono (by first | decide | omega)) rfl T.g__law_told T.k__law_told b__law_told v__law_told pass0 (pa_cons (pv 6) pa_nil)) (pe_tup (pa_cons (pv 7) (pa_cons (pv 8) pa_nil))) (nomark _)) (pss_one (ps_ret pe_bl)) pss_nil)))
  (pss_one (ps_ret pe_bl))))))))), ?_⟩
  have no : ∀ {σ : L2.St} {G : Hp} {te ta tb : TE} {z r : PySem.Str} {c : Nat}, Ev te σ G (.str z) → z.cps.size ≤ 1000 → qAll z.cps.toList = .no c r → PyData.strOk r = true → Ev ta σ G (.int (c : Int)) → Ev tb σ G (.str r) → EvT (tTest (tOp (rNeD K) (tCall spTold [] E0 (tCons te tNil)) (tTup (tCons ta (tCons tb tNil))))) σ G false := fun {σ G te ta tb z r c} h hz hq hro h1 h2 => by
    have d1 : EvD K (tCall spTold [] E0 (tCons te tNil)) σ G (.tuple [.int (c : Int), .str r]) := ed_call (ea_cons h ea_nil) fun H1 e Q q E => ⟨z, rfl, hz, fun l i m e1 => (by rw [hq] at e1; cases e1), fun c' r' e1 => (by
      rw [hq] at e1
      cases e1
      exact spd_tup (fun _ => .cons (.int _) (.cons (.str _) .nil)) q)⟩
    have d2 : EvD K (tTup (tCons ta (tCons tb tNil))) σ G (.tuple [.int (c : Int), .str r]) := ed_tup (eds_cons (ed_val h1 (.int _)) (eds_cons (ed_val h2 (.str _)) eds_nil)) (by show 2 ≤ 100000; decide)
    exact et_is (et_test (neD d1 d2 (pair_shaped _ _ hro) (pair_shaped _ _ hro))) (by rw [eqv_self (pair_shaped _ _ hro)]; rfl)
  refine st_seq (go_asg ⟨_, rfl, a, ns, rfl, hS, hl, fun d H1 hd D1 e1 => ?_⟩)
  dsimp only [gName]
  refine st_seq (go_asg ⟨_, rfl, d, rfl, D1, fun js H2 hj h6 D2 e2 => ?_⟩)
  dsimp only [gName]
  refine st_seq (go_asg ⟨_, rfl, d, rfl, D2, fun p t H3 hp ht D3 e3 htup => ?_⟩)
  refine ⟨t, _, rfl, SqT.of htup, rfl, _, _, rfl, _, _, rfl, _, _, rfl, rfl, ?_⟩
  have hno := at_no hj h6 hp
  have hro := wr_ok p hp
  obtain ⟨hp1, hp2⟩ := wr_small p hp
  obtain ⟨z, i, r⟩ := p
  dsimp only at hno hp1 hp2 hro ⊢
  have hTl : (if r = "steps" then [] else begT js).length ≤ 30 := by
    split
    · exact Nat.zero_le _
    · exact begT_len hj
  have hTne : (if r = "steps" then [] else begT js) = [] ∨ ∃ l i m, qAll (if r = "steps" then [] else begT js) = .ok l i m := by
    split
    · exact .inl rfl
    · by_cases hjs : js = []
      · exact .inl ((begT_ne h6).mpr hjs)
      · exact .inr (at_ok hj h6 hjs)
  refine q_ifAsg (v := .str (sL (if r = "steps" then [] else begT js))) (b := decide (r = "steps")) (et_is (et_test (ev_op (ev_var rfl) ev_c (rv_eq rfl))) (by
    rw [decide_eq_decide]
    exact ⟨fun h => V.str.inj h, fun h => by rw [h]⟩)) (fun h => by
      rw [if_pos (of_decide_eq_true h), show sL [] = ("" : PySem.Str) by decide +kernel]
      exact ev_c) (fun h => by
      rw [if_neg (of_decide_eq_false h)]
      rfl) fun H4 e4 => ?_
  generalize (if r = "steps" then [] else begT js) = W at hno hTl hTne ⊢
  have hzl : z.cps.toList.length = z.cps.size := Array.length_toList
  have hWz : sL W ++ z = sL (W ++ z.cps.toList) := by rw [← sL_app, sL_of]
  refine q_when (b := false) (no (z := sL (W ++ z.cps.toList)) (r := r) (c := W.length + i + 1) (ev_is (ev_op (ev_var rfl) (ev_var rfl) (rv_val fun _ _ Q q => ⟨_, _, rfl, rfl, by rw [sL_len]; show _ + z.cps.size ≤ _; exact sz_of (by omega), q⟩)) (by rw [hWz])) (by show (sL _).length ≤ 1000; rw [sL_len, List.length_append]; omega) hno hro
    (ev_is (ev_op (ev_op (ev_cb (ea_cons (ev_var rfl) ea_nil) fun _ _ Q q => ⟨_, rfl, by rw [sL_len]; exact sz_of (by omega), q _ (Ex.refl _)⟩) (ev_var rfl) (rv_I0 (g := fun i j => .int (i + j)))) ev_c (rv_I0 (g := fun i j => .int (i + j)))) (by rw [sL_len]; congr 1)) (ev_var rfl)) (fun z => by cases z) fun _ H5 e5 => ?_
  refine q_when (b := false) (et_is (et_and (a := !decide (W = [])) (b := false) (et_is (et_test (ev_op (ev_var rfl) ev_c (rv_ne rfl))) (by
    congr 1
    rw [decide_eq_decide]
    constructor
    · intro h
      have := V.str.inj h
      have h2 := congrArg (fun x : PySem.Str => x.cps.toList) this
      have h3 : ("" : PySem.Str).cps.toList = [] := by decide +kernel
      exact h2.trans h3
    · intro h
      rw [h, show sL [] = ("" : PySem.Str) by decide +kernel])) fun h => et_is (et_test (ev_op (ev_call (ea_cons (ev_var rfl) ea_nil) fun H1 e Q q E => ?_) ev_c (rv_ne (x := .str "read") rfl))) (by rw [decide_eq_true rfl]; rfl)) (by cases (decide (W = [])) <;> rfl)) (fun z => by cases z) fun _ H6 e6 => ?_
  · have hW : W ≠ [] := fun z => by rw [decide_eq_true z] at h; cases h
    obtain ⟨l', i', m', hok⟩ := hTne.resolve_left hW
    exact ⟨sL W, rfl, by show (sL W).length ≤ 1000; rw [sL_len]; omega, fun _ _ _ _ H' e' => q H' e', fun c r' e1 => (by
      rw [sL_list, hok] at e1
      cases e1)⟩
  have er : ∀ σ : L2.St, EvR (tCons (tTup (tCons (tC (.str "")) (tCons (tC (.int 1)) (tCons (tC (.str "step")) tNil)))) (tCons (tTup (tCons (tC (.str "a")) (tCons (tC (.int 1)) (tCons (tC (.str "step")) tNil)))) (tCons (tTup (tCons (tC (.str " /a")) (tCons (tC (.int 1)) (tCons (tC (.str "step")) tNil)))) (tCons (tTup (tCons (tC (.str "[1]")) (tCons (tC (.int 1)) (tCons (tC (.str "step")) tNil)))) tNil)))) σ H6 others := fun σ => er_cons ev_c rfl (er_cons ev_c rfl (er_cons ev_c rfl (er_cons ev_c rfl er_nil)))
  refine st_seq ?_
  unfold tFor iList tLst
  refine er _ H6 (Ex.refl _) _ (fun vs H7 e7 f7 r7 => ⟨by rw [r7.len]; show 4 ≤ sizeLine; decide, fun L hL => ⟨L, rfl, ⟨vs, SqL.of upd_same⟩, for_list (xs := vs) (fun n σ G => ∃ v6 v7 v8, σ = [some (.ref a), some (.ref d), some (.str (sL W)), some (.str z), some (.int (i : Int)), some (.str r), v6, v7, v8] ∧ Ex (upd H7 L (.lst vs)) G) ⟨_, _, _, rfl, Ex.refl _⟩ (fun n σ G _ ⟨_, _, _, _, e⟩ => SqL.of (e _ _ upd_same)) ?_ ?_⟩⟩)
  · rintro n x σ G hn ⟨v6, v7, v8, rfl, e⟩
    have hlt : n < others.length := by rw [← r7.len]; exact lt_of_at hn
    obtain ⟨u, hu, hU⟩ := r7.at (List.getElem?_eq_getElem hlt)
    rw [hn] at hu
    cases hu
    have hm := others_no _ (List.getElem_mem hlt)
    generalize others[n] = o at hm hU
    refine ⟨u, _, rfl, SqT.of (e _ _ ((Ex.new hL) _ _ hU)), rfl, _, _, rfl, _, _, rfl, _, _, rfl, rfl, ?_⟩
    exact s_when (b := false) (no (ev_var rfl) hm.2.1 hm.1 hm.2.2 (ev_var rfl) (ev_var rfl)) (fun z => by cases z) fun _ G2 e2 => ⟨_, _, _, rfl, e.trans e2⟩
  · rintro σ G ⟨v6, v7, v8, rfl, e⟩
    exact k G
end

/-! ### the head and the end -/
abbrev R : PySem.W.OpenRow := PySem.W.OpenLaw.row PySem.Challenge.rw_topiary_k36_first_error_of_a_question
abbrev hk : PySem.W.Hook := He.hookX 5 fa fn ts tf (moreB fx)
def obs (s : PySem.W.SharedT) : He.AlX := He.obsX 5 fa fn ts tf (moreB fx) (HandSHeadRun.getT s)
theorem obs_eq (s : PySem.W.SharedT) : obs s = hk.obs s.abs := He.obsX_eq (HandSHeadRun.getT_eq s)
def names : List Str := ["TopiaryError", "InvalidQuestion", "is_letter", "QuestionReading", "read_question", "_law_mix", "_law_numbers", "_law_take", "_law_told", "_law_begun", "_law_wrong", "NAME_LETTERS", "MOST_STEPS", "MOST_NESTED", "MOST_PLACE", "STRING_SIGNS", "AXES", "OTHER_TESTS", "ESCAPED"]
theorem run (w : World) : HandSHeadRun.RunEq R (PySem.W.view R.prog [23]) hk obs 3000 names w := by
  refine PySem.W.byRow2 "special-get-raises" (P := fun w => HandSHeadRun.RunEq R (PySem.W.view R.prog [23]) hk obs 3000 names w) (fun w => ?_) (fun w => ?_) w
  · intro os
    kernel_rfl
  · intro os
    kernel_rfl
theorem facts {w : World} {K : PySem.W.Frag} {h g : Heap} {mg : Str → Option Value} {f : Addr} (X : K.In h) (G : h.Ns mainGlobals mg) (hfa : mg ("law" : Str) = some (.ref f)) (c : He.SaysX fa fn ts tf (moreB fx) w g K) :
    ∃ fd : FuncData, (∀ (s : Shared) (v : Value), BindsTo s fd ⟨[v], []⟩ [("script", v)]) ∧ ∀ base : Heap, K.In base → base.Ns mainGlobals mg → (∀ p ∈ tf, LamX.TabB base mg (He.cT K p).1 (He.cT K p).2) → FnOk (PySem.Challenge.rw_topiary_k36_first_error_of_a_question).prog w K mg base (L2.CX0) 34 f fd ["script"] (spLaw K) := by
  have T : TX K mg := txt_ofY X G c
  obtain ⟨fd, F⟩ := T.d 19 _ rfl
  have e := hfa.symm.trans T.g_law
  cases e
  exact ⟨fd, fun s v => FunD.bindsA (ps := ["script"]) F (fun _ _ _ _ _ _ us hl => match us, hl with | [_], _ => rfl) s [v] rfl, fun base _ _ B => ok_law T (dics_of c.t) B fd F⟩
end Tp
open PySem PySem.W PySem.Calls PyProof.Rows
set_option maxRecDepth 100000 in
set_option maxHeartbeats 0 in
theorem PySem.Challenge.cw_topiary_k36_first_error_of_a_question_holds : PySem.Challenge.rw_topiary_k36_first_error_of_a_question.Holds := by
  w_on; o_law
  refine HandSHeadRun.head_any (r := OpenLaw.row PySem.Challenge.rw_topiary_k36_first_error_of_a_question) (q := view (OpenLaw.row PySem.Challenge.rw_topiary_k36_first_error_of_a_question).prog [23]) (H := Tp.hk) (ob := Tp.obs) (M := 3000) (loose := Tp.names) (d := HandSHeadRun.topDef (OpenLaw.row PySem.Challenge.rw_topiary_k36_first_error_of_a_question).prog 23) (kwd := []) Tp.obs_eq
    (by kernel_rfl) (fun s => by kernel_rfl) Tp.run (by kernel_rfl) (by kernel_rfl) (by kernel_rfl) (by rfl) (by first | assumption | decide +kernel) (by decide +kernel) ⟨rfl, rfl, rfl, rfl, rfl, by decide +kernel⟩ ?hw ?hc
  case hw => w_witness2
  case hc =>
    refine Tp.endsY (tf := Tp.tf) (l := PySem.Challenge.rw_topiary_k36_first_error_of_a_question) (n := 63) (k := 34) (x := "script") (CX := fun _ => L2.CX0) rfl (by decide) (by kernel_rfl) ⟨rfl, by decide, by decide⟩ ?F (fun _ _ _ _ _ z => z)
    intro w mg fa h Y G hmg0
    obtain ⟨K, KX, c⟩ := Y
    have hmg : mg ("law" : PySem.Str) = some (.ref fa) := by
      have e : (HandSHeadRun.topDef (OpenLaw.row PySem.Challenge.rw_topiary_k36_first_error_of_a_question).prog 23).name = ("law" : PySem.Str) := by kernel_rfl
      rw [← e]
      exact hmg0
    obtain ⟨fd, hb, hF⟩ := Tp.facts (w := w) KX G hmg c
    exact ⟨K, fd, Tp.spLaw K, KX, c.hd, c.out, c.empty, hb, fun H a ns hl hz hO hS => Tp.law_start hl hz hO hS, hF⟩
