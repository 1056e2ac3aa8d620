import PyProof.Rows.All
import Wide.All
import OpenK.AllK
import Wide.FinOn
import KE.KStateDown
import HandS.ForMost
import HandS.Exc
import HandS.WordsExc
import HandS.ExcInit
import HandS.ExcField
import KE.KExcIs
import HandS.ExcIs
import HandS.Star
import HandS.DictComp
import HandS.Wide
import HandS.IsInst
import HandS.EndBits
import HandS.Evl
import HandS.Defaults
import HandS.Zip
import HandS.Steps
import HandS.Walk
import HandS.SortInts
import HandS.More
import HandS.SetKeys
import HandS.Head0
import HandS.Head1
import HandS.Head2
import HandS.HeadEnd
import HandS.HeadHook1
import HandS.HeadHook2
import HandS.HeadHook3
import HandS.HeadHook4
import HandS.HeadWalk
import PyProof.ConsumeS
import PyProof.GenQ
import HandS.AnyAll
import HandS.Text
import HandS.StrMore
import HandS.Codes
import HandS.Rev
import HandS.RevTup
import PyProof.ListNew
import HandS.ReplaceList
import HandS.ReplaceLit
import HandS.ReplaceDef
import PyProof.StrLawsIn
import HandS.TupLe
import HandS.FStr
import PyProof.StrLawsLast
import PySem.Challenge.RW_topiary_k21_whole_any_text_is_refused_or
set_option Elab.async false
set_option linter.all false
set_option maxRecDepth 100000
set_option maxHeartbeats 4000000
/-! Words of my own over the hand layer: what the head tells (facts, defs, own exceptions), ends, heaps that change at few places. -/
namespace Tp
open PySem PySem.Spec PyProof.Rows L2

/-! ### own exceptions as the head tells them -/
def excShape (C : Addr) : Obj → Bool
  | ⟨.type t, _, .cls cd, sl⟩ => decide (t = "type") && (cd.hasDict && (!cd.hasDel && (match cd.mro, sl.toList with
    | .ref C' :: bm, [_, _, _, _, some (.builtin n), _] => decide (C' = C) && (decide (n = "ValueError.__new__") && PySem.HandSPX.refsVE bm)
    | _, _ => false)))
  | _ => false
theorem two {a b : Bool} (h : (a && b) = true) : a = true ∧ b = true := Bool.and_eq_true_iff.mp h
theorem excShape_ok {C : Addr} {o : Obj} (h : excShape C o = true) : ∃ nm q N bs bm sn sub ab col dd k0 k1 k2 k3 k5, o = excClassObj nm q C N bs bm true sn sub ab col dd k0 k1 k2 k3 k5 "ValueError.__new__" ∧ PySem.HandSPX.refsVE bm = true := by
  obtain ⟨oc, od, dt, sl⟩ := o
  cases oc with
  | type t =>
    cases dt with
    | cls cd =>
      obtain ⟨h1, h⟩ := two h
      obtain ⟨h2, h⟩ := two h
      obtain ⟨h3, h⟩ := two h
      obtain ⟨nm, bs, mro, ns, qn, hd, sn, sb, ab, col, del⟩ := cd
      obtain ⟨sl⟩ := sl
      have e1 : t = "type" := of_decide_eq_true h1
      subst e1
      cases del with
      | true => cases h3
      | false =>
        have e2 : hd = true := h2
        subst e2
        match mro, sl, h with
        | .ref C' :: bm, [k0, k1, k2, k3, some (.builtin n), k5], h =>
          obtain ⟨h4, h⟩ := two h
          obtain ⟨h5, h6⟩ := two h
          have e3 : C' = C := of_decide_eq_true h4
          have e4 : n = "ValueError.__new__" := of_decide_eq_true h5
          subst e3 e4
          exact ⟨nm, qn, ns, bs, bm, sn, sb, ab, col, od, k0, k1, k2, k3, k5, rfl, h6⟩
    | _ => cases h
  | _ => cases dt <;> cases h
/-- the class x of the module: an own exception -/
def excB (K : PySem.W.Frag) (x : Str) : Bool := (match K.lookup (He.ga K x) with
  | some o => excShape (He.ga K x) o
  | none => false) && (decide (PySem.W.findIn K (.ref (He.ga K x)) "__setattr__" = some (some (.builtin "object.__setattr__"))) && (decide (PySem.W.subIn K (.ref (He.ga K x)) (.type "BaseException") = some true) &&
  (decide (PySem.W.typeIn K (.ref (He.ga K x)) = some (.type "type")) && PySem.W.keepIn K (.ref (He.ga K x)))))
theorem excB_ok {K : PySem.W.Frag} {x : Str} (h : excB K x = true) : OexC K (He.ga K x) := by
  obtain ⟨h1, h⟩ := two h
  obtain ⟨h2, h⟩ := two h
  obtain ⟨h3, h⟩ := two h
  obtain ⟨h4, h5⟩ := two h
  refine ⟨?_, of_decide_eq_true h2, of_decide_eq_true h3, of_decide_eq_true h4, h5⟩
  cases q : K.lookup (He.ga K x) with
  | none =>
    rw [q] at h1
    cases h1
  | some o =>
    rw [q] at h1
    obtain ⟨nm, qn, N, bs, bm, sn, sub, ab, col, dd, k0, k1, k2, k3, k5, e, r⟩ := excShape_ok h1
    exact ⟨nm, qn, N, bs, bm, sn, sub, ab, col, dd, k0, k1, k2, k3, k5, by rw [e], r⟩
/-- its own __init__ -/
def iniB (K : PySem.W.Frag) (x : Str) : Bool := decide (PySem.W.findIn K (.ref (He.ga K x)) "__init__" = some (some (.ref (He.ma K (He.ga K x) "__init__")))) && decide (PySem.W.typeIn K (.ref (He.ma K (He.ga K x) "__init__")) = some (.type "function"))
theorem iniB_ok {K : PySem.W.Frag} {x : Str} (h : iniB K x = true) : PySem.W.findIn K (.ref (He.ga K x)) "__init__" = some (some (.ref (He.ma K (He.ga K x) "__init__"))) ∧ PySem.W.typeIn K (.ref (He.ma K (He.ga K x) "__init__")) = some (.type "function") := by
  obtain ⟨h1, h2⟩ := two h
  exact ⟨of_decide_eq_true h1, of_decide_eq_true h2⟩
/-- what isinstance of a caught own error asks of its class -/
def excCB (K : PySem.W.Frag) (D : Addr) : Bool := decide (PySem.W.findIn K (.ref D) "__getattribute__" = some (some (.builtin "BaseException.__getattribute__"))) && (decide (PySem.W.findIn K (.ref D) "__getattr__" = some none) && (decide (PySem.W.subIn K (.ref D) (.type "BaseException") = some true) && (PySem.W.hasDictIn K D &&
  (decide (PySem.W.findIn K (.ref D) "__class__" = some (some (.builtin "object.__class__"))) && (decide (PySem.W.specialIn K (.builtin "object.__class__") "__get__" = some (some (.builtin "getset_descriptor.__get__"))) && (decide (PySem.W.takesIn K (.builtin "object.__class__") = some true) && decide (PySem.W.mroIn K D (.type "object") = some true)))))))
theorem excCB_ok {K : PySem.W.Frag} {D : Addr} (h : excCB K D = true) : ExcC K D := by
  obtain ⟨h1, h⟩ := two h
  obtain ⟨h2, h⟩ := two h
  obtain ⟨h3, h⟩ := two h
  obtain ⟨h4, h⟩ := two h
  obtain ⟨h5, h⟩ := two h
  obtain ⟨h6, h⟩ := two h
  obtain ⟨h7, h8⟩ := two h
  exact ⟨of_decide_eq_true h1, of_decide_eq_true h2, of_decide_eq_true h3, h4, of_decide_eq_true h5, of_decide_eq_true h6, of_decide_eq_true h7, of_decide_eq_true h8⟩
/-- isinstance(e, t), e the caught error of the own class C with its dict -/
def rIsX (a : Addr) (cls : Value) (d : Option Addr) (C : Addr) (t : String) (b : Bool) : List V → Hp → VK → Prop := fun xs H Q => xs = [.ref a, .ty t] ∧ cls = .ref C ∧ (∃ (dd : Addr) (fs : List (Str × V)), d = some dd ∧ H dd = some (.xd fs)) ∧ Q (.bl b) H
theorem call_isX {X : Cx} {a C : Addr} {oe : Obj} {cls : Value} {d : Option Addr} {pn : List (Addr × Obj)} {t : String} {b : Bool} (T : ExcC X.K C) (e : PySem.W.kitOne X.K (.ref C) (.type t) = some b) (hz : Zc cls d oe) (hf : ∃ vs, oe.data = .fields vs) : CallR (X.suite a ((a, oe) :: pn)) (.builtin "isinstance") (rIsX a cls d C t b) := by
  intro pins s σ H xs us Q I r h
  obtain ⟨rfl, ec, ⟨dd, fs, ed, ea⟩, q⟩ := h
  subst ec
  subst ed
  cases r with
  | cons rx rr =>
    cases rr with
    | cons rt rr =>
      cases rr
      cases rx
      cases rt
      obtain ⟨ha, _⟩ := I.pin (a, oe) (List.mem_append_left _ List.mem_cons_self)
      obtain ⟨vs, hd⟩ := hf
      have hx : ObjOk X.prog X.w H s.heap dd (.xd fs) := I.hok dd _ ea
      obtain ⟨mA, hns, hr⟩ := hx
      obtain ⟨od, ho, hl⟩ := lookIn_ns hns
      have J : PySem.W.InstAt s.heap a oe C (some od) := ⟨ha, hz.1, by unfold PySem.W.notCls; rw [hd] <;> rfl, by rw [hz.2]; exact ho⟩
      have hcl : (PySem.W.clsIn X.K C).isSome = true := by
        obtain ⟨cd, hc, _⟩ := PySem.W.any_some T.hd
        rw [hc] <;> rfl
      exact PySem.W.kia_one (PySem.W.kitx_exc hcl T.hg T.hk T.hs T.ha T.hn T.ht T.hm) I.kIn J e (fun z => nomatch z) fun tk => ⟨.bl b, H, I.kept (t' := tk) fun _ _ z => z, rfl, q⟩
/-- a tuple of texts in the written part -/
def strV : Value → Option Str
  | .str z _ => some z
  | _ => none
def strsB (K : PySem.W.Frag) (a : Addr) (zs : List Str) : Bool := match K.lookup a with
  | some ⟨.type "tuple", _, .seq its _, _⟩ => decide (its.size ≤ 1000) && decide (its.toList.map strV = zs.map some)
  | _ => false
def refV : Value → Option Addr
  | .ref a => some a
  | _ => none
def tupsB (K : PySem.W.Frag) (a : Addr) (zs : List (List Str)) : Bool := match K.lookup a with
  | some ⟨.type "tuple", _, .seq its _, _⟩ => decide (its.size ≤ 1000) && decide (its.size = zs.length) && (its.toList.zip zs).all fun p => match refV p.1 with
    | some b => strsB K b p.2
    | none => false
  | _ => false
theorem vals_strs : ∀ {us : List Value} {zs : List Str}, us.map strV = zs.map some → Vals (zs.map V.str) us
  | [], [], _ => .nil
  | [], _ :: _, h => by cases h
  | _ :: _, [], h => by cases h
  | u :: us, z :: zs, h => by
    rw [List.map_cons, List.map_cons] at h
    obtain ⟨h1, h2⟩ := List.cons.inj h
    refine .cons ?_ (vals_strs h2)
    cases u with
    | str y t =>
      cases h1
      exact ⟨t, rfl⟩
    | _ => cases h1
theorem strsB_ok {K : PySem.W.Frag} {a : Addr} {zs : List Str} (h : strsB K a zs = true) (H : Hp) : SqT K H a (zs.map V.str) := by
  unfold strsB at h
  split at h
  · rename_i its n sl e
    have h' := Bool.and_eq_true_iff.mp h
    exact .inr ⟨_, its, n, e, rfl, rfl, Nat.le_trans (of_decide_eq_true h'.1) (by decide), vals_strs (of_decide_eq_true h'.2)⟩
  · cases h
theorem tups_refs {K : PySem.W.Frag} : ∀ {us : List Value} {zs : List (List Str)}, us.length = zs.length → ((us.zip zs).all fun p => match refV p.1 with
    | some b => strsB K b p.2
    | none => false) = true → ∃ as : List Addr, Vals (as.map V.ref) us ∧ as.length = zs.length ∧ ∀ (i : Nat) (a : Addr) (z : List Str), as[i]? = some a → zs[i]? = some z → strsB K a z = true
  | [], [], _, _ => ⟨[], .nil, rfl, fun i a z h => by cases h⟩
  | [], _ :: _, h, _ => by cases h
  | _ :: _, [], h, _ => by cases h
  | u :: us, z :: zs, hl, h => by
    rw [List.zip_cons_cons, List.all_cons] at h
    obtain ⟨h1, h2⟩ := Bool.and_eq_true_iff.mp h
    obtain ⟨as, g1, g2, g3⟩ := tups_refs (Nat.succ.inj hl) h2
    cases u with
    | ref a =>
      refine ⟨a :: as, .cons rfl g1, by rw [List.length_cons, List.length_cons, g2], fun i b y e1 e2 => ?_⟩
      cases i with
      | zero =>
        cases e1
        cases e2
        exact h1
      | succ i => exact g3 i b y e1 e2
    | _ => cases h1
/-- a tuple of tuples of texts -/
def TupsC (K : PySem.W.Frag) (a : Addr) (zs : List (List Str)) : Prop := ∃ as : List Addr, as.length = zs.length ∧ (∀ H, SqT K H a (as.map V.ref)) ∧ ∀ (i : Nat) (b : Addr) (z : List Str), as[i]? = some b → zs[i]? = some z → ∀ H, SqT K H b (z.map V.str)
theorem tupsB_ok {K : PySem.W.Frag} {a : Addr} {zs : List (List Str)} (h : tupsB K a zs = true) : TupsC K a zs := by
  unfold tupsB at h
  split at h
  · rename_i its n sl e
    obtain ⟨h', h3⟩ := Bool.and_eq_true_iff.mp h
    obtain ⟨h1, h2⟩ := Bool.and_eq_true_iff.mp h'
    obtain ⟨as, g1, g2, g3⟩ := tups_refs (us := its.toList) (by rw [Array.length_toList]; exact of_decide_eq_true h2) h3
    exact ⟨as, g2, fun H => .inr ⟨_, its, n, e, rfl, rfl, Nat.le_trans (of_decide_eq_true h1) (by decide), g1⟩, fun i b z e1 e2 H => strsB_ok (g3 i b z e1 e2) H⟩
  · cases h
/-- one more fact of the head: an exception's class; one whose fields are read; a sub-question of two classes -/
inductive Fx where
  | tups (x : Str) (zs : List (List Str))
  | strs (x : Str) (zs : List Str)
  | dvals (x : Str) (kvs : List (Str × He.Dv))
  | exc (x : Str)
  | ini (x : Str)
  | xf (x : Str)
  | sub (x y : Str) (b : Bool)
  | isC (x : Str)
  | isx (x : Str) (t : String) (b : Bool)
def Fx.ok (K : PySem.W.Frag) : Fx → Bool
  | .tups x zs => tupsB K (He.ga K x) zs
  | .strs x zs => strsB K (He.ga K x) zs
  | .dvals x kvs => He.valsB K (He.ga K x) kvs
  | .exc x => excB K x
  | .ini x => iniB K x
  | .xf x => xfB K (He.ga K x)
  | .sub x y b => decide (PySem.W.exmOne K (.ref (He.ga K x)) (.ref (He.ga K y)) = some b)
  | .isC x => PySem.W.isClsIn K (He.ga K x)
  | .isx x t b => excCB K (He.ga K x) && decide (PySem.W.kitOne K (.ref (He.ga K x)) (.type t) = some b)

/-! ### the head's Hook -/
abbrev Seen : Type := He.AlD × Bool
def seen (fa : List He.Fa) (fn : List He.DefD) (fx : List Fx) (K : PySem.W.Frag) : Seen := (He.obsD fa fn K, fx.all fun f => f.ok K)
def told (fn : List He.DefD) : Seen := (He.valD fn, true)
def lookAt (n : Nat) (fa : List He.Fa) (fn : List He.DefD) (fx : List Fx) (g : Addr → Option Obj) : Seen := seen fa fn fx (He.frG g (He.asD g n))
def hook (n : Nat) (fa : List He.Fa) (fn : List He.DefD) (fx : List Fx) : PySem.W.Hook where
  α := Seen
  obs := fun s => lookAt n fa fn fx s.heap.get?
  val := fun _ => told fn
  says := fun _ h => ∃ K : PySem.W.Frag, K.In h ∧ seen fa fn fx K = told fn
  of := fun _ _ e => ⟨_, He.frG_in, e⟩
  keeps := fun _ _ _ ⟨K, hK, c⟩ k => ⟨K, PySem.W.Frag.In.keeps hK k, c⟩
theorem look_eq {n : Nat} {fa : List He.Fa} {fn : List He.DefD} {fx : List Fx} {g : Addr → Option Obj} {s : Shared} (h : ∀ a, g a = s.heap.get? a) : lookAt n fa fn fx g = (hook n fa fn fx).obs s := by
  have e : g = s.heap.get? := funext h
  subst e
  rfl
/-- what the walk leans on, by places in the lists -/
structure Txt (fa : List He.Fa) (fn : List He.DefD) (fx : List Fx) (K : PySem.W.Frag) (mg : Str → Option Value) : Prop where
  f : ∀ (i : Nat) (f : He.Fa), fa[i]? = some f → f.ok K = true
  d : ∀ (i : Nat) (d : He.DefD), fn[i]? = some d → ∃ fd, FunD K d.name d.qual d.params d.body d.scope (d.dvs K) (d.kws K) (He.fAd K d.at_) fd
  x : ∀ (i : Nat) (f : Fx), fx[i]? = some f → f.ok K = true
  gl : ∀ (i : Nat) (x : Str), fa[i]? = some (.glo x) → mg x = some (.ref (He.ga K x))
  no : ∀ (i : Nat) (x : Str), fa[i]? = some (.free x) → mg x = none
  int : ∀ (i : Nat) (x : Str) (n : Int), fa[i]? = some (.int x n) → ∃ t, mg x = some (.int n t)
  str : ∀ (i : Nat) (x z : Str), fa[i]? = some (.str x z) → ∃ t, mg x = some (.str z t)
theorem txt_of {fa : List He.Fa} {fn : List He.DefD} {fx : List Fx} {K : PySem.W.Frag} {mg : Str → Option Value} {h : Heap} (X : K.In h) (G : h.Ns mainGlobals mg) (c : seen fa fn fx K = told fn) : Txt fa fn fx K mg := by
  have c1 : He.SaysD fa fn K := congrArg (fun z : Seen => z.1) c
  have c2 : (fx.all fun f => f.ok K) = true := congrArg (fun z : Seen => z.2) c
  exact ⟨fun i f e => c1.fact i e, fun i d e => c1.def_ i e, fun i f e => List.all_eq_true.mp c2 f (List.mem_of_getElem? e), fun i x e => He.glo_ok X G (c1.fact i e), fun i x e => He.free_ok X G (c1.fact i e),
    fun i x n e => He.int_ok X G (c1.fact i e), fun i x z e => He.str_ok X G (c1.fact i e)⟩

/-! ### defs -/
/-- a def that lets nothing out -/
theorem def0 {P : Program} {w : World} {K : PySem.W.Frag} {mg : Str → Option Value} {base : Heap} {x qual : Str} {params : Arguments} {body : List Stmt} {scope : Scope} {dvs : List V} {kws : List (Str × V)} {f : Addr} {fd : FuncData} {N ps : List Str} {k : Nat} {sp : Sp}
    (F : FunD K x qual params body scope dvs kws f fd) (S : FnScope N ps scope) (len : ∀ vs H Q E, sp vs H Q E → vs.length = ps.length)
    (hb : ∀ (cdv : Value) (A : Around) (outer : List Env) (s : Shared) (H : Hp) (vs : List V) (Q : VK) (E : XK), Room k (A.deeper (envOfC qual scope s.heap.objs.size f cdv)) → sp vs H Q E →
      ∃ t, PSs (cxOf CX0 P w K mg base N qual scope f cdv A outer s H E).nox body t ∧ t { nx := fun _ H' => Q .non H', rt := Q } (start N vs) H) : FnOk P w K mg base CX0 (k + 1) f fd ps sp :=
  F.ok S len fun cdv A outer s H vs Q E hr h => by
    obtain ⟨t, ht, q⟩ := hb cdv A outer s H vs Q E hr h
    exact ⟨t, PSs.nox ht, q⟩
/-- a def that may let out errors -/
theorem defX {P : Program} {w : World} {K : PySem.W.Frag} {mg : Str → Option Value} {base : Heap} {x qual : Str} {params : Arguments} {body : List Stmt} {scope : Scope} {dvs : List V} {kws : List (Str × V)} {f : Addr} {fd : FuncData} {N ps : List Str} {k : Nat} {sp : Sp}
    (F : FunD K x qual params body scope dvs kws f fd) (S : FnScope N ps scope) (len : ∀ vs H Q E, sp vs H Q E → vs.length = ps.length)
    (hb : ∀ (cdv : Value) (A : Around) (outer : List Env) (s : Shared) (H : Hp) (vs : List V) (Q : VK) (E : XK), Room k (A.deeper (envOfC qual scope s.heap.objs.size f cdv)) → sp vs H Q E →
      ∃ t, PSs (cxOf (L2.CX P w) P w K mg base N qual scope f cdv A outer s H E) body t ∧ t { nx := fun _ H' => Q .non H', rt := Q } (start N vs) H) : FnOk P w K mg base (L2.CX P w) (k + 1) f fd ps sp :=
  F.ok S len hb
/-- a def as callers want it: dvs the defaults that fill up -/
def Can (P : Program) (w : World) (K : PySem.W.Frag) (mg : Str → Option Value) (base : Heap) (CX : CXT) (k : Nat) (f : Addr) (ps : List Str) (dvs : List V) (sp : Sp) : Prop := ∃ fd, FnOk P w K mg base CX k f fd ps sp ∧ ∃ ds, Vals dvs ds ∧ Binds K fd ps ds

/-! ### the law's end -/
theorem ends {l : PySem.W.OpenLaw} {n k : Nat} {q : Program} {loose : List Str} {XP : (Str → Option Value) → Heap → Prop} {YP : World → Heap → Prop} {d : DefRec} {CX : World → CXT} {x : Str}
    (hn : l.most = some n) (hn2 : n ≤ sizeLine) (hdf : d.params.defaults = []) (hr : Room k callerA)
    (F : ∀ (w : World) (mg : Str → Option Value) (fa : Addr) (h : Heap), YP w h → h.Ns mainGlobals mg → mg d.name = some (.ref fa) →
      ∃ (K : PySem.W.Frag) (fd : FuncData) (sp : Sp), K.In h ∧ (∀ (s : Shared) (u : Value), BindsTo s fd ⟨[u], []⟩ [(x, u)]) ∧
        (∀ (H : Hp) (a : Addr) (ns : List Int), ns.length ≤ n → (∀ z ∈ ns, Builtin.Int.intBits z ≤ 1048576) → Only H → SqL K H a (ns.map V.int) → sp [.ref a] H (fun v _ => v = .bl true) fun _ _ _ => False) ∧
        ∀ base : Heap, K.In base → base.Ns mainGlobals mg → FnOk l.prog w K mg base (CX w) k fa fd [x] sp)
    (hCX : ∀ (w : World) (H : Hp) (s : Shared) (e : Value) (s' : Shared), CX w [] H s (fun _ _ _ => False) e s' → False) :
    PySem.W.WalkO q loose XP YP l.row.toRowW d [] (fun f vs => PySem.call f vs) := by
  refine Att.attach_callB hn hdf fun w s₀ s₁ mg mb fa o pm cd doc a vs ns G Y ho hd hcd hmg hobj hints hlen hbits hg => ?_
  obtain ⟨K, fd, sp, KX, hb, hsp, hF⟩ := F w mg fa _ Y G.T.g hmg
  exact law_call KX G.T.g G.T.b G.T.builtins G.T.nolimit hg hobj hints (Nat.le_trans hlen hn2) hr hF hb (fun H hO hS => hsp H a ns hlen hbits hO hS) fun H e s' => hCX w H s₁ e s'
theorem no_leak {P : Program} {w : World} {H : Hp} {s : Shared} {e : Value} {s' : Shared} (h : L2.CX P w [] H s (fun _ _ _ => False) e s') : False := by
  obtain ⟨_, _, _, _, _, _, _, _, _, _, _, _, z⟩ := h
  exact z.elim

/-! ### heaps: all but some places stay -/
/-- what H tracks but at the places of S stays -/
def Kp (S : List Addr) (H H' : Hp) : Prop := ∀ a o, a ∉ S → H a = some o → H' a = some o
theorem Kp.refl {S : List Addr} {H : Hp} : Kp S H H := fun _ _ _ e => e
theorem Kp.trans {S : List Addr} {H H1 H2 : Hp} (a : Kp S H H1) (b : Kp S H1 H2) : Kp S H H2 := fun x o n e => b x o n (a x o n e)
theorem Kp.new {S : List Addr} {H : Hp} {p : Addr} {o : HO} (h : H p = none) : Kp S H (upd H p o) := fun a u _ e => by
  rw [upd_ne (ne_of_none e h)]
  exact e
theorem Kp.put {S : List Addr} {H : Hp} {p : Addr} {o : HO} (h : p ∈ S) : Kp S H (upd H p o) := fun a u n e => by
  rw [upd_ne (fun z => n (by rw [z]; exact h))]
  exact e
/-- an object that H does not know may change -/
theorem Kp.mut {S : List Addr} {H H' : Hp} {p : Addr} {o : HO} (e : Kp S H H') (h : H p = none) : Kp S H (upd H' p o) := fun a u n ha => by
  rw [upd_ne (ne_of_none ha h)]
  exact e a u n ha
theorem Kp.mono {S S' : List Addr} {H H' : Hp} (e : Kp S H H') (h : ∀ a ∈ S, a ∈ S') : Kp S' H H' := fun a o n ha => e a o (fun z => n (h a z)) ha
theorem Kp.ex {H H' : Hp} (e : Kp [] H H') : Evl.Ex H H' := fun a o h => e a o (by simp) h
theorem Kp.of {S : List Addr} {H H' : Hp} (e : Evl.Ex H H') : Kp S H H' := fun a o _ h => e a o h
theorem Kp.of' {S : List Addr} {H H' : Hp} (e : Same H H') : Kp S H H' := fun a o _ h => e a o h
theorem Kp.fresh {H H' : Hp} {p : Addr} (e : Kp [] H H') (h : H' p = none) : H p = none := Evl.fresh_back e.ex h
/-- fresh behind, fresh ahead, where the places of S are known -/
theorem Kp.back {S : List Addr} {H H' : Hp} {p : Addr} (e : Kp S H H') (hs : ∀ a ∈ S, H' a ≠ none) (h : H' p = none) : H p = none := by
  cases q : H p with
  | none => rfl
  | some o =>
    by_cases hp : p ∈ S
    · exact absurd h (hs p hp)
    · rw [e p o hp q] at h
      cases h
theorem Kp.up {H : Hp} {p : Addr} {o : HO} : Kp [p] H (upd H p o) := fun a u n e => by
  rw [upd_ne (fun z => n (by rw [z]; exact List.mem_singleton.mpr rfl))]
  exact e
theorem Kp.at {S : List Addr} {H H' : Hp} {a : Addr} {o : HO} (e : Kp S H H') (ha : H a = some o) (n : a ∉ S := by simp) : H' a = some o := e a o n ha

theorem Kp.sqL {K : PySem.W.Frag} {H H' : Hp} {p l C dx : Addr} {fs : List (Str × V)} {xs : List V} (e : Kp [p] H H') (hp : H p = some (.ins C dx fs)) (h : SqL K H l xs) : SqL K H' l xs := by
  rcases h with (h | ⟨o, h⟩) | h
  · exact .inl (.inl (e.at h fun z => by rw [List.mem_singleton.mp z, hp] at h; cases h))
  · exact .inl (.inr ⟨o, e.at h fun z => by rw [List.mem_singleton.mp z, hp] at h; cases h⟩)
  · exact .inr h

/-! ### own exceptions made -/
theorem exo_end {H : Hp} {a d : Addr} {o1 o2 o3 u : HO} (hn : H a = none) (hd : d ≠ a) : upd (L2.del (upd (upd (upd H a o1) d o2) a o3) a) d u = upd H d u := by
  funext b
  by_cases h1 : b = d
  · subst h1
    rw [upd_same, upd_same]
  · rw [upd_ne h1, upd_ne h1]
    by_cases h2 : b = a
    · subst h2
      rw [del_same, hn]
    · rw [del_ne h2, upd_ne h2, upd_ne h1, upd_ne h2]
theorem exo_end2 {H : Hp} {a d : Addr} {o1 o2 o3 o4 u : HO} (hn : H a = none) (hd : d ≠ a) : upd (L2.del (upd (upd (upd (upd H a o1) d o2) a o3) d o4) a) d u = upd H d u := by
  funext b
  by_cases h1 : b = d
  · subst h1
    rw [upd_same, upd_same]
  · rw [upd_ne h1, upd_ne h1]
    by_cases h2 : b = a
    · subst h2
      rw [del_same, hn]
    · rw [del_ne h2, upd_ne h1, upd_ne h2, upd_ne h1, upd_ne h2]
/-- the __init__ of an own exception with one field -/
def spX1 (K : PySem.W.Frag) (C : Addr) (f : Str) : Sp := fun vs H Q _ => ∃ (a : Addr) (y : V), vs = [.ref a, y] ∧ OexC K C ∧ PySem.W.findIn K (.ref C) f = some none ∧ H a = some (exo a C none) ∧
  ∀ dx, H dx = none → dx ≠ a → Q .non (upd (upd H dx (exd dx [(f, y)])) a (exo a C (some dx)))
/-- .. with two fields -/
def spX2 (K : PySem.W.Frag) (C : Addr) (f g : Str) : Sp := fun vs H Q _ => ∃ (a : Addr) (y z : V), vs = [.ref a, y, z] ∧ OexC K C ∧ PySem.W.findIn K (.ref C) f = some none ∧ PySem.W.findIn K (.ref C) g = some none ∧ H a = some (exo a C none) ∧
  ∀ dx, H dx = none → dx ≠ a → Q .non (upd (upd (upd H dx (exd dx [(f, y)])) a (exo a C (some dx))) dx (exd dx [(g, z), (f, y)]))
/-- C(e) is made, to be raised -/
theorem made1 {K : PySem.W.Frag} {C : Addr} {f : Str} {y : V} {H : Hp} {Q : XK} (T : OexC K C) (hno : PySem.W.findIn K (.ref C) f = some none) (h : ∀ d, H d = none → Q (.ref C) (some d) (upd H d (.xd [(f, y)]))) :
    [y].length ≤ 1000 ∧ ∀ a, H a = none → spX1 K C f (.ref a :: ([y] ++ [])) (upd H a (exo a C none)) (fun v H2 => v = .non ∧ ∃ (d : Addr) (fs : List (Str × V)), H2 a = some (exo a C (some d)) ∧ H2 d = some (exd d fs) ∧ H d = none ∧ Q (.ref C) (some d) (upd (L2.del H2 a) d (.xd fs))) (fun _ _ _ => False) := by
  refine ⟨by show 1 ≤ 1000; decide, fun a hn => ⟨a, y, rfl, T, hno, upd_same, fun dx hd ne => ⟨rfl, dx, _, upd_same, by rw [upd_ne ne, upd_same], ?_, ?_⟩⟩⟩
  · rw [upd_ne ne] at hd
    exact hd
  · rw [exo_end hn ne]
    rw [upd_ne ne] at hd
    exact h dx hd
theorem made2 {K : PySem.W.Frag} {C : Addr} {f g : Str} {y z : V} {H : Hp} {Q : XK} (T : OexC K C) (hf : PySem.W.findIn K (.ref C) f = some none) (hg : PySem.W.findIn K (.ref C) g = some none) (h : ∀ d, H d = none → Q (.ref C) (some d) (upd H d (.xd [(g, z), (f, y)]))) :
    [y, z].length ≤ 1000 ∧ ∀ a, H a = none → spX2 K C f g (.ref a :: ([y, z] ++ [])) (upd H a (exo a C none)) (fun v H2 => v = .non ∧ ∃ (d : Addr) (fs : List (Str × V)), H2 a = some (exo a C (some d)) ∧ H2 d = some (exd d fs) ∧ H d = none ∧ Q (.ref C) (some d) (upd (L2.del H2 a) d (.xd fs))) (fun _ _ _ => False) := by
  refine ⟨by show 2 ≤ 1000; decide, fun a hn => ⟨a, y, z, rfl, T, hf, hg, upd_same, fun dx hd ne => ⟨rfl, dx, _, by rw [upd_ne (Ne.symm ne), upd_same], upd_same, ?_, ?_⟩⟩⟩
  · rw [upd_ne ne] at hd
    exact hd
  · rw [exo_end2 hn ne]
    rw [upd_ne ne] at hd
    exact h dx hd

/-! ### fields -/
theorem putF_app : ∀ {fs : List (Str × V)} {f : Str} {v : V} {ks : List Str}, fs.map (·.1) = ks → ks.all (fun k => !decide (k = f)) = true → putF f v fs = fs ++ [(f, v)]
  | [], f, v, ks, _, _ => rfl
  | (g, x) :: r, f, v, ks, e, h => by
    subst e
    rw [List.map_cons, List.all_cons] at h
    obtain ⟨h1, h2⟩ := Bool.and_eq_true_iff.mp h
    have ne : ¬ g = f := fun z => by
      have h3 : (!decide (g = f)) = true := h1
      rw [decide_eq_true z] at h3
      cases h3
    show (if g = f then (g, v) :: r else (g, x) :: putF f v r) = (g, x) :: (r ++ [(f, v)])
    rw [if_neg ne, putF_app rfl h2]
theorem fld_at : ∀ {fs : List (Str × V)} {f : Str} {v : V} {ks : List Str} (i : Nat), fs.map (·.1) = ks → fs[i]? = some (f, v) → (ks.take i).all (fun k => !decide (k = f)) = true → fs.lookup f = some v
  | [], f, v, ks, i, _, e, _ => by cases i <;> cases e
  | (g, x) :: r, f, v, ks, 0, _, e, _ => by
    have e1 : (g, x) = (f, v) := Option.some.inj e
    cases e1
    show (match g == g with | true => some x | false => r.lookup g) = some x
    rw [beq_self_eq_true]
  | (g, x) :: r, f, v, ks, i + 1, hk, e, h => by
    subst hk
    rw [List.map_cons, List.take_succ_cons, List.all_cons] at h
    obtain ⟨h1, h2⟩ := Bool.and_eq_true_iff.mp h
    have ne : ¬ f = g := fun z => by
      have h3 : (!decide (g = f)) = true := h1
      rw [decide_eq_true z.symm] at h3
      cases h3
    show (match f == g with | true => some x | false => r.lookup f) = some v
    rw [beq_eq_false_iff_ne.mpr ne]
    exact fld_at i rfl e h2
theorem fld_no : ∀ {fs : List (Str × V)} {f : Str} {ks : List Str}, fs.map (·.1) = ks → ks.all (fun k => !decide (k = f)) = true → fs.lookup f = none
  | [], f, ks, _, _ => rfl
  | (g, x) :: r, f, ks, e, h => by
    subst e
    rw [List.map_cons, List.all_cons] at h
    obtain ⟨h1, h2⟩ := Bool.and_eq_true_iff.mp h
    have ne : ¬ f = g := fun z => by
      have h3 : (!decide (g = f)) = true := h1
      rw [decide_eq_true z.symm] at h3
      cases h3
    show (match f == g with | true => some x | false => r.lookup f) = none
    rw [beq_eq_false_iff_ne.mpr ne]
    exact fld_no rfl h2

/-! ### the rules by the written part's own name -/
def rLn (K : PySem.W.Frag) : List V → Hp → VK → Prop := fun xs H Q => ∃ p ys, xs = [.ref p] ∧ (SqL K H p ys ∨ SqT K H p ys) ∧ Q (.int ys.length) H
def rLs (K : PySem.W.Frag) : List V → Hp → VK → Prop := fun xs H Q => ∃ p ys, xs = [.ref p] ∧ (SqL K H p ys ∨ SqT K H p ys) ∧ ∀ l, H l = none → Q (.ref l) (upd H l (.lst ys))
def tTr (K : PySem.W.Frag) (ta : TE) : TT := fun σ H Q => ta σ H fun x H' => ∃ k, TruV K x H' k ∧ Q k H'
section
variable {X : Cx} (K : PySem.W.Frag)
theorem ixL (h : X.K = K) : IxR X (rIxL K) := h ▸ ix_list
theorem ixT (h : X.K = K) : IxR X (rIxT K) := h ▸ ix_tup
theorem ixS (h : X.K = K) : IxR X (rIx K) := h ▸ ix_seq
theorem slL (h : X.K = K) : SlR X (rSlL K) := h ▸ sl_list
theorem slT (h : X.K = K) : SlR X (rSlT K) := h ▸ sl_tup
theorem cLen (h : X.K = K) : CallR X (.builtin "len") (rLn K) := h ▸ call_len_seq
theorem cList (h : X.K = K) : CallR X (.type "list") (rLs K) := h ▸ call_list_of
theorem cSum (h : X.K = K) (hc : X.calm = true) : CallR X (.builtin "sum") (rSum K) := h ▸ cr_sum hc
theorem cMax (h : X.K = K) (hc : X.calm = true) : CallR X (.builtin "max") (rMax K) := h ▸ cr_max hc
theorem cMin (h : X.K = K) (hc : X.calm = true) : CallR X (.builtin "min") (rMin K) := h ▸ cr_min hc
theorem cAny (h : X.K = K) (hc : X.calm = true) : CallR X (.builtin "any") (rAny K) := h ▸ cr_any hc
theorem cAll (h : X.K = K) (hc : X.calm = true) : CallR X (.builtin "all") (rAll K) := h ▸ cr_all hc
theorem cIsi (h : X.K = K) : CallR X (.builtin "isinstance") (rIsi K) := h ▸ call_isi
theorem cSorted (h : X.K = K) : CallR X (.builtin "sorted") (rSortedI K) := h ▸ cr_sortedI
theorem oIn (h : X.K = K) : OpR X (compareOp .In) (rIn K false) := h ▸ op_in_seq
theorem oNotIn (h : X.K = K) : OpR X (compareOp .NotIn) (rIn K true) := h ▸ op_notIn_seq
theorem oEqD (h : X.K = K) (hu : X.A.units + 64 < cLine) : OpR X (compareOp .Eq) (rEqD K) := h ▸ op_eqD hu
theorem oNeD (h : X.K = K) (hu : X.A.units + 64 < cLine) : OpR X (compareOp .NotEq) (rNeD K) := h ▸ op_neD hu
theorem eFld (h : X.K = K) {e : Expr} {f : Str} {pos : Pos} {ta : TE} (he : PE X e ta) (hb : attributeBase e f X.env (eval e X.env) = eval e X.env := by rfl) : PE X (.Attribute e f pos) (tFld K ta f) := h ▸ pe_fld he hb
theorem tTruth (h : X.K = K) {a : Expr} {ta : TE} (ha : PE X a ta) (he : ∀ whole, isTrue a X.env whole = (do let v ← whole; standAt a.pos; holding [v] (truthy v)) := by intro _; rfl) : PT X a (tTr K ta) := h ▸ pt_truth ha he
theorem iLst (h : X.K = K) {tg l : Expr} {tl : TE} (hl : PE X l tl) : PI X tg l (iList K tl) := h ▸ pi_list hl
theorem iTpl (h : X.K = K) {tg l : Expr} {tl : TE} (hl : PE X l tl) : PI X tg l (iTup K tl) := h ▸ pi_tup hl
theorem iEnu (h : X.K = K) {e : Expr} {ta : TA} {p pos tpos : Pos} {elts : List Expr} {kk : Nat} (hg : Gl X "enumerate") (hm : X.mg "enumerate" = none) (ha : PA X [e] ta) (hs : starEach [e] X.env = [(false, eval e X.env)] := by rfl) :
    PI X (.Tuple elts kk tpos) (.Call (.Name "enumerate" p) [e] [] pos) (iEnum K ta) := h ▸ pi_enum hg hm ha hs
theorem iRvs (h : X.K = K) {tg e : Expr} {ta : TA} {p pos : Pos} (hg : Gl X "reversed") (hm : X.mg "reversed" = none) (ha : PA X [e] ta) (hs : starEach [e] X.env = [(false, eval e X.env)] := by rfl) :
    PI X tg (.Call (.Name "reversed" p) [e] [] pos) (iRev K ta) := h ▸ pi_reversed hg hm ha hs
theorem iZp (h : X.K = K) {e e2 : Expr} {ta : TA} {p pos tpos : Pos} {elts : List Expr} {kk : Nat} (hg : Gl X "zip") (hm : X.mg "zip" = none) (ha : PA X [e, e2] ta)
    (hs : starEach [e, e2] X.env = (false, eval e X.env) :: starEach [e2] X.env := by rfl) (hpl : (backTo pos (starEach [e2] X.env)).any (·.1) = false := by rfl) : PI X (.Tuple elts kk tpos) (.Call (.Name "zip" p) [e, e2] [] pos) (iZip K ta) := h ▸ pi_zip hg hm ha hs hpl
theorem sFd (h : X.K = K) {o value : Expr} {f : Str} {pos pos' : Pos} {ta tv : TE} (ha : PE X o ta) (hv : PE X value tv) (hs : swapsWith value (some (.Attribute o f pos')) pos.line X.env = pure false) : PS X (.Assign [.Attribute o f pos'] value pos) (sFld K ta tv f) := h ▸ ps_fld ha hv hs
theorem sFdAug (h : X.K = K) {o value : Expr} {f : Str} {pos tpos : Pos} {ta tv : TE} {op : Operator} {rd : V → V → Hp → VK → Prop} (hop : InOp X op rd) (ha : PE X o ta) (hv : PE X value tv) : PS X (.AugAssign (.Attribute o f tpos) op value pos) (sFldAug K ta tv rd f) := h ▸ ps_fldaug ha hv hop
theorem eBm (h : X.K = K) {T id : String} {name : Str} {o e : Expr} {es : List Expr} {to : TE} {t : TA} {r : V → List V → Hp → VK → Prop} {apos cpos : Pos} (pa : PlainAttrs T) (slot : Slot T name id) (hty : typeOf (.builtin id) = pure (.type "method_descriptor")) (hm : MtR X id r) (ho : PE X o to) (ha : PA X (e :: es) t)
    (hbase : attributeBase o name X.env (eval o X.env) = eval o X.env := by rfl)
    (hfew : ((backTo cpos (starEach (e :: es) X.env)).all (fun x => !x.1) && (backToKw cpos (keywordEach [] X.env)).all (fun x => x.1.isSome) && decide ((e :: es).length + ([] : List Keyword).length + (if ([] : List Keyword).isEmpty then 0 else 1) < 30)) = true := by rfl)
    (hline : (apos.endLine == cpos.line) = true := by rfl) (hs : starEach (e :: es) X.env = (false, eval e X.env) :: starEach es X.env := by rfl) (hplain : (backTo cpos (starEach es X.env)).any (·.1) = false := by rfl) :
    PE X (.Call (.Attribute o name apos) (e :: es) [] cpos) (tBM K T r to t) := h ▸ pe_bm pa slot hty hm ho ha hbase hfew hline hs hplain
theorem eBm0 (h : X.K = K) {T id : String} {name : Str} {o : Expr} {to : TE} {r : V → List V → Hp → VK → Prop} {apos cpos : Pos} (pa : PlainAttrs T) (slot : Slot T name id) (hty : typeOf (.builtin id) = pure (.type "method_descriptor")) (hm : MtR X id r) (ho : PE X o to)
    (hbase : attributeBase o name X.env (eval o X.env) = eval o X.env := by rfl) (hline : (apos.endLine == cpos.line) = true := by rfl) : PE X (.Call (.Attribute o name apos) [] [] cpos) (tBM0 K T r to) := h ▸ pe_bm0 pa slot hty hm ho hbase hline
end

/-! ### readings that leave the heap as it is -/
def ValA (ta : TA) (σ : L2.St) (H : Hp) (vs : List V) : Prop := ∀ Q : List V → Hp → Prop, Q vs H → ta σ H Q
section
variable {K : PySem.W.Frag} {σ : L2.St} {H : Hp} {ta tb te : TE} {x y v : V} {p : Addr} {xs : List V}
theorem va_nil : ValA tNil σ H [] := fun _ q => q
theorem va_cons {tr : TA} {vs : List V} (h : Val ta σ H x) (hr : ValA tr σ H vs) : ValA (tCons ta tr) σ H (x :: vs) := fun _ q => h _ (hr _ q)
theorem va_one (h : Val ta σ H x) : ValA (tCons ta tNil) σ H [x] := va_cons h va_nil
theorem va_two (h : Val ta σ H x) (h' : Val tb σ H y) : ValA (tCons ta (tCons tb tNil)) σ H [x, y] := va_cons h (va_one h')
theorem val_cb {r : List V → Hp → VK → Prop} {tl : TA} {vs : List V} (h : ValA tl σ H vs) (hr : ∀ Q : VK, Q v H → r vs H Q) : Val (tCB r tl) σ H v := fun Q q => h _ (hr Q q)
theorem val_isi {t n : String} {b : Bool} (h : Val ta σ H x) (ty : TyX K H x (.type t)) (e : kitB t n = some b) : Val (tCB (rIsi K) (tCons ta (tCons (tC (.ty n)) tNil))) σ H (.bl b) :=
  val_cb (va_two h val_c) fun _ q => ⟨x, .ty n, .type t, .type n, b, rfl, .ty n, ty, kit_ty e, q⟩
theorem val_lenL (h : Val ta σ H (.ref p)) (hs : SqL K H p xs) : Val (tCB (rLn K) (tCons ta tNil)) σ H (.int (xs.length : Int)) :=
  val_cb (va_one h) fun _ q => ⟨p, xs, rfl, .inl hs, q⟩
theorem val_lenT (h : Val ta σ H (.ref p)) (hs : SqT K H p xs) : Val (tCB (rLn K) (tCons ta tNil)) σ H (.int (xs.length : Int)) :=
  val_cb (va_one h) fun _ q => ⟨p, xs, rfl, .inr hs, q⟩
theorem val_ixL {i : Int} (h : Val ta σ H (.ref p)) (hi : Val tb σ H (.int i)) (hs : SqL K H p xs) (e : atI xs i = some v) : Val (tOp (rIxL K) ta tb) σ H v := val_op h hi fun _ q => ⟨p, xs, i, v, rfl, rfl, hs, e, q⟩
theorem val_ixT {i : Int} (h : Val ta σ H (.ref p)) (hi : Val tb σ H (.int i)) (hs : SqT K H p xs) (e : atI xs i = some v) : Val (tOp (rIxT K) ta tb) σ H v := val_op h hi fun _ q => ⟨p, xs, i, v, rfl, rfl, hs, e, q⟩
theorem val_ixSL {i : Int} (h : Val ta σ H (.ref p)) (hi : Val tb σ H (.int i)) (hs : SqL K H p xs) (e : atI xs i = some v) : Val (tOp (rIx K) ta tb) σ H v := val_op h hi fun _ q => .inl ⟨p, xs, i, v, rfl, rfl, hs, e, q⟩
theorem val_ixST {i : Int} (h : Val ta σ H (.ref p)) (hi : Val tb σ H (.int i)) (hs : SqT K H p xs) (e : atI xs i = some v) : Val (tOp (rIx K) ta tb) σ H v := val_op h hi fun _ q => .inr (.inl ⟨p, xs, i, v, rfl, rfl, hs, e, q⟩)
theorem val_I {g : Int → Int → V} {i j : Int} (h : Val ta σ H (.int i)) (h' : Val tb σ H (.int j)) : Val (tOp (rI0 g) ta tb) σ H (g i j) := val_op h h' fun _ q => ⟨i, j, rfl, rfl, q⟩
theorem val_IC {C : Int → Int → Prop} {g : Int → Int → V} {i j : Int} (h : Val ta σ H (.int i)) (h' : Val tb σ H (.int j)) (c : C i j) : Val (tOp (rI C g) ta tb) σ H (g i j) := val_op h h' fun _ q => ⟨i, j, rfl, rfl, c, q⟩
theorem val_eq (h : Val ta σ H x) (h' : Val tb σ H y) (s : scal x y = true) : Val (tOp rEq ta tb) σ H (.bl (decide (x = y))) := val_op h h' fun _ q => ⟨s, q⟩
theorem val_ne (h : Val ta σ H x) (h' : Val tb σ H y) (s : scal x y = true) : Val (tOp rNe ta tb) σ H (.bl (!decide (x = y))) := val_op h h' fun _ q => ⟨s, q⟩
theorem val_is {w : V} (h : Val ta σ H v) (e : v = w) : Val ta σ H w := e ▸ h
theorem val_and {a b : Bool} (h : Val ta σ H (.bl a)) (h' : a = true → Val tb σ H (.bl b)) : Val (tAndV ta tb) σ H (.bl (a && b)) := fun Q q => h _ ⟨a, rfl, by
  cases a with
  | true => exact iteT (h' rfl Q q)
  | false => exact iteF q⟩
theorem val_or {a b : Bool} (h : Val ta σ H (.bl a)) (h' : a = false → Val tb σ H (.bl b)) : Val (tOrV ta tb) σ H (.bl (a || b)) := fun Q q => h _ ⟨a, rfl, by
  cases a with
  | true => exact iteT q
  | false => exact iteF (h' rfl Q q)⟩
theorem val_not {a : Bool} (h : Val ta σ H (.bl a)) : Val (tNotV ta) σ H (.bl (!a)) := fun Q q => h _ ⟨a, rfl, q⟩
theorem val_if {t : TT} {b : Bool} (h : Ans t σ H b) (h1 : b = true → Val ta σ H v) (h2 : b = false → Val tb σ H v) : Val (tIf t ta tb) σ H v := fun Q q => h _ (by
  cases b with
  | true => exact iteT (h1 rfl Q q)
  | false => exact iteF (h2 rfl Q q))
theorem val_isN (h : Val ta σ H x) : Val (tOp rIsN ta (tC .non)) σ H (.bl (decide (x = .non))) := val_op h val_c fun _ q => ⟨rfl, q⟩
theorem ans_is {t : TT} {a b : Bool} (h : Ans t σ H a) (e : a = b) : Ans t σ H b := e ▸ h
theorem ans_v {b : Bool} (h : Val te σ H (.bl b)) : Ans (tTest te) σ H b := fun _ q => h _ ⟨b, rfl, q⟩
theorem ans_or2 {t u : TT} {a b : Bool} (h : Ans t σ H a) (h' : a = false → Ans u σ H b) : Ans (tOr t u) σ H (a || b) := by
  cases a with
  | true => exact ans_or1 h
  | false => exact ans_or h (h' rfl)
theorem ans_and3 {t u : TT} {a b : Bool} (h : Ans t σ H a) (h' : a = true → Ans u σ H b) : Ans (tAnd t u) σ H (a && b) := by
  cases a with
  | true => exact ans_and h (h' rfl)
  | false => exact ans_and0 h
/-- a call whose promise leaves the heap -/
theorem val_call {sp : Sp} {dvs vs : List V} {E : XK} {tl : TA} (h : ValA tl σ H vs) (hs : ∀ Q : VK, Q v H → sp (vs ++ dvs) H Q E) : Val (tCall sp dvs E tl) σ H v := fun Q q => h _ (hs Q q)
theorem val_ev (h : Val te σ H v) : ∀ Q : VK, Q v H → te σ H Q := h
/-- x in a written pair of ints -/
theorem val_chain {tc : TE} {g g' : Int → Int → Bool} {a b c : Int} (h1 : Val ta σ H (.int a)) (h2 : Val tb σ H (.int b)) (h3 : Val tc σ H (.int c)) : Val (tChain (rI0 fun i j => .bl (g i j)) (rI0 fun i j => .bl (g' i j)) ta tb tc) σ H (.bl (g a b && g' b c)) := fun Q q => by
  refine h1 _ (h2 _ ⟨a, b, rfl, rfl, g a b, rfl, ?_⟩)
  cases e : g a b with
  | true => exact iteT (h3 _ ⟨b, c, rfl, rfl, by rw [e] at q; exact q⟩)
  | false => exact iteF (by rw [e] at q; exact q)
theorem go_asg {D : Ends} {g : TG} (h : te σ H fun x H1 => g x σ H1 D.nx) : tAsg te g D σ H := h
theorem go_ret {D : Ends} (h : te σ H D.rt) : tRet te D σ H := h
theorem go_drop {D : Ends} (h : te σ H fun _ H1 => D.nx σ H1) : tDrop te D σ H := h
/-- raise C(e), C of one field -/
theorem st_raise1 {W : WX} {C : Addr} {f : Str} {y : V} (T : OexC K C) (hno : PySem.W.findIn K (.ref C) f = some none) (h : Val te σ H y) (q : ∀ d, H d = none → W (.ref C) (some d) σ (upd H d (.xd [(f, y)]))) :
    tMkO C (spX1 K C f) [] (tCons te tNil) σ H (fun cls d H' => W cls d σ H') := h _ (made1 (Q := fun cls d H' => W cls d σ H') T hno q)
theorem st_raise2 {W : WX} {C : Addr} {f g : Str} {y z : V} (T : OexC K C) (hf : PySem.W.findIn K (.ref C) f = some none) (hg : PySem.W.findIn K (.ref C) g = some none) (h : Val ta σ H y) (h' : Val tb σ H z) (q : ∀ d, H d = none → W (.ref C) (some d) σ (upd H d (.xd [(g, z), (f, y)]))) :
    tMkO C (spX2 K C f g) [] (tCons ta (tCons tb tNil)) σ H (fun cls d H' => W cls d σ H') := h _ (h' _ (made2 (Q := fun cls d H' => W cls d σ H') T hf hg q))
theorem val_un {r : V → Hp → VK → Prop} {z : V} (h : Val ta σ H x) (hr : ∀ Q : VK, Q z H → r x H Q) : Val (tUn r ta) σ H z := fun Q q => h _ (hr Q q)
theorem val_neg {i : Int} (h : Val ta σ H (.int i)) : Val (tUn (rU fun i => .int (-i)) ta) σ H (.int (-i)) := val_un h fun _ q => ⟨i, rfl, q⟩
theorem st_app {D : Ends} {l : Addr} (hl : H l = some (.lst xs)) (ha : Val ta σ H (.ref l)) (h : Val te σ H v) (hz : xs.length < sizeLine) (k : D.nx σ (upd H l (.lst (xs ++ [v])))) : tDrop (tBM K "list" rAppend ta (tCons te tNil)) D σ H :=
  ha _ ⟨Or.inl ⟨rfl, xs, Evl.sq_of hl⟩, h _ ⟨l, xs, v, rfl, rfl, hl, hz, k⟩⟩
theorem st_if {c : TT} {t u : TS} {D : Ends} {b : Bool} (h : Ans c σ H b) (h1 : b = true → t D σ H) (h2 : b = false → u D σ H) : tIfS c t u D σ H := by
  cases b with
  | true => exact st_yes h (h1 rfl)
  | false => exact st_no h (h2 rfl)
theorem st_forR {D : Ends} {tl : TA} {t : TS} {j n : Nat} (h : ValA tl σ H [.int (n : Int)]) (hn : n < 2 ^ 62) (Pv : Nat → L2.St → Hp → Prop) (h0 : Pv 0 σ H)
    (hs : ∀ i σ' H', i < n → Pv i σ' H' → t { D with nx := Pv (i + 1), ct := Pv (i + 1), bk := D.nx } (σ'.set j (some (.int (i : Int)))) H') (hd : ∀ σ' H', Pv n σ' H' → D.nx σ' H') : tFor (iRng1 tl) (gName j) t D σ H :=
  h _ ⟨(n : Int), rfl, by omega, by omega, for_range (lo := 0) (n := n) Pv h0 (fun i σ' H' hi p => by
    show t _ (σ'.set j (some (.int (0 + (i : Int))))) H'
    rw [Int.zero_add]
    exact hs i σ' H' hi p) hd⟩
theorem st_forL {D : Ends} {tl : TE} {t : TS} {j : Nat} (h : Val tl σ H (.ref p)) (hx : SqL K H p xs) (Pv : Nat → L2.St → Hp → Prop) (h0 : Pv 0 σ H) (hl : ∀ i σ' H', i ≤ xs.length → Pv i σ' H' → SqL K H' p xs)
    (hs : ∀ i x σ' H', xs[i]? = some x → Pv i σ' H' → t { D with nx := Pv (i + 1), ct := Pv (i + 1), bk := D.nx } (σ'.set j (some x)) H') (hd : ∀ σ' H', Pv xs.length σ' H' → D.nx σ' H') : tFor (iList K tl) (gName j) t D σ H :=
  h _ ⟨p, rfl, ⟨xs, hx⟩, for_list Pv h0 hl hs hd⟩
end

/-! ### readings that may make new things -/
section
open Evl
variable {K : PySem.W.Frag} {σ : L2.St} {H : Hp} {ta tb te : TE} {x y v : V} {p : Addr} {xs ys : List V}
theorem ev_val (h : ∀ H1, Ex H H1 → Val te σ H1 v) : Ev te σ H v := fun H1 e Q q => h H1 e Q (q H1 (Ex.refl _))
theorem et_ans {t : TT} {b : Bool} (h : ∀ H1, Ex H H1 → Ans t σ H1 b) : EvT t σ H b := fun H1 e Q q => h H1 e Q (q H1 (Ex.refl _))
theorem ev_meth {C a : Addr} {m : Str} {sp : Sp} {dvs vs : List V} {E : XK} {tl : TA} {dx : Addr} {fs : List (Str × V)} (h : Ev ta σ H (.ref a)) (ho : H a = some (.ins C dx fs)) (hn : fs.lookup m = none) (hv : EvA tl σ H vs)
    (hs : SpV sp (.ref a :: (vs ++ dvs)) H v) : Ev (tMeth C m sp dvs E ta tl) σ H v := fun H1 e Q q => h H1 e _ fun H2 e2 => ⟨a, dx, fs, rfl, e2 _ _ (e _ _ ho), hn, hv H2 (e.trans e2) _ fun H3 e3 => hs H3 ((e.trans e2).trans e3) Q (fun H4 e4 => q H4 ((e2.trans e3).trans e4)) E⟩
theorem el_meth {C a : Addr} {m : Str} {sp : Sp} {dvs vs : List V} {E : XK} {tl : TA} {dx : Addr} {fs : List (Str × V)} (h : Ev ta σ H (.ref a)) (ho : H a = some (.ins C dx fs)) (hn : fs.lookup m = none) (hv : EvA tl σ H vs)
    (hs : SpL sp (.ref a :: (vs ++ dvs)) H xs) : EvL (tMeth C m sp dvs E ta tl) σ H xs := fun H1 e Q q => h H1 e _ fun H2 e2 => ⟨a, dx, fs, rfl, e2 _ _ (e _ _ ho), hn, hv H2 (e.trans e2) _ fun H3 e3 => hs H3 ((e.trans e2).trans e3) Q (fun p H4 hp e4 h4 => q p H4 (fresh_back (e2.trans e3) hp) ((e2.trans e3).trans e4) h4) E⟩
/-- a call one of whose arguments is a new list: the value by what the list holds -/
theorem ev_callL {sp : Sp} {dvs : List V} {E : XK} {tr : TA} {vs : List V} (h : EvL te σ H xs) (hr : EvA tr σ H vs) (hs : ∀ p H1, H1 p = some (.lst xs) → Ex H H1 → SpV sp (.ref p :: (vs ++ dvs)) H1 v) : Ev (tCall sp dvs E (tCons te tr)) σ H v := fun H1 e Q q =>
  h H1 e _ fun p H2 _ e2 h2 => hr H2 (e.trans e2) _ fun H3 e3 => hs p H3 (e3 _ _ h2) ((e.trans e2).trans e3) H3 (Ex.refl _) Q (fun H4 e4 => q H4 ((e2.trans e3).trans e4)) E
/-- a built-in of a new list -/
theorem ev_cbL {r : List V → Hp → VK → Prop} (h : EvL te σ H xs) (hs : ∀ p H1, H1 p = some (.lst xs) → Ex H H1 → RC r [.ref p] H1 v) : Ev (tCB r (tCons te tNil)) σ H v := fun H1 e Q q =>
  h H1 e _ fun p H2 _ e2 h2 => hs p H2 h2 (e.trans e2) H2 (Ex.refl _) Q (fun H3 e3 => q H3 (e2.trans e3))
theorem rc_of {r : List V → Hp → VK → Prop} {vs : List V} (h : ∀ H1, Ex H H1 → ∀ Q : VK, Q v H1 → r vs H1 Q) : RC r vs H v := fun H1 e Q q => h H1 e Q (q H1 (Ex.refl _))
theorem ev_sum {ns : List Int} (h : EvL te σ H (ns.map V.int)) : Ev (tCB (rSum K) (tCons te tNil)) σ H (.int ns.sum) := ev_cbL h fun p H1 h1 _ => rc_of fun H2 e _ q => ⟨p, ns, rfl, ex_l e (sq_of h1), q⟩
theorem ev_sumV {ns : List Int} (h : Ev te σ H (.ref p)) (hs : SqL K H p (ns.map V.int)) : Ev (tCB (rSum K) (tCons te tNil)) σ H (.int ns.sum) := fun H1 e Q q =>
  h H1 e _ fun H2 e2 => ⟨p, ns, rfl, ex_l (e.trans e2) hs, q H2 e2⟩
theorem ev_lenV (h : Ev te σ H (.ref p)) (hs : SqL K H p xs) : Ev (tCB (rLn K) (tCons te tNil)) σ H (.int (xs.length : Int)) := fun H1 e Q q =>
  h H1 e _ fun H2 e2 => ⟨p, xs, rfl, .inl (ex_l (e.trans e2) hs), q H2 e2⟩
theorem ev_fld {C dx a : Addr} {fs : List (Str × V)} {f : Str} (h : Ev ta σ H (.ref a)) (ho : H a = some (.ins C dx fs)) (hc : Cls K C) (hn : NoAttr K C f) (hl : fs.lookup f = some v) : Ev (tFld K ta f) σ H v := fun H1 e Q q =>
  h H1 e _ fun H2 e2 => ⟨a, C, dx, fs, v, rfl, e2 _ _ (e _ _ ho), hc, hn, hl, q H2 e2⟩
/-- xs + ys, both new -/
theorem el_cat (h : EvL ta σ H xs) (h' : EvL tb σ H ys) (hz : xs.length + ys.length ≤ 100000) : EvL (tOp rCat ta tb) σ H (xs ++ ys) := fun H1 e Q q =>
  h H1 e _ fun p H2 _ e2 h2 => h' H2 (e.trans e2) _ fun r H3 _ e3 h3 => ⟨p, r, xs, ys, rfl, rfl, e3 _ _ h2, h3, sz_of hz, fun u hu => q u _ (fresh_back (e2.trans e3) hu) ((e2.trans e3).trans (Ex.new hu)) upd_same⟩
theorem el_lst0 : EvL (tLst tNil) σ H [] := el_lst ea_nil (by decide)
/-- an item of a new list -/
theorem ev_ixN {i : Int} (h : EvL ta σ H xs) (hi : ∀ H1, Ex H H1 → Ev tb σ H1 (.int i)) (e : atI xs i = some v) : Ev (tOp (rIxL K) ta tb) σ H v := ev_opL1 h hi fun p H1 h1 _ => rv_ixL (sq_of h1) e
end

/-! ### slices -/
theorem cut_to {xs : List V} {j : Nat} (h : j ≤ xs.length) : cutV xs none (some (j : Int)) = xs.take j := by
  show (xs.drop (HT.sIx xs.length 0 none)).take (HT.sIx xs.length xs.length (some (j : Int)) - HT.sIx xs.length 0 none) = _
  rw [HT.sIx_none, HT.sIx_nat, Nat.min_eq_left h]
  rfl
theorem cut_from {xs : List V} {j : Nat} (h : j ≤ xs.length) : cutV xs (some (j : Int)) none = xs.drop j := by
  show (xs.drop (HT.sIx xs.length 0 (some (j : Int)))).take (HT.sIx xs.length xs.length none - HT.sIx xs.length 0 (some (j : Int))) = _
  rw [HT.sIx_none, HT.sIx_nat, Nat.min_eq_left h]
  exact List.take_of_length_le (by rw [List.length_drop]; omega)
theorem cut_in {xs : List V} {i j : Nat} (hi : i ≤ xs.length) (h : j ≤ xs.length) : cutV xs (some (i : Int)) (some (j : Int)) = (xs.drop i).take (j - i) := by
  show (xs.drop (HT.sIx xs.length 0 (some (i : Int)))).take (HT.sIx xs.length xs.length (some (j : Int)) - HT.sIx xs.length 0 (some (i : Int))) = _
  rw [HT.sIx_nat, HT.sIx_nat, Nat.min_eq_left h, Nat.min_eq_left hi]
/-! ### a op1 b op2 c op3 d -/
section
open PyProof PyProof.Rows
variable {X : Cx} {a b c d : Expr} {pos : Pos} {ta tb tc td : TE}
def tChain3 (r r' r2 : R2) (ta tb tc td : TE) : TE := fun σ H Q => ta σ H fun x H1 => tb σ H1 fun y H2 => r x y H2 fun z H3 => ∃ k, z = .bl k ∧
  (if k = true then tc σ H3 fun w' H4 => r' y w' H4 fun z2 H5 => ∃ k2, z2 = .bl k2 ∧ (if k2 = true then td σ H5 fun u H6 => r2 w' u H6 Q else Q (.bl false) H5) else Q (.bl false) H3)
theorem pt_chain3 {op op' op2 : CmpOp} {r r' r2 : R2} (ho : OpR X (compareOp op) r) (ho' : OpR X (compareOp op') r') (ho2 : OpR X (compareOp op2) r2) (ha : PE X a ta) (hb : PE X b tb) (hc : PE X c tc) (hd : PE X d td)
    (hm : lastMarks [op, op', op2] [b, c, d] = false := by with_unfolding_all rfl) : PT X (.Compare a [op, op', op2] [b, c, d] pos) (tTest (tChain3 r r' r2 ta tb tc td)) := by
  refine ⟨fun pins s σ H Q I h => ?_⟩
  refine isTrue_chain (thn (ha.run pins s σ H _ I h) fun v s1 ⟨x, H1, I1, r1, q1⟩ => test_link (thn (hb.run pins s1 σ H1 _ I1 q1) fun u s2 ⟨y, H2, I2, r2, q2⟩ =>
    thn (ho pins s2 σ H2 x y v u _ I2 r1 r2 q2) fun d s3 ⟨z, H3, I3, r3, k, e, q3⟩ => ?_)) hm
  subst e
  cases r3
  refine wpAny_truthy_bool ?_
  cases k with
  | false =>
    obtain ⟨k', e', q'⟩ := q3
    cases e'
    exact ite_ff ⟨H3, I3, q'⟩
  | true =>
    refine ite_tt (test_link (thn (hc.run pins s3 σ H3 _ I3 q3) fun w' s4 ⟨z', H4, I4, r4, q4⟩ => thn (ho' pins s4 σ H4 y z' u w' _ I4 r2 r4 q4) fun d' s5 ⟨z2, H5, I5, r5, k2, e2, q5⟩ => ?_))
    subst e2
    cases r5
    refine wpAny_truthy_bool ?_
    cases k2 with
    | false =>
      obtain ⟨k', e', q'⟩ := q5
      cases e'
      exact ite_ff ⟨H5, I5, q'⟩
    | true =>
      refine ite_tt (test_last (thn (hd.run pins s5 σ H5 _ I5 q5) fun w2 s6 ⟨z3, H6, I6, r6, q6⟩ => thn (ho2 pins s6 σ H6 z' z3 w' w2 _ I6 r4 r6 q6) fun d2 s7 ⟨z4, H7, I7, r7, k3, e3, q7⟩ => ?_))
      subst e3
      cases r7
      exact wpAny_truthy_bool ⟨H7, I7, q7⟩
theorem val_chain3 {σ : L2.St} {H : Hp} {g g' g2 : Int → Int → Bool} {a b c d : Int} (h1 : Val ta σ H (.int a)) (h2 : Val tb σ H (.int b)) (h3 : Val tc σ H (.int c)) (h4 : Val td σ H (.int d)) :
    Val (tChain3 (rI0 fun i j => .bl (g i j)) (rI0 fun i j => .bl (g' i j)) (rI0 fun i j => .bl (g2 i j)) ta tb tc td) σ H (.bl (g a b && (g' b c && g2 c d))) := fun Q q => by
  refine h1 _ (h2 _ ⟨a, b, rfl, rfl, g a b, rfl, ?_⟩)
  cases e : g a b with
  | true =>
    refine iteT (h3 _ ⟨b, c, rfl, rfl, g' b c, rfl, ?_⟩)
    cases e2 : g' b c with
    | true => exact iteT (h4 _ ⟨c, d, rfl, rfl, by rw [e, e2] at q; exact q⟩)
    | false => exact iteF (by rw [e, e2] at q; exact q)
  | false => exact iteF (by rw [e] at q; exact q)
end

/-! ### a dict of ints under ints -/
def tk (ks : List Int) (c : Int → Int) : List (Key × V) := ks.map fun s => ((Sum.inl s : Key), V.int (c s))
theorem tk_keys (ks : List Int) (c : Int → Int) : (tk ks c).map (·.1) = ks.map Sum.inl := by
  unfold tk
  rw [List.map_map] <;> rfl
theorem tk_len (ks : List Int) (c : Int → Int) : (tk ks c).length = ks.length := by unfold tk; rw [List.length_map]
theorem tk_val (ks : List Int) (c : Int → Int) (u : Int) : valV (tk ks c) (.inl u) = if u ∈ ks then some (.int (c u)) else none := by
  induction ks with
  | nil => rfl
  | cons s r ih =>
    unfold tk valV at ih ⊢
    rw [List.map_cons, List.find?_cons]
    by_cases h : s = u
    · subst h
      rw [decide_eq_true rfl, if_pos (List.mem_cons_self ..)]
      rfl
    · rw [decide_eq_false (fun q => h (Sum.inl.inj q))]
      show Option.map _ (List.find? _ (List.map _ r)) = _
      rw [ih]
      by_cases h2 : u ∈ r
      · rw [if_pos h2, if_pos (List.mem_cons_of_mem _ h2)]
      · rw [if_neg h2, if_neg (fun q => by
          rcases List.mem_cons.mp q with q | q
          · exact h q.symm
          · exact h2 q)]
theorem tk_congr {ks : List Int} {c c' : Int → Int} (h : ∀ s ∈ ks, c s = c' s) : tk ks c = tk ks c' := List.map_congr_left fun s hs => by rw [h s hs]
theorem tk_put {ks : List Int} {c c' : Int → Int} {u y : Int} (hy : c' u = y) (h : ∀ s, s ≠ u → c s = c' s) : putK (tk ks c) (.inl u) (.int y) = tk (if u ∈ ks then ks else ks ++ [u]) c' := by
  by_cases hu : u ∈ ks
  · rw [if_pos hu]
    unfold putK
    rw [valV_any, tk_val, if_pos hu, if_pos (show (some (V.int (c u))).isSome = true from rfl)]
    unfold tk
    rw [List.map_map]
    refine List.map_congr_left fun s _ => ?_
    show (if (Sum.inl s : Key) = Sum.inl u then ((Sum.inl s : Key), V.int y) else (Sum.inl s, V.int (c s))) = _
    by_cases e : s = u
    · subst e
      rw [if_pos rfl, hy]
    · rw [if_neg (fun q => e (Sum.inl.inj q)), h s e]
  · rw [if_neg hu, putK_new _ (by rw [tk_val, if_neg hu])]
    unfold tk
    rw [List.map_append, List.map_cons, List.map_nil, hy]
    congr 1
    refine List.map_congr_left fun s hs => ?_
    rw [h s (fun e => hu (e ▸ hs))]

/-! ### rows of different ints -/
theorem nodup_le : ∀ {l m : List Int}, l.Nodup → (∀ x ∈ l, x ∈ m) → l.length ≤ m.length
  | [], _, _, _ => Nat.zero_le _
  | x :: r, m, h, hs => by
    have hx := hs x (List.mem_cons_self ..)
    have h1 := List.nodup_cons.mp h
    have := nodup_le (l := r) (m := m.erase x) h1.2 fun y hy => (List.mem_erase_of_ne (fun e : y = x => h1.1 (by rw [← e]; exact hy))).mpr (hs y (List.mem_cons_of_mem _ hy))
    rw [List.length_erase_of_mem hx] at this
    have := List.length_pos_of_mem hx
    rw [List.length_cons]
    omega
theorem asc_eq : ∀ {l m : List Int}, l.Pairwise (· < ·) → m.Pairwise (· < ·) → (∀ x, x ∈ l ↔ x ∈ m) → l = m
  | [], [], _, _, _ => rfl
  | [], y :: m, _, _, h => absurd ((h y).mpr (List.mem_cons_self ..)) (by simp)
  | x :: l, [], _, _, h => absurd ((h x).mp (List.mem_cons_self ..)) (by simp)
  | x :: l, y :: m, hl, hm, h => by
    obtain ⟨hl1, hl2⟩ := List.pairwise_cons.mp hl
    obtain ⟨hm1, hm2⟩ := List.pairwise_cons.mp hm
    have e : x = y := by
      rcases List.mem_cons.mp ((h x).mp (List.mem_cons_self ..)) with e | e
      · exact e
      · rcases List.mem_cons.mp ((h y).mpr (List.mem_cons_self ..)) with e' | e'
        · exact e'.symm
        · have := hm1 x e
          have := hl1 y e'
          omega
    subst e
    rw [asc_eq hl2 hm2 fun z => ⟨fun hz => ?_, fun hz => ?_⟩]
    · rcases List.mem_cons.mp ((h z).mp (List.mem_cons_of_mem _ hz)) with e | e
      · have := hl1 z hz
        omega
      · exact e
    · rcases List.mem_cons.mp ((h z).mpr (List.mem_cons_of_mem _ hz)) with e | e
      · have := hm1 z hz
        omega
      · exact e
theorem asc_of {l : List Int} (h : l.Pairwise (· ≤ ·)) (n : l.Nodup) : l.Pairwise (· < ·) := by
  induction l with
  | nil => exact .nil
  | cons x r ih =>
    obtain ⟨h1, h2⟩ := List.pairwise_cons.mp h
    obtain ⟨n1, n2⟩ := List.nodup_cons.mp n
    refine List.pairwise_cons.mpr ⟨fun y hy => ?_, ih h2 n2⟩
    have := h1 y hy
    have : x ≠ y := fun e => n1 (e ▸ hy)
    omega
theorem asc_nodup {l : List Int} (h : l.Pairwise (· < ·)) : l.Nodup := h.imp fun {a b} q e => by omega
/-- how often the items of ks stand in l, all in all -/
theorem counts_sum : ∀ (l ks : List Int), ks.Nodup → (∀ x ∈ l, x ∈ ks) → (ks.map fun s => ((l.count s : Nat) : Int)).sum = (l.length : Int)
  | [], ks, _, _ => by
    have : (ks.map fun s => (((([] : List Int).count s : Nat)) : Int)) = ks.map fun _ => (0 : Int) := List.map_congr_left fun s _ => by rw [List.count_nil]; rfl
    rw [this]
    clear this
    induction ks with
    | nil => rfl
    | cons s r ih => rw [List.map_cons, List.sum_cons]; simp_all
  | x :: l, ks, hn, h => by
    have ih := counts_sum l ks hn fun y hy => h y (List.mem_cons_of_mem _ hy)
    have hx := h x (List.mem_cons_self ..)
    have key : ∀ ks : List Int, ks.Nodup → (ks.map fun s => (((x :: l).count s : Nat) : Int)).sum = (ks.map fun s => ((l.count s : Nat) : Int)).sum + if x ∈ ks then 1 else 0 := by
      intro ks
      induction ks with
      | nil => intro _; rfl
      | cons s r ih =>
        intro hn
        obtain ⟨n1, n2⟩ := List.nodup_cons.mp hn
        rw [List.map_cons, List.sum_cons, List.map_cons, List.sum_cons, ih n2, List.count_cons]
        by_cases e : x = s
        · subst e
          rw [if_neg n1, if_pos (List.mem_cons_self ..), if_pos (by simp)]
          omega
        · have e1 : (x == s) = false := by simpa using e
          rw [e1]
          by_cases e2 : x ∈ r
          · rw [if_pos e2, if_pos (List.mem_cons_of_mem _ e2)]
            simp
            omega
          · have e3 : ¬ x ∈ s :: r := fun q => by
              rcases List.mem_cons.mp q with q | q
              · exact e q
              · exact e2 q
            rw [if_neg e2, if_neg e3, if_neg (by decide)]
            omega
    rw [key ks hn, ih, if_pos hx, List.length_cons]
    omega
/-! ### range(0, m, 2), range(0, m, 3) -/
theorem rgC_up {m c : Int} (hc : c = 2 ∨ c = 3) (hm : 0 ≤ m) (hm2 : m ≤ 40000) : ∃ n, RgC 0 m c n ∧ ∀ i : Nat, i < n → (i : Int) * c < m := by
  refine ⟨(Builtin.Range.rangeSize 0 m c).toNat, ⟨by omega, by omega, ?_, ?_⟩, fun i hi => ?_⟩
  · unfold Builtin.Range.small Builtin.Range.rangeSize
    simp only [Builtin.Range.rangeFitsLong, Bool.and_eq_true, Bool.or_eq_true, decide_eq_true_eq, beq_iff_eq]
    rcases hc with rfl | rfl <;> simp <;> split <;> omega
  · unfold Builtin.Range.rangeSize
    rcases hc with rfl | rfl <;> simp <;> split <;> omega
  · unfold Builtin.Range.rangeSize at hi
    rcases hc with rfl | rfl <;> simp at hi <;> split at hi <;> omega
theorem q_forR3 {ta : TA} {t : TS} {tz : TS} {D : Ends} {σ : L2.St} {H : Hp} {j : Nat} {m c : Int} (h : Evl.EvA ta σ H [.int 0, .int m, .int c]) (hc : c = 2 ∨ c = 3) (hm : 0 ≤ m ∧ m ≤ 40000) (Pv : Int → L2.St → Hp → Prop) (h0 : ∀ H1, Evl.Ex H H1 → Pv 0 σ H1)
    (hs : ∀ (i : Int) σ' H', 0 ≤ i → i < m → Pv i σ' H' → t { D with nx := Pv (i + c), ct := Pv (i + c), bk := tz D } (σ'.set j (some (.int i))) H') (hd : ∀ i σ' H', Pv i σ' H' → tz D σ' H') : tSeq (tFor (iRng3 ta) (gName j) t) tz D σ H :=
  h H (Evl.Ex.refl H) _ fun H1 e => by
    obtain ⟨n, hn, hb⟩ := rgC_up hc hm.1 hm.2
    refine ⟨0, m, c, n, rfl, hn, for_rangeC (D := { D with nx := tz D }) (fun i σ H => Pv ((i : Int) * c) σ H) (by have := h0 H1 e; rwa [show (((0 : Nat) : Int)) * c = 0 from by simp]) (fun i σ' H' hi p => ?_) (fun σ' H' p => hd _ σ' H' p)⟩
    have := hb i hi
    rw [Int.zero_add, show (((i + 1 : Nat)) : Int) * c = (i : Int) * c + c from by rw [Int.natCast_add, Int.add_mul]; simp]
    exact hs _ σ' H' (by rcases hc with rfl | rfl <;> omega) this p
/-- a suite asked only where the frame has its n slots -/
theorem ps_len {X : Cx} {st : List Stmt} {t : TS} {n : Nat} (hn : X.N.length = n) (h : PSs X st t) : PSs X st (fun D σ H => σ.length = n → t D σ H) := ⟨fun pins s σ H D I hw => h.run pins s σ H D I (hw (I.len.trans hn))⟩
/-! ### several except clauses, each with a name or without -/
abbrev Clause := Value × Option Nat × (Addr → Value → Option Addr → TS)
/-- behind a suite with a name the name's slot is empty -/
def emptied (D : Ends) : Option Nat → Ends
  | none => D
  | some i => { nx := fun τ G => D.nx (τ.set i none) G, rt := D.rt, bk := fun τ G => D.bk (τ.set i none) G, ct := fun τ G => D.ct (τ.set i none) G }
def named (τ : L2.St) (a : Addr) : Option Nat → L2.St
  | none => τ
  | some i => τ.set i (some (.ref a))
/-- what the clauses, one after the other, wish of what the body lets out -/
def wMix (K : PySem.W.Frag) (Wout : WX) (D : Ends) : List Clause → WX
  | [] => Wout
  | (c, o, ts) :: r => fun cls d τ G => ∃ b, PySem.W.exmOne K cls c = some b ∧ (b = true → ∀ a, G a = none → ts a cls d (emptied D o) (named τ a o) G) ∧ (b = false → wMix K Wout D r cls d τ G)
inductive Clauses (X : Cx) : List ExceptHandler → List Clause → Prop
  | nil : Clauses X [] []
  | bare {x : Str} {c : Value} {ts : Addr → Value → Option Addr → TS} {s0 : Stmt} {ss : List Stmt} {p1 p2 : Pos} {hds : List ExceptHandler} {l : List Clause} (hc : Names X x c)
      (hS : ∀ (a : Addr) (oe : Obj) (cls : Value) (d : Option Addr) (pn : List (Addr × Obj)), Zc cls d oe → (∃ vs, oe.data = .fields vs) → PSs (X.suite a ((a, oe) :: pn)) (s0 :: ss) (ts a cls d)) (r : Clauses X hds l) :
      Clauses X (.ExceptHandler (some (.Name x p1)) none (s0 :: ss) p2 :: hds) ((c, none, ts) :: l)
  | as {x n : Str} {i : Nat} {c : Value} {ts : Addr → Value → Option Addr → TS} {s0 : Stmt} {ss : List Stmt} {p1 p2 : Pos} {hds : List ExceptHandler} {l : List Clause} (hi : X.N[i]? = some n) (hk : X.env.kindOf n = some .local) (hc : Names X x c)
      (hS : ∀ (a : Addr) (oe : Obj) (cls : Value) (d : Option Addr) (pn : List (Addr × Obj)), Zc cls d oe → (∃ vs, oe.data = .fields vs) → PSs (X.suite a ((a, oe) :: pn)) (s0 :: ss) (ts a cls d)) (r : Clauses X hds l) :
      Clauses X (.ExceptHandler (some (.Name x p1)) (some n) (s0 :: ss) p2 :: hds) ((c, some i, ts) :: l)
section
variable {X : Cx} {body : List Stmt} {h₀ : ExceptHandler} {hds : List ExceptHandler} {l : List Clause} {pos : Pos} {tb : WX → TS} {Wout : WX}
theorem ps_try_mix (hs : X.stack = X.env :: X.outer) (hf : X.env.frame = some X.env.locals) (hN : X.N.Nodup) (tk : Takes X Wout)
    (hb : ∀ (W : WX) (pn : List (Addr × Obj)) (xe : Value → Shared → Prop), Takes (X.tr pn xe) W → PassesOwn (model X.prog X.w) X.A X.env xe → PSs (X.tr pn xe) body (tb W))
    (hh : Clauses X (h₀ :: hds) l) : PS X (.Try body (h₀ :: hds) [] [] pos) (fun D τ G => tb (wMix X.K Wout D l) D τ G) := by
  constructor
  intro pins s τ G D I h
  have okX := I.ok
  let caught : Value → Shared → Prop := fun e t1 => wpAny (model X.prog X.w) X.A (noteFrame e X.env) (fun _ t2 => wpAny (model X.prog X.w) X.A (setFlight e none) (fun _ t3 => wpAny (model X.prog X.w) X.A (handleBy e X.env (h₀ :: hds)) (SP X pins D) X.xe t3) X.xe t2) X.xe t1
  have back : ∀ (f : Flow) (t : Shared), SP (X.tr (X.pn ++ pins) caught) [] D f t → SP X pins D f t := by
    intro f t q
    cases f with
    | ret u =>
      obtain ⟨v, τ1, G1, J, rv, qq⟩ := q
      exact ⟨v, τ1, G1, J.ofTry okX, rv, qq⟩
    | next =>
      obtain ⟨τ1, G1, J, qq⟩ := q
      exact ⟨τ1, G1, J.ofTry okX, qq⟩
    | brk =>
      obtain ⟨τ1, G1, J, qq⟩ := q
      exact ⟨τ1, G1, J.ofTry okX, qq⟩
    | cont =>
      obtain ⟨τ1, G1, J, qq⟩ := q
      exact ⟨τ1, G1, J.ofTry okX, qq⟩
  refine wpAny_Try_except (wpAny_mono ((hb (wMix X.K Wout D l) (X.pn ++ pins) caught ?tk PassesOwn.looking).run [] s τ G D (I.toTry _) h) ?out fun _ _ he => he)
  case out =>
    intro f t q
    have q' := back f t q
    cases f with
    | next => exact wpAny_execs_nil q'
    | ret u => exact q'
    | brk => exact q'
    | cont => exact q'
  case tk =>
    rintro _ t ⟨a, B, sI, pins1, τ1, G1, cls, d, rfl, J0, nb, up, sky, na, os, ag, wish⟩
    have J := J0.ofTry okX
    rw [show (X.tr (X.pn ++ pins) caught).stack = X.env :: X.outer from hs] at sky
    show wpAny (model X.prog X.w) X.A (noteFrame (.ref a) X.env) _ _ _
    refine Sky.land Zc.steady (okX.frames.trans (congrArg some hs)) hf sky fun h3 fly up3 => ?_
    have J3 : Inv X pins τ1 G1 { t with heap := h3 } := J.landed nb fly.1 (up.trans up3) os ag
    obtain ⟨oe, vs, hget, hz, hdat⟩ := fly.there
    have off : a ∉ frs (X.env :: X.outer) := by
      intro hm
      obtain ⟨_, o1, g1, hne⟩ := fly.2.2.1.mem hm
      rw [hget] at g1
      cases g1
      exact hne _ hdat
    have offL : a ≠ X.env.locals := fun z => off (List.mem_filterMap.mpr ⟨X.env, List.mem_cons_self, by rw [hf, z]⟩)
    have offF : a ∉ X.fs := by
      intro hm
      obtain ⟨e, he, q⟩ := List.mem_filterMap.mp hm
      exact off (List.mem_filterMap.mpr ⟨e, List.mem_cons_of_mem _ he, q⟩)
    have Sus := J3.suite hget hdat na offL offF
    have kindIs : PySem.W.Looks (model X.prog X.w) h3 (typeOf (.ref a)) cls := fun _ _ _ _ look q => wpAny_typeOf_ref (look _ _ hget) (by rw [hz.1]; exact q)
    have reads : ∀ {x : Str} {c : Value} {p : Pos} {Q : Value → Shared → Prop} {E : Value → Shared → Prop}, Names X x c → Q c { t with heap := h3 } → wpAny (model X.prog X.w) (X.A.mark (some (.ref a))) (eval (.Name x p) X.env) Q E { t with heap := h3 } := by
      intro x c p Q E nm q
      obtain ⟨hg, hdbg, own | ⟨free, hv, hnn⟩⟩ := nm
      · exact ld_glob (X := X.suite a ((a, oe) :: (X.pn ++ pins))) Sus hg own q hdbg
      · exact ld_blt (X := X.suite a ((a, oe) :: (X.pn ++ pins))) Sus hg free hv q hnn hdbg
    have walk : ∀ (hs' : List ExceptHandler) (l' : List Clause), Clauses X hs' l' → wMix X.K Wout D l' cls d τ1 G1 → wpAny (model X.prog X.w) X.A (handleBy (.ref a) X.env hs') (SP X pins D) X.xe { t with heap := h3 } := by
      intro hs' l' hk
      induction hk with
      | nil =>
        intro wish
        refine wpAny_handleBy_nil ?_
        obtain ⟨_, _, _, oe', vs', T, _, _, g1, _, g2, g3, _⟩ := id fly
        have flies : wpAny (model X.prog X.w) X.A (setFlight (.ref a) X.env.frame) (fun _ t4 => wpAny (model X.prog X.w) X.A (throw (.ref a) : Sem Flow) (SP X pins D) X.xe t4) X.xe { t with heap := h3 } := by
          rw [hf]
          refine HandSPX.setFlight_upZ fly fun h4 held up4 => wpAny_throw (tk _ _ ⟨a, B, sI, pins, τ1, G1, cls, d, rfl, J, nb, (up.trans up3).trans up4, .inr (.inr ?_), na, os, ag, wish⟩)
          rw [hs]
          exact held
        unfold PySem.passOn
        refine wpAny_bind (wpAny_field g1 g2 g3 ?_)
        rw [if_neg (show ¬ ((Value.ref T == Value.none) = true) by simp)]
        first
          | exact wpAny_bind flies
          | exact wpAny_bind (wpAny_pure (wpAny_bind flies))
      | bare nm hS _ ih =>
        rintro ⟨b, hb1, yes, no⟩
        refine wpAny_handleBy_cons (codeAny_handlers_test ?_) (by intro q; cases q)
        refine reads nm ((PySem.W.exm_one (M := model X.prog X.w) J3.kIn kindIs hb1).here ?_)
        cases b with
        | false => exact ih (no rfl)
        | true =>
          refine codeAny_handlers_suite (HandSPX.lands_againZ fly fun h4 fly4 up4 => ?_)
          obtain ⟨oe4, vs4, hget4, hz4, hdat4⟩ := fly4.there
          have S4 := (J.landed nb fly4.1 ((up.trans up3).trans up4) os ag : Inv X pins τ1 G1 { t with heap := h4 }).suite hget4 hdat4 na offL offF
          refine wpAny_mono ((hS a oe4 cls d (X.pn ++ pins) hz4 ⟨_, hdat4⟩).run [] _ _ G1 _ S4 (yes rfl a na)) (fun f t6 q => ?_) fun _ _ z => z.elim
          cases f with
          | ret u =>
            obtain ⟨v, τ6, G6, S6, rv, q6⟩ := q
            exact ⟨v, τ6, G6, S6.unsuite okX, rv, q6⟩
          | next =>
            obtain ⟨τ6, G6, S6, q6⟩ := q
            exact ⟨τ6, G6, S6.unsuite okX, q6⟩
          | brk =>
            obtain ⟨τ6, G6, S6, q6⟩ := q
            exact ⟨τ6, G6, S6.unsuite okX, q6⟩
          | cont =>
            obtain ⟨τ6, G6, S6, q6⟩ := q
            exact ⟨τ6, G6, S6.unsuite okX, q6⟩
      | @as x n i c ts s0 ss p1 p2 hds2 l2 hi hloc nm hS _ ih =>
        rintro ⟨b, hb1, yes, no⟩
        refine wpAny_handleBy_cons (codeAny_handlers_test ?_) (by intro q; cases q)
        refine reads nm ((PySem.W.exm_one (M := model X.prog X.w) J3.kIn kindIs hb1).here ?_)
        cases b with
        | false => exact ih (no rfl)
        | true =>
          refine codeAny_handlers_suite_as (HandSPX.lands_againZ fly fun h4 fly4 up4 => ?_)
          obtain ⟨oe4, vs4, hget4, hz4, hdat4⟩ := fly4.there
          have S4 := (J.landed nb fly4.1 ((up.trans up3).trans up4) os ag : Inv X pins τ1 G1 { t with heap := h4 }).suite hget4 hdat4 na offL offF
          refine store_ok (X := X.suite a ((a, oe4) :: (X.pn ++ pins))) (v := .ref a) S4 hN hi (.inl hloc) rfl (fun t5 S5 => ?_) (.inr hloc)
          refine wpAny_mono ((hS a oe4 cls d (X.pn ++ pins) hz4 ⟨_, hdat4⟩).run [] t5 _ G1 _ S5 (yes rfl a na)) (fun f t6 q => ?_) fun _ _ z => z.elim
          cases f with
          | ret u =>
            obtain ⟨v, τ6, G6, S6, rv, q6⟩ := q
            exact gone_ok (S6.unsuite okX) hN hi hloc fun t7 J7 => ⟨v, _, _, J7, rv, q6⟩
          | next =>
            obtain ⟨τ6, G6, S6, q6⟩ := q
            exact gone_ok (S6.unsuite okX) hN hi hloc fun t7 J7 => ⟨_, _, J7, q6⟩
          | brk =>
            obtain ⟨τ6, G6, S6, q6⟩ := q
            exact gone_ok (S6.unsuite okX) hN hi hloc fun t7 J7 => ⟨_, _, J7, q6⟩
          | cont =>
            obtain ⟨τ6, G6, S6, q6⟩ := q
            exact gone_ok (S6.unsuite okX) hN hi hloc fun t7 J7 => ⟨_, _, J7, q6⟩
    exact walk _ _ hh wish
end

/-! ### stars, dict comprehensions -/
theorem aStar {X : Cx} (K : PySem.W.Frag) (h : X.K = K) {e : Expr} {es : List Expr} {te : TE} {t : TA} {p : Pos} (he : PE X e te) (hr : PA X es t) (hs : starEach (.Starred e p :: es) X.env = (true, eval e X.env) :: starEach es X.env := by rfl) : PA X (.Starred e p :: es) (StX.tStar K te t) := h ▸ StX.pa_star he hr hs
/-- a dict comprehension over whatever is walked -/
theorem dc_it {J : It} {n : Nat} {G : Hp → Prop} {Y : Nat → Hp → V → Hp → Prop} (w : Walk J n G Y) {g : TG} {tt : TT} {tk tv : TE} {vs : List Nat} {σ : L2.St} {H1 : Hp} {D : Addr} {Qd : Hp → Prop} (Pv : Nat → Hp → Prop) (h0 : Pv 0 (upd H1 D (.dK []))) (hG : ∀ i H, i ≤ n → Pv i H → G H)
    (turn : ∀ i x H H', i < n → Pv i H → Y i H x H' → g x (wipe σ vs) H' fun τ G2 => wipe τ vs = wipe σ vs ∧ tt τ G2 fun b G3 =>
      if b = true then tk τ G3 fun y G4 => tv τ G4 fun z G5 => ∃ kvs k, y = kV k ∧ G5 D = some (.dK kvs) ∧ kvs.length < sizeLine ∧ Pv (i + 1) (upd G5 D (.dK (putK kvs k z))) else Pv (i + 1) G3) (done : ∀ H, Pv n H → Qd H) :
    ∃ W : Nat → Nat → Hp → Prop, (∃ m, W 0 m (upd H1 D (.dK []))) ∧ ∀ i m H, W i m H →
      (J.stop i H ∧ Qd H) ∨ (J.go i H ∧ ∃ Nx : Hp → Prop, (∀ H', Nx H' → ∃ m', m' < m ∧ W (i + 1) m' H') ∧ ∀ x H', J.yld i H x H' → g x (wipe σ vs) H' fun τ G2 => wipe τ vs = wipe σ vs ∧ tt τ G2 fun b G3 =>
        if b = true then tk τ G3 fun y G4 => tv τ G4 fun z G5 => ∃ kvs k, y = kV k ∧ G5 D = some (.dK kvs) ∧ kvs.length < sizeLine ∧ Nx (upd G5 D (.dK (putK kvs k z))) else Nx G3) := by
  refine ⟨fun i m H => m + i = n ∧ Pv i H, ⟨n, rfl, h0⟩, ?_⟩
  rintro i m H ⟨hm, p⟩
  have q := hG i H (by omega) p
  by_cases hi : i = n
  · subst hi
    exact .inl ⟨w.stops H q, done H p⟩
  · have hlt : i < n := by omega
    exact .inr ⟨w.goes i H hlt q, Pv (i + 1), fun H' p' => ⟨m - 1, by omega, by omega, p'⟩, fun x H' y => turn i x H H' hlt p (w.yields i H x H' hlt q y)⟩
theorem mIdx {X : Cx} (K : PySem.W.Frag) (h : X.K = K) : MtR X "list.index" (rIndex K) := h ▸ mt_index
end Tp

set_option Elab.async false
set_option linter.all false
set_option maxRecDepth 100000
set_option maxHeartbeats 4000000
namespace Tp
open PySem PySem.Spec PyProof.Rows L2 Evl
/-! ### rows of bits: what is kept -/
def pre (row : List Int) (i : Nat) : Int := (row.take i).sum
def sums (row : List Int) : List Int := (List.range (row.length + 1)).map (pre row)
def isAt (row : List Int) (d : Int) (i : Nat) : Bool := decide (row[i]? = some d)
/-- the places below n at which d stands -/
def plcTo (row : List Int) (d : Int) (n : Nat) : List Int := ((List.range n).filter (isAt row d)).map fun (i : Nat) => (i : Int)
def plc (row : List Int) (d : Int) : List Int := plcTo row d row.length
theorem pre_zero (row : List Int) : pre row 0 = 0 := rfl
theorem pre_succ {row : List Int} {i : Nat} {z : Int} (h : row[i]? = some z) : pre row (i + 1) = pre row i + z := sum_take h
theorem pre_all (row : List Int) : pre row row.length = row.sum := by unfold pre; rw [List.take_length]
theorem sums_len (row : List Int) : (sums row).length = row.length + 1 := by unfold sums; rw [List.length_map, List.length_range]
theorem sums_at {row : List Int} {i : Nat} (h : i ≤ row.length) : (sums row)[i]? = some (pre row i) := by
  unfold sums
  rw [List.getElem?_map, List.getElem?_range (by omega)] <;> rfl
theorem plcTo_succ {row : List Int} {d : Int} {n : Nat} : plcTo row d (n + 1) = if isAt row d n = true then plcTo row d n ++ [(n : Int)] else plcTo row d n := by
  unfold plcTo
  rw [List.range_succ, List.filter_append, List.map_append, List.filter_cons]
  by_cases h : isAt row d n = true
  · rw [if_pos h, if_pos h] <;> rfl
  · rw [if_neg h, if_neg h]
    show _ ++ [] = _
    rw [List.append_nil]
theorem plcTo_len (row : List Int) (d : Int) (n : Nat) : (plcTo row d n).length ≤ n := by
  unfold plcTo
  rw [List.length_map]
  have h := List.length_filter_le (isAt row d) (List.range n)
  rwa [List.length_range] at h
theorem int_at {ns : List Int} {i : Nat} {x : V} (h : (ns.map V.int)[i]? = some x) : ∃ z, ns[i]? = some z ∧ x = .int z := by
  rw [List.getElem?_map] at h
  cases e : ns[i]? with
  | none =>
    rw [e] at h
    cases h
  | some z =>
    rw [e] at h
    exact ⟨z, rfl, (Option.some.inj h).symm⟩
theorem at_int {ns : List Int} {i : Nat} {z : Int} (h : ns[i]? = some z) : (ns.map V.int)[i]? = some (V.int z) := by rw [List.getElem?_map, h] <;> rfl
theorem lt_of_at {α : Type} {l : List α} {i : Nat} {x : α} (h : l[i]? = some x) : i < l.length := (List.getElem?_eq_some_iff.mp h).1
theorem small9 {n : Nat} (h : n ≤ 100000) : n < sizeLine := Nat.lt_of_le_of_lt h (by decide)
end Tp


set_option Elab.async false
set_option linter.all false
set_option maxRecDepth 100000
set_option maxHeartbeats 4000000
namespace Tp
open PySem PySem.Spec PyProof.Rows L2 Evl RT
/-! ### list(reversed(x)), x a list -/
section
variable {prog : Program} {w : World} {A : Around} {E : Value → Shared → Prop} {s : Shared}
theorem extendRev {R : Result → Shared → Prop} {S it l : Addr} {items : Array Value} {c₀ : Nat} (res : Value) (hh : A.handled = none) (hit : s.heap.IsRevIter it l ((items.size : Int) - 1)) (hl : s.heap.IsList l items) (ne1 : l ≠ it) (ne2 : S ≠ it) (ne3 : S ≠ l) (hn : items.size ≤ sizeLine)
    (hS : s.heap.get? S = some { cls := .type "list", data := .seq #[] c₀ })
    (hR : ∀ (h' : Heap) (tk : Nat) (acc : Array Value) (c' : Nat), (∀ b o, b ≠ S → b ≠ it → s.heap.get? b = some o → h'.get? b = some o) → h'.get? S = some { cls := .type "list", dict := none, data := .seq acc c', slots := #[] } → ItemsOf (fun i v => items[items.size - 1 - i]? = some v) acc items.size → R (.ok (.ret res)) { s with heap := h', toks := tk }) :
    wpAny (model prog w) A.in1 (Builtin.List.listExtendWith (.ref S) (.ref it) res) (fun fin s' => match fin with | .done f => R (.ok f) s' | .again c' => c'.quiet = true ∧ codeAny (model prog w) A c' R s') (fun e s' => R (.error e) s') s := by
  have walk := (Walks.listRev (prog := prog) (w := w) (A := A.in1) hh it l ne1 items).toS
  have out : S ∉ [it, l] := by
    simp only [List.mem_cons, List.not_mem_nil, or_false, not_or]
    exact ⟨ne2, ne3⟩
  have kind : s.TypeIs (.ref it) "list_reverseiterator" := hit.typeIs
  have other : Builtin.List.listSameRef (.ref S) (.ref it) = false := by simp [Builtin.List.listSameRef, ne2]
  unfold Builtin.List.listExtendWith
  refine wpAny_bind (wpAny_typeOf kind ?_)
  rw [if_neg (by rw [other]; decide)]
  refine wpAny_bind (wpAny_pyIter_revIter hit (wpAny_bind (wpAny_holding ?_)))
  unfold Builtin.List.listLengthHint
  refine wpAny_bind (wpAny_specialOf kind nolen_lri ?_)
  show wpAny _ A.in1 (specialOf (Value.ref it) (Str.ofString "__length_hint__") >>= _) _ _ _
  refine wpAny_bind (wpAny_specialOf kind hint_lri ?_)
  generalize hd : ("list_reverseiterator.__length_hint__" : String) = named
  wp_delta
  rw [show splitId named = some ("list_reverseiterator", "__length_hint__") by subst hd; decide +kernel]
  subst hd
  refine wpAny_bind (wpAny_isInstance (b := true) kind (by rw [isSubtype_type]; kernel_rfl) (wpAny_pure ?_))
  rw [if_neg (by decide)]
  have e0 : ((items.size : Nat) : Int) - 1 - ((0 : Nat) : Int) = (items.size : Int) - 1 := by omega
  refine wpAny_pure ⟨plainId_quiet F.plain_extend_loop _, codeAny_extend_loopS walk hn _ out _ items.size 0 _ _ _ rfl (Nat.zero_le _) ⟨Nat.zero_le _, by rw [e0]; exact hit, hl⟩ hS (ItemsOf.nil _) fun s' acc c' mv hS' hacc => ?_⟩
  rw [Moved.eq_with mv]
  refine hR s'.heap s'.toks acc c' (fun b o n1 n2 e => mv.heap b o (fun hm => ?_) e) hS' hacc
  rcases List.mem_cons.mp hm with z | z
  · exact n1 z
  · exact n2 (List.mem_singleton.mp z)
theorem listRev {it l : Addr} {items : Array Value} {Q : Value → Shared → Prop} (hh : A.handled = none) (hit : s.heap.IsRevIter it l ((items.size : Int) - 1)) (hl : s.heap.IsList l items) (ne1 : l ≠ it) (hn : items.size ≤ sizeLine)
    (hQ : ∀ (h' : Heap) (tk : Nat) (acc : Array Value) (c' : Nat), (∀ b o, b ≠ it → s.heap.get? b = some o → h'.get? b = some o) → h'.get? s.heap.objs.size = some { cls := .type "list", dict := none, data := .seq acc c', slots := #[] } → ItemsOf (fun i v => items[items.size - 1 - i]? = some v) acc items.size → Q (.ref s.heap.objs.size) { s with heap := h', toks := tk }) :
    wpAny (model prog w) A (call (.type "list") [.ref it]) Q E s := by
  refine callType_codes (Q₁ := fun obj t => obj = .ref s.heap.objs.size ∧ t = { s with heap := s.heap.push { cls := .type "list", data := .seq #[] } }) F.called_list (F.typeCall_list_1 _) F.entry_list_init (code_list_new _ ⟨rfl, rfl⟩) ?_
  rintro _ _ ⟨rfl, rfl⟩
  obtain ⟨oi, hoi, _⟩ := id hit
  obtain ⟨ol, hol, _⟩ := id hl
  have n2 : s.heap.objs.size ≠ it := Nat.ne_of_gt (Heap.lt_size hoi)
  have n3 : s.heap.objs.size ≠ l := Nat.ne_of_gt (Heap.lt_size hol)
  have made : (s.heap.push { cls := .type "list", data := .seq #[] }).get? s.heap.objs.size = some { cls := .type "list", data := .seq #[] } := Heap.get?_push_size _ rfl
  refine ⟨⟨_, made, rfl⟩, F.args_list_init_2 _ _, ?_⟩
  show wpAny _ A.in1.in1 (do let old ← Builtin.List.listItems (.ref s.heap.objs.size); Builtin.List.listUpdate (.ref s.heap.objs.size) (fun _ => #[]); letGo old.toList.reverse; Builtin.List.listExtendWith (.ref s.heap.objs.size) (.ref it) .none) _ _ _
  refine wpAny_bind ?_
  unfold Builtin.List.listItems
  refine wpAny_bind (wpAny_seqItems made rfl (wpAny_pure ?_))
  show wpAny _ A.in1.in1 (updateSeq s.heap.objs.size (fun _ => #[]) >>= fun _ => letGo (#[] : Array Value).toList.reverse >>= fun _ => Builtin.List.listExtendWith (.ref s.heap.objs.size) (.ref it) .none) _ _ _
  refine wpAny_bind (wpAny_updateSeq made rfl ?_)
  have empty := Heap.get?_update_self (Obj.mapSeq (fun _ => (#[] : Array Value))) made rfl
  have oth : ∀ b o, b ≠ s.heap.objs.size → s.heap.get? b = some o → ((s.heap.push { cls := .type "list", data := .seq #[] }).update s.heap.objs.size (Obj.mapSeq (fun _ => (#[] : Array Value)))).get? b = some o :=
    fun b o hb e => (Heap.get?_update_other _ _ (Ne.symm hb)).trans (Heap.get?_push_of_some _ e)
  refine wpAny_bind (wpAny_letGo ?_)
  refine extendRev (A := A.in1) .none hh (hit.at fun o e => oth _ o (Ne.symm n2) e) ?_ ne1 n2 n3 hn empty fun h' tk acc c' keep hS' hacc => ⟨rfl, hQ h' tk acc c' (fun b o hb e => keep b o (Nat.ne_of_lt (Heap.lt_size e)) hb (oth b o (Nat.ne_of_lt (Heap.lt_size e)) e)) hS' hacc⟩
  obtain ⟨o, ho, r⟩ := hl
  exact ⟨o, oth _ _ (Ne.symm n3) ho, r⟩
end
def tLstRev (K : PySem.W.Frag) (te : TE) : TE := fun τ G Q => te τ G fun v G1 => ∃ (a : Addr) (xs : List V), v = .ref a ∧ SqL K G1 a xs ∧ ∀ q, G1 q = none → Q (.ref q) (upd G1 q (.lst xs.reverse))
theorem pe_lstRev {X : Cx} (K : PySem.W.Frag) (h : X.K = K) {e : Expr} {te : TE} {p p2 pos pos2 : Pos} (hc : X.calm = true) (hg : Gl X "list") (hm : X.mg "list" = none) (hg2 : Gl X "reversed") (hm2 : X.mg "reversed" = none) (he : PE X e te)
    (hs : starEach [e] X.env = (false, eval e X.env) :: starEach [] X.env := by rfl)
    (hs2 : starEach [.Call (.Name "reversed" p2) [e] [] pos2] X.env = (false, eval (.Call (.Name "reversed" p2) [e] [] pos2) X.env) :: starEach [] X.env := by rfl) :
    PE X (.Call (.Name "list" p) [.Call (.Name "reversed" p2) [e] [] pos2] [] pos) (tLstRev K te) := by
  subst h
  constructor
  intro pins s τ G Q I h
  refine Call_ (ld_blt I hg hm boot_list (PyProof.Rows.callWith_type1 (args_cons (Call_ (ld_blt I hg2 hm2 PyProof.Rows.boot_reversed (PyProof.Rows.callWith_type1 (args_cons (thn (he.run pins s τ G _ I h) fun u t ⟨v, G1, J, rv, q1⟩ => args_nil ?_) hs) hs rfl))) hs2) hs2 rfl))
  obtain ⟨a, xs, rfl, hq, q⟩ := q1
  obtain rfl : u = Value.ref a := rv
  obtain ⟨its, vals, plain, hz⟩ := J.list hq
  have isl := plain.isList
  refine call_reversed_list isl (args_nil ?_)
  have small : its.toArray.size ≤ sizeLine := by rw [List.size_toArray, ← vals.length]; exact hz
  obtain ⟨ol, hol, _⟩ := id isl
  have apart : a ≠ t.heap.objs.size := Nat.ne_of_lt (Heap.lt_size hol)
  have J2 : Inv X pins τ G1 { t with heap := t.heap.push (revObj a ((its.toArray.size : Int) - 1)) } := J.kept (t' := t.toks) fun b o e => Heap.get?_push_of_some _ e
  obtain ⟨f0, f1, f2, f3, f4, f5⟩ := J.fpOk (H' := G1) (b := t.heap.objs.size) (Nat.le_refl _) (J.hok.fresh (Nat.le_refl _))
  have sz : (t.heap.push (revObj a ((its.toArray.size : Int) - 1))).objs.size = t.heap.objs.size + 1 := Heap.size_push ..
  refine listRev (s := { t with heap := t.heap.push (revObj a ((its.toArray.size : Int) - 1)) }) (J.ok.hd hc) ⟨_, Heap.get?_push_size _ rfl, rfl, rfl⟩ (isl.push _) apart small fun h' tk acc c' keep made items => ?_
  rw [show ({ t with heap := t.heap.push (revObj a ((its.toArray.size : Int) - 1)) } : Shared).heap.objs.size = t.heap.objs.size + 1 from sz] at made ⊢
  refine ⟨.ref _, upd G1 (t.heap.objs.size + 1) (.lst xs.reverse), J.laid (t' := tk) (fun b o e => keep b o (Nat.ne_of_lt (Heap.lt_size e)) (Heap.get?_push_of_some _ e)) (Nat.le_succ _) (show ObjOk X.prog X.w _ _ _ (.lst xs.reverse) from ⟨by rw [List.length_reverse]; exact hz, acc.toList, c', vals_rev vals items, ?_⟩), rfl, q _ (J.hok.fresh (Nat.le_succ _))⟩
  rw [Array.toArray_toList]
  exact made
end Tp


set_option Elab.async false
set_option linter.all false
set_option maxRecDepth 100000
set_option maxHeartbeats 4000000
namespace Tp
open PySem PySem.Spec PyProof.Rows L2 Evl
/-! ### trees -/
inductive Tr where
  | txt (z : Str)
  | el (n : Str) (cs : List Tr)
mutual
def Tr.d : Tr → PyData
  | .txt z => .str z
  | .el n cs => .tuple [.str n, .list (Tr.ds cs)]
def Tr.ds : List Tr → List PyData
  | [] => []
  | c :: cs => c.d :: Tr.ds cs
end
theorem ds_map : ∀ cs : List Tr, Tr.ds cs = cs.map Tr.d
  | [] => rfl
  | c :: cs => by rw [Tr.ds, ds_map cs, List.map_cons]
def Tr.isT : Tr → Bool
  | .txt _ => true
  | .el _ _ => false
def signCs : List Nat := [97, 98, 32, 60, 62, 38, 59, 108, 116, 10, 126, 47]
def okText (m : Nat) (z : Str) : Prop := 1 ≤ z.cps.size ∧ z.cps.size ≤ m ∧ ∀ c ∈ z.cps.toList, c ∈ signCs
def twelve : Str := "ab <>&;lt\n~/"
def fourNames : List Str := ["a", "b", "abcdefghijkl", "c"]
/-- no two texts side by side -/
def apartT : List Tr → Prop
  | [] => True
  | [_] => True
  | a :: b :: r => ¬ (a.isT = true ∧ b.isT = true) ∧ apartT (b :: r)
def okTr : Nat → Tr → Prop
  | _, .txt z => okText 5 z
  | 0, .el _ _ => False
  | k + 1, .el n cs => n ∈ fourNames ∧ cs.length ≤ 3 ∧ apartT cs ∧ ∀ c ∈ cs, okTr k c

/-! ### a document as a text -/
def sL (l : List Nat) : Str := ⟨l.toArray⟩
theorem sL_list (l : List Nat) : (sL l).cps.toList = l := rfl
theorem sL_len (l : List Nat) : (sL l).length = l.length := by
  show l.toArray.size = _
  rw [List.size_toArray]
theorem sL_of (z : Str) : sL z.cps.toList = z := by
  cases z
  rfl
theorem sL_app (a b : List Nat) : sL a ++ sL b = sL (a ++ b) := by
  show (⟨a.toArray ++ b.toArray⟩ : Str) = ⟨(a ++ b).toArray⟩
  rw [List.append_toArray]
theorem sL_ext {x : Str} {l : List Nat} (h : x.cps.toList = l) : x = sL l := by rw [← h, sL_of]
def escC (c : Nat) : List Nat := if c = 60 then [38, 108, 116, 59] else if c = 62 then [38, 103, 116, 59] else if c = 38 then [38, 97, 109, 112, 59] else [c]
def escL (l : List Nat) : List Nat := l.flatMap escC
def esc (z : Str) : Str := sL (escL z.cps.toList)
theorem escC_len (c : Nat) : 1 ≤ (escC c).length ∧ (escC c).length ≤ 5 := by
  unfold escC
  split
  · exact ⟨by decide, by decide⟩
  split
  · exact ⟨by decide, by decide⟩
  split
  · exact ⟨by decide, by decide⟩
  · exact ⟨Nat.le_refl _, by show 1 ≤ 5; decide⟩
theorem escL_len : ∀ l : List Nat, (escL l).length ≤ 5 * l.length
  | [] => Nat.le_refl _
  | c :: l => by
    have h1 := escL_len l
    have h2 := (escC_len c).2
    show (escC c ++ escL l).length ≤ 5 * (l.length + 1)
    rw [List.length_append]
    omega
theorem repl_one (c : Nat) (z : List Nat) : ∀ l : List Nat, StrLaws.replL [c] z l = l.flatMap fun d => if d = c then z else [d]
  | [] => StrLaws.replL_nil
  | d :: l => by
    have ih := repl_one c z l
    rw [List.flatMap_cons]
    by_cases h : d = c
    · subst h
      rw [StrLaws.replL_hit (by simp) (by simp), if_pos rfl]
      show z ++ StrLaws.replL [d] z l = _
      rw [ih]
    · rw [StrLaws.replL_miss (by simpa using h), if_neg h, ih]
      rfl
theorem rep_c {x y z : Str} {c : Nat} (hy : y.cps.toList = [c]) : Txt.replace x y z = sL (x.cps.toList.flatMap fun d => if d = c then z.cps.toList else [d]) := by
  refine sL_ext ?_
  rw [StrLaws.replace_list (by show 1 ≤ y.cps.size; rw [← Array.length_toList, hy]; exact Nat.le_refl _), hy, repl_one]
theorem esc_three (x : Str) : Txt.replace (Txt.replace (Txt.replace x "&" "&amp;") "<" "&lt;") ">" "&gt;" = esc x := by
  have h1 : ("&" : Str).cps.toList = [38] := by decide +kernel
  have h2 : ("<" : Str).cps.toList = [60] := by decide +kernel
  have h3 : (">" : Str).cps.toList = [62] := by decide +kernel
  have g1 : ("&amp;" : Str).cps.toList = [38, 97, 109, 112, 59] := by decide +kernel
  have g2 : ("&lt;" : Str).cps.toList = [38, 108, 116, 59] := by decide +kernel
  have g3 : ("&gt;" : Str).cps.toList = [38, 103, 116, 59] := by decide +kernel
  rw [rep_c h1, rep_c h2, rep_c h3, sL_list, sL_list, g1, g2, g3]
  unfold esc escL
  congr 1
  rw [List.flatMap_assoc, List.flatMap_assoc]
  congr 1
  funext c
  unfold escC
  by_cases a : c = 60
  · subst a; rfl
  by_cases b : c = 62
  · subst b; rfl
  by_cases d : c = 38
  · subst d; rfl
  simp [a, b, d]
theorem join0 (ys : List Str) : Txt.join ⟨#[]⟩ ys = sL (ys.map (·.cps.toList)).flatten := by
  refine sL_ext ?_
  rw [TL.join_eq, show (Str.join ⟨#[]⟩ ys).cps.toList = TL.tl (Str.join ⟨#[]⟩ ys) from rfl, TL.tl_join]
  show TL.joinL [] (ys.map TL.tl) = (ys.map TL.tl).flatten
  generalize ys.map TL.tl = l
  induction l with
  | nil => rfl
  | cons p r ih =>
    cases r with
    | nil => simp [TL.joinL]
    | cons q r =>
      show p ++ ([] ++ TL.joinL [] (q :: r)) = _
      rw [ih, List.nil_append]
      rfl
mutual
/-- the written document; b: no element without parts in short -/
def wr (b : Bool) : Tr → List Nat
  | .txt z => escL z.cps.toList
  | .el n cs => if cs.isEmpty && !b then [60] ++ n.cps.toList ++ [47, 62] else [60] ++ n.cps.toList ++ [62] ++ wrs b cs ++ [60, 47] ++ n.cps.toList ++ [62]
def wrs (b : Bool) : List Tr → List Nat
  | [] => []
  | c :: cs => wr b c ++ wrs b cs
end
theorem wrs_flat (b : Bool) : ∀ cs : List Tr, wrs b cs = (cs.map (wr b)).flatten
  | [] => by rw [wrs]; rfl
  | c :: cs => by rw [wrs, wrs_flat b cs, List.map_cons, List.flatten_cons]
theorem name_len {n : Str} (h : n ∈ fourNames) : n.cps.toList.length ≤ 12 := by
  have : fourNames.all (fun n => decide (n.cps.toList.length ≤ 12)) = true := by decide +kernel
  exact of_decide_eq_true (List.all_eq_true.mp this n h)
def bnd : Nat → Nat
  | 0 => 25
  | k + 1 => 29 + 3 * bnd k
theorem bnd_lo : ∀ k, 25 ≤ bnd k
  | 0 => Nat.le_refl _
  | k + 1 => by
    have := bnd_lo k
    rw [bnd]
    omega
theorem flat_le {m : Nat} : ∀ {l : List (List Nat)}, (∀ x ∈ l, x.length ≤ m) → l.flatten.length ≤ l.length * m
  | [], _ => by simp
  | x :: l, h => by
    have h1 := h x (List.mem_cons_self ..)
    have h2 := flat_le (l := l) fun y hy => h y (List.mem_cons_of_mem _ hy)
    rw [List.flatten_cons, List.length_append, List.length_cons, Nat.succ_mul]
    omega
theorem wr_len (b : Bool) : ∀ {k : Nat} {t : Tr}, okTr k t → (wr b t).length ≤ bnd k
  | k, .txt z, h => by
    have h' : okText 5 z := by cases k <;> exact h
    have h1 := escL_len z.cps.toList
    have h2 : z.cps.toList.length ≤ 5 := by rw [Array.length_toList]; exact h'.2.1
    have h3 := bnd_lo k
    rw [wr]
    omega
  | 0, .el _ _, h => h.elim
  | k + 1, .el n cs, h => by
    obtain ⟨h1, h2, _, h4⟩ := h
    have hn := name_len h1
    rw [wr]
    split
    · have := bnd_lo (k + 1)
      simp only [List.length_append, List.length_cons, List.length_nil]
      omega
    · have h5 : (wrs b cs).length ≤ 3 * bnd k := by
        rw [wrs_flat]
        have := flat_le (l := cs.map (wr b)) (m := bnd k) fun x hx => by
          obtain ⟨c, hc, rfl⟩ := List.mem_map.mp hx
          exact wr_len b (h4 c hc)
        rw [List.length_map] at this
        exact Nat.le_trans this (Nat.mul_le_mul_right _ h2)
      simp only [List.length_append, List.length_cons, List.length_nil]
      rw [bnd]
      omega
theorem bnd_le {k : Nat} (h : k ≤ 5) : bnd k ≤ 10000 := by
  have : ∀ k, k ≤ 5 → bnd k ≤ 10000 := by decide
  exact this k h
end Tp


set_option Elab.async false
set_option linter.all false
set_option maxRecDepth 100000
set_option maxHeartbeats 4000000
namespace Tp
open PySem PySem.Spec PyProof.Rows L2 Evl
/-! ### texts, read from the left -/
/-- what stands from i on -/
def remS (z : Str) (i : Nat) (l : List Nat) : Prop := i ≤ z.cps.size ∧ z.cps.toList.drop i = l
theorem remS.len {z : Str} {i : Nat} {l : List Nat} (h : remS z i l) : i + l.length = z.cps.size := by
  have := congrArg List.length h.2
  rw [List.length_drop, Array.length_toList] at this
  have := h.1
  omega
theorem remS.adv {z : Str} {i : Nat} {a l : List Nat} (h : remS z i (a ++ l)) : remS z (i + a.length) l := by
  have h1 := h.len
  rw [List.length_append] at h1
  refine ⟨by omega, ?_⟩
  rw [← List.drop_drop, h.2, List.drop_left]
theorem remS.ne {z : Str} {i c : Nat} {l : List Nat} (h : remS z i (c :: l)) : i < z.cps.size ∧ z.cps.toList[i]? = some c := by
  have h1 := h.len
  rw [List.length_cons] at h1
  refine ⟨by omega, ?_⟩
  have := congrArg (fun l => l[0]?) h.2
  simpa using this
theorem sw3 {z y : Str} {i : Nat} {l : List Nat} (h : remS z i l) : Txt.startswith3 z y (i : Int) = decide (l.take y.cps.toList.length = y.cps.toList) := by
  have hi := h.1
  have h1 := h.len
  have hf : fromIndex z.length (i : Int) = i := by
    unfold fromIndex
    rw [if_neg (by omega)]
    omega
  unfold Txt.startswith3
  rw [hf, StrLaws.subAt_eq, h.2]
  have hy : y.length = y.cps.toList.length := Array.length_toList.symm
  have hz : z.length = z.cps.size := rfl
  by_cases e : l.take y.cps.toList.length = y.cps.toList
  · have h2 := congrArg List.length e
    rw [List.length_take] at h2
    rw [decide_eq_true e, hy, e]
    simp
    rw [hz]
    have : y.cps.toList.length = y.cps.size := Array.length_toList
    omega
  · rw [decide_eq_false e, hy]
    simp only [Bool.and_eq_false_iff]
    refine .inr ?_
    simpa using e
theorem lt1 (a c : Nat) : (!decide ([c] < [a])) = decide (a ≤ c) := by
  have e : ([c] < [a]) ↔ c < a := by
    rw [List.cons_lt_cons_iff]
    constructor
    · rintro (h | ⟨_, h⟩)
      · exact h
      · cases h
    · exact fun h => .inl h
  by_cases h : c < a
  · rw [decide_eq_true (e.mpr h), decide_eq_false (by omega)]
    rfl
  · rw [decide_eq_false (fun z => h (e.mp z)), decide_eq_true (by omega)]
    rfl
theorem val_chS {σ : L2.St} {H : Hp} {te : TE} {za zb : Str} {a b c : Nat} (h : Val te σ H (.str (sL [c]))) (ea : za.cps.toList = [a]) (eb : zb.cps.toList = [b]) :
    Val (tChain (fun x y H Q => ∃ i j, x = V.str i ∧ y = V.str j ∧ Q (V.bl !decide (j.cps.toList < i.cps.toList)) H) (fun x y H Q => ∃ i j, x = V.str i ∧ y = V.str j ∧ Q (V.bl !decide (j.cps.toList < i.cps.toList)) H) (tC (.str za)) te (tC (.str zb))) σ H (.bl (decide (a ≤ c) && decide (c ≤ b))) := fun Q q => by
  refine h _ ⟨_, _, rfl, rfl, _, rfl, ?_⟩
  rw [ea, sL_list, lt1]
  by_cases e : a ≤ c
  · rw [decide_eq_true e] at q ⊢
    refine iteT ⟨_, _, rfl, rfl, ?_⟩
    rw [eb, sL_list, lt1]
    exact q
  · rw [decide_eq_false e] at q ⊢
    exact iteF q
theorem remS.get {z : Str} {i j : Nat} {l : List Nat} (h : remS z i l) : z.cps.toList[i + j]? = l[j]? := by rw [← h.2, List.getElem?_drop]
theorem remS.drop {z : Str} {i k : Nat} {l : List Nat} (h : remS z i l) (hk : k ≤ l.length) : remS z (i + k) (l.drop k) := by
  have h1 := h.len
  exact ⟨by omega, by rw [← h.2, List.drop_drop]⟩
theorem remS.one {z : Str} {i c : Nat} {l : List Nat} (h : remS z i (c :: l)) : remS z (i + 1) l := h.drop (k := 1) (by simp)
/-- a piece of it -/
theorem remS.cut {z : Str} {i k : Nat} {l : List Nat} (h : remS z i l) : cutS z (some (i : Int)) (some ((i + k : Nat) : Int)) = sL (l.take k) := by
  have h1 := h.len
  have hz : z.length = z.cps.size := rfl
  refine sL_ext ?_
  unfold cutS
  have e1 : HT.sIx z.length 0 (some (i : Int)) = i := by
    rw [HT.sIx_nat]
    omega
  have e2 : HT.sIx z.length z.length (some ((i + k : Nat) : Int)) = min (i + k) z.cps.size := by
    rw [HT.sIx_nat]
    rfl
  rw [e1, e2]
  show (z.cps.toList.drop i).take _ = _
  rw [h.2]
  by_cases hk : i + k ≤ z.cps.size
  · rw [Nat.min_eq_left hk, show i + k - i = k by omega]
  · rw [Nat.min_eq_right (by omega), List.take_of_length_le (by omega), List.take_of_length_le (by omega)]
end Tp


set_option Elab.async false
set_option linter.all false
set_option maxRecDepth 100000
set_option maxHeartbeats 4000000
/-! The head with written dicts and with the tables of code objects. -/
namespace Tp
open PySem PySem.Spec PyProof.Rows L2 Evl
abbrev moreB (fx : List Fx) : PySem.W.Frag → Bool := fun K => fx.all fun f => f.ok K
theorem txt_ofY {fa : List He.Fa} {fn : List He.DefD} {ts : List He.Tab} {tf : List He.Defn} {fx : List Fx} {w : World} {K : PySem.W.Frag} {mg : Str → Option Value} {h g : Heap} (X : K.In h) (G : h.Ns mainGlobals mg) (c : He.SaysX fa fn ts tf (moreB fx) w g K) : Txt fa fn fx K mg :=
  ⟨fun i f e => c.t.d.fact i e, fun i d e => c.t.d.def_ i e, fun i f e => List.all_eq_true.mp c.more f (List.mem_of_getElem? e), fun i x e => He.glo_ok X G (c.t.d.fact i e), fun i x e => He.free_ok X G (c.t.d.fact i e),
    fun i x n e => He.int_ok X G (c.t.d.fact i e), fun i x z e => He.str_ok X G (c.t.d.fact i e)⟩
/-- the written dicts: their keys and hashes -/
def Dics (ts : List He.Tab) (w : World) (K : PySem.W.Frag) : Prop := ∀ (i : Nat) (t : He.Tab), ts[i]? = some t → He.dicW K (t.1 K) = some (He.keysIn w.params t.2)
theorem dics_of {fa : List He.Fa} {fn : List He.DefD} {ts : List He.Tab} {w : World} {K : PySem.W.Frag} (c : He.SaysT fa fn ts w K) : Dics ts w K := fun i t h => by
  have e : ts.map (fun t => He.dicW K (t.1 K)) = ts.map fun t => some (He.keysIn w.params t.2) := congrArg (fun z : He.AlT => z.2) c
  have e2 := congrArg (fun l => l[i]?) e
  simp only [List.getElem?_map, h] at e2
  exact Option.some.inj e2
theorem no_key {P : Params} {x : Str} : ∀ {l : List DictEntry} {ks : List Str}, l.map He.keyOf = He.keysIn P ks → x ∉ ks → l.find? (·.key.isStr x) = none ∧ l.any (·.refKey) = false
  | [], _, _, _ => ⟨rfl, rfl⟩
  | e :: r, [], h, _ => by cases h
  | e :: r, k :: ks, h, hx => by
    have h1 : He.keyOf e :: r.map He.keyOf = some (k, PyData.keyHash P k) :: He.keysIn P ks := h
    injection h1 with h2 h3
    obtain ⟨i1, i2⟩ := no_key h3 fun z => hx (List.mem_cons_of_mem _ z)
    unfold He.keyOf at h2
    split at h2
    · rename_i y t q
      obtain ⟨h5, _⟩ := Prod.mk.inj (Option.some.inj h2)
      have n1 : e.key.isStr x = false := by
        rw [q, PySem.W.isStr_of]
        show Value.isStrOf x (.str y t) = false
        unfold Value.isStrOf
        have : ¬ y = x := fun z => hx (by rw [← z, h5]; exact List.mem_cons_self ..)
        simpa using this
      have n2 : e.refKey = false := by
        unfold DictEntry.refKey
        rw [q]
      refine ⟨?_, ?_⟩
      · rw [List.find?_cons, n1]
        exact i1
      · rw [List.any_cons, n2, i2]
        rfl
    · cases h2
theorem dic_no {K : PySem.W.Frag} {P : Params} {a : Addr} {ks : List Str} {x : Str} (h : He.dicW K a = some (He.keysIn P ks)) (hx : x ∉ ks) : PySem.W.nsIn K a x = some none := by
  unfold He.dicW at h
  split at h
  · rename_i c es n sl q
    split at h
    · obtain ⟨h1, h2⟩ := no_key (Option.some.inj h) hx
      unfold PySem.W.nsIn
      rw [q]
      dsimp only
      rw [h1]
      dsimp only
      rw [if_neg (by rw [h2]; nofun)]
    · cases h
  · cases h
/-- d.get(k), d a written dict with text keys -/
def tKGet (K : PySem.W.Frag) (w : World) (td ty : TE) : TE := fun σ H Q => td σ H fun x H1 => ∃ (a : Addr) (es : Array DictEntry) (n : Nat), x = .ref a ∧ KDict K w a es n ∧ ty σ H1 fun y H2 =>
  ∃ (z : Str) (r : Option Value) (v : V), y = .str z ∧ PySem.W.nsIn K a z = some r ∧ RelV v (r.getD .none) ∧ Q v H2
section
variable {X : Cx} (K : PySem.W.Frag) (w : World)
theorem kget1 (hK : X.K = K) (hw : X.w = w) {o e : Expr} {apos cpos : Pos} {td ty : TE} (ho : PE X o td) (he : PE X e ty) (m : M1 X o "get" apos e cpos) : PE X (.Call (.Attribute o "get" apos) [e] [] cpos) (tKGet K w td ty) := by
  subst hK
  subst hw
  refine ⟨fun pins s σ H Q I h => wpAny_Call_method m.base m.few m.line PySem.F.plainAttrs_dict PySem.F.slot_dict_get PySem.F.type_dict_get (thn (ho.run pins s σ H _ I h) fun u s1 ⟨x, H1, I1, rx, a, es, n, ex, D, q1⟩ => ?_)⟩
  subst ex
  obtain rfl : u = Value.ref a := rx
  have hm1 := PySem.W.mapOf_K (prog := X.prog) (w := X.w) I1.kIn D.at_ D.lit
  refine ⟨hm1.typeIs, fun b q => ?_, ?_⟩
  · cases q
    exact ⟨_, I1.kIn _ _ D.at_, rfl⟩
  rw [m.trees]
  refine Calls.callWith_builtin rfl (Calls.evalArgs_plain (Calls.spliced_cons (thn (he.run pins s1 σ H1 _ I1 q1) fun iv s2 ⟨y, H2, I2, ry, z, r, v, ey, er, rv, q2⟩ => Calls.spliced_nil ?_)))
  subst ey
  obtain ⟨t, rfl⟩ := (show ∃ t, iv = Value.str z t from ry)
  have hm2 := PySem.W.mapOf_K (prog := X.prog) (w := X.w) I2.kIn D.at_ D.lit
  refine call_meetsIn PySem.F.slot_dict_get hm2.typeIs PySem.F.entry_dict_get (PySem.F.args_dict_get_2 _ _) (meets_dict_get (strKind X.prog X.w) a (strKind_is X.prog X.w z t) D.low) ⟨_, hm2, v, H2, I2.tok _, ?_, q2⟩
  rw [PySem.W.find_K D.at_ er]
  exact rv
theorem ixKD (hK : X.K = K) (hw : X.w = w) : IxR X (rIxD K w) := by
  subst hK
  subst hw
  exact ix_kdict
end
/-! ### text times number -/
def repS (n : Nat) (z : Str) : Str := ⟨(List.replicate n z.cps).foldl (· ++ ·) #[]⟩
theorem fold_app : ∀ (n : Nat) (a b : Array Nat), ((List.replicate n a).foldl (· ++ ·) b).toList = b.toList ++ (List.replicate n a.toList).flatten
  | 0, a, b => by simp
  | n + 1, a, b => by
    rw [List.replicate_succ, List.foldl_cons, fold_app n, List.replicate_succ, List.flatten_cons, Array.toList_append, List.append_assoc]
theorem repS_list (n : Nat) (z : Str) : (repS n z).cps.toList = (List.replicate n z.cps.toList).flatten := by
  show ((List.replicate n z.cps).foldl (· ++ ·) #[]).toList = _
  rw [fold_app]
  rfl
theorem op_mulS {X : Cx} : OpR X (binaryOp .Mult) (fun x y H Q => ∃ (z : Str) (n : Int), x = .str z ∧ y = .int n ∧ 0 ≤ n ∧ n ≤ 300000 ∧ 1 ≤ z.length ∧ z.length ≤ 50 ∧ Q (.str (repS n.toNat z)) H) := by
  intro pins s σ H x y v u Q I rx ry h
  obtain ⟨z, n, rfl, rfl, n0, n1, z0, z1, q⟩ := h
  obtain ⟨t, rfl⟩ := rx
  obtain ⟨t', rfl⟩ := ry
  have hlen : z.length * n.toNat ≤ 50 * 300000 := Nat.mul_le_mul z1 (by omega)
  refine PySem.P.mul_str ?_ (fun h1 _ => ?_) (fun _ _ => ?_) ?_
  · rw [decide_eq_false (by omega), decide_eq_false (by omega)]
    rfl
  · have h2 : (50 : Int) ≤ (2 ^ 63 - 1) / n := by
      rw [Int.le_ediv_iff_mul_le (by omega)]
      omega
    omega
  · unfold Builtin.Str.tooLong
    exact decide_eq_false (by have : 50 * 300000 ≤ sizeLine := by decide
                              omega)
  · by_cases a : n < 1
    · rw [if_pos a]
      have : n.toNat = 0 := by omega
      rw [this] at q
      exact ⟨by decide, .str (repS 0 z), H, I.tok _, ⟨_, rfl⟩, q⟩
    · rw [if_neg a]
      by_cases b : n = 1
      · subst b
        have e : repS 1 z = z := by
          show (⟨#[] ++ z.cps⟩ : Str) = z
          rw [Array.empty_append]
        rw [show ((1 : Int) == 1 || z.length == 0) = true from rfl, if_pos rfl]
        refine ⟨.str z, H, I, ⟨_, rfl⟩, ?_⟩
        rw [show (1 : Int).toNat = 1 from rfl, e] at q
        exact q
      · have c : (n == 1 || z.length == 0) = false := by
          rw [Bool.or_eq_false_iff]
          exact ⟨by simpa using b, by have : z.length ≠ 0 := by omega
                                      simpa using this⟩
        rw [c, if_neg nofun]
        refine ⟨?_, .str (repS n.toNat z), H, I.tok _, ⟨_, rfl⟩, q⟩
        have e := congrArg List.length (repS_list n.toNat z)
        rw [Array.length_toList, List.length_flatten, List.map_replicate, List.sum_replicate_nat, Array.length_toList] at e
        have h8 : n.toNat * z.cps.size = z.length * n.toNat := Nat.mul_comm ..
        have h9 : 50 * 300000 ≤ sizeLine := by decide
        show (repS n.toNat z).cps.size ≤ sizeLine
        omega
/-! ### the law's end -/
theorem endsY {l : PySem.W.OpenLaw} {n k : Nat} {q : Program} {loose : List Str} {XP : (Str → Option Value) → Heap → Prop} {YP : World → Heap → Prop} {d : DefRec} {CX : World → CXT} {x : Str} {tf : List He.Defn}
    (hn : l.most = some n) (hn2 : n ≤ sizeLine) (hdf : d.params.defaults = []) (hr : Room k callerA)
    (F : ∀ (w : World) (mg : Str → Option Value) (fa : Addr) (h : Heap), YP w h → h.Ns mainGlobals mg → mg d.name = some (.ref fa) →
      ∃ (K : PySem.W.Frag) (fd : FuncData) (sp : Sp), K.In h ∧ (∀ p ∈ tf, PySem.W.codeHdIn K (He.cT K p).1 (He.cT K p).2 = true) ∧ (∀ p ∈ tf, K.lookup (He.cT K p).2 = none) ∧ (∀ p ∈ tf, h.get? (He.cT K p).2 = some { cls := .none, data := .fields #[] }) ∧ (∀ (s : Shared) (u : Value), BindsTo s fd ⟨[u], []⟩ [(x, u)]) ∧
        (∀ (H : Hp) (a : Addr) (ns : List Int), ns.length ≤ n → (∀ z ∈ ns, Builtin.Int.intBits z ≤ 1048576) → (∀ p ∈ tf, H (He.cT K p).2 = some (.tbl #[])) → SqL K H a (ns.map V.int) → sp [.ref a] H (fun v _ => v = .bl true) fun _ _ _ => False) ∧
        ∀ base : Heap, K.In base → base.Ns mainGlobals mg → (∀ p ∈ tf, LamX.TabB base mg (He.cT K p).1 (He.cT K p).2) → FnOk l.prog w K mg base (CX w) k fa fd [x] sp)
    (hCX : ∀ (w : World) (H : Hp) (s : Shared) (e : Value) (s' : Shared), CX w [] H s (fun _ _ _ => False) e s' → False) :
    PySem.W.WalkO q loose XP YP l.row.toRowW d [] (fun f vs => PySem.call f vs) :=
  LamX.walk_ofTsE hn hn2 hdf hr (fun w mg fa h Y G hm => by
    obtain ⟨K, fd, sp, KX, a1, a2, a3, hb, hsp, hF⟩ := F w mg fa h Y G hm
    have mem : ∀ p ∈ tf.map (He.cT K), ∃ q ∈ tf, He.cT K q = p := fun p hp => List.mem_map.mp hp
    exact ⟨K, KX, fd, tf.map (He.cT K), sp, fun p hp => by obtain ⟨q, h1, rfl⟩ := mem p hp; exact a3 q h1, fun p hp => by obtain ⟨q, h1, rfl⟩ := mem p hp; exact a2 q h1, fun p hp => by obtain ⟨q, h1, rfl⟩ := mem p hp; exact PySem.W.codeHd_of_K KX (a1 q h1), hb,
      fun H a ns h1 h2 h3 h4 => hsp H a ns h1 h2 (fun p hp => h3 _ (List.mem_map.mpr ⟨p, hp, rfl⟩)) h4, fun base h1 h2 h3 => hF base h1 h2 fun p hp => h3 _ (List.mem_map.mpr ⟨p, hp, rfl⟩)⟩) hCX
end Tp


set_option Elab.async false
set_option linter.all false
set_option maxRecDepth 100000
set_option maxHeartbeats 4000000
namespace Tp
open PySem PySem.Spec PyProof.Rows L2 Evl
/-! ### a question's text, as it is to be read -/
/-- read to i, l is left, m steps; or the column and the reason -/
inductive QR where
  | ok (l : List Nat) (i m : Nat)
  | no (c : Nat) (r : Str)
def letB (c : Nat) : Bool := Nat.ble 97 c && Nat.ble c 122
def digB (c : Nat) : Bool := Nat.ble 48 c && Nat.ble c 57
def runL (p : Nat → Bool) : List Nat → Nat
  | [] => 0
  | c :: l => bif p c then runL p l + 1 else 0
theorem runL_le (p : Nat → Bool) : ∀ l : List Nat, runL p l ≤ l.length
  | [] => Nat.le_refl _
  | c :: l => by
    have := runL_le p l
    rw [runL, List.length_cons]
    cases p c with
    | true => exact Nat.succ_le_succ this
    | false => exact Nat.zero_le _
/-- at j < run stands such a sign, at the run's end none -/
theorem runL_at (p : Nat → Bool) : ∀ (l : List Nat) (j : Nat), (j < runL p l → ∃ c, l[j]? = some c ∧ p c = true) ∧ (j = runL p l → ∀ c, l[j]? = some c → p c = false)
  | [], j => ⟨fun h => absurd h (Nat.not_lt_zero _), fun _ c h => by cases h⟩
  | c :: l, j => by
    rw [runL]
    cases hp : p c with
    | false => exact ⟨fun h => absurd h (Nat.not_lt_zero _), fun h d hd => by
        have : j = 0 := h
        subst this
        cases hd
        exact hp⟩
    | true =>
      show (j < runL p l + 1 → _) ∧ (j = runL p l + 1 → _)
      cases j with
      | zero => exact ⟨fun _ => ⟨c, rfl, hp⟩, fun h => by cases h⟩
      | succ j =>
        obtain ⟨h1, h2⟩ := runL_at p l j
        exact ⟨fun h => h1 (by omega), fun h d hd => h2 (by omega) d hd⟩
def qTest (l : List Nat) (i m : Nat) : QR := if l.head? = some 42 ∨ l.head? = some 35 then .ok l.tail (i + 1) m else
  if 1 ≤ runL letB l ∧ runL letB l ≤ 12 then .ok (l.drop (runL letB l)) (i + runL letB l) m else .no (i + 1) "test"
def qNum (below : Bool) (l : List Nat) (i m : Nat) : QR :=
  if below = true ∨ 4 < runL digB l ∨ 5000 < NumText.digitsVal (l.take (runL digB l)) then .no (i + 1) "number" else .ok (l.drop (runL digB l)) (i + runL digB l) m
inductive SR where
  | bad (c : Nat)
  | fin (l : List Nat) (i n : Nat)
def qStr : List Nat → Nat → Nat → SR
  | [], i, n => .fin [] i n
  | [c], i, n => if c = 34 then .fin [c] i n else if c = 92 then .fin [] (i + 1) (n + 1) else if 32 ≤ c ∧ c ≤ 126 then .fin [] (i + 1) (n + 1) else .bad (i + 1)
  | c :: e :: l, i, n => if c = 34 then .fin (c :: e :: l) i n else if c = 92 then (if e = 34 ∨ e = 92 ∨ e = 110 then qStr l (i + 2) (n + 1) else .bad (i + 2))
    else if 32 ≤ c ∧ c ≤ 126 then qStr (e :: l) (i + 1) (n + 1) else .bad (i + 1)
/-- one sign of a string -/
def qSg (c : Nat) (r : List Nat) (i : Nat) : SR := if c = 92 then (match r with
  | [] => .fin [] (i + 1) 0
  | e :: r' => if e = 34 ∨ e = 92 ∨ e = 110 then .fin r' (i + 2) 0 else .bad (i + 2)) else if 32 ≤ c ∧ c ≤ 126 then .fin r (i + 1) 0 else .bad (i + 1)
theorem qStr_nil (i n : Nat) : qStr [] i n = .fin [] i n := by rw [qStr]
theorem qStr_end (r : List Nat) (i n : Nat) : qStr (34 :: r) i n = .fin (34 :: r) i n := by
  cases r with
  | nil => rw [qStr, if_pos rfl]
  | cons e r => rw [qStr, if_pos rfl]
theorem qStr_step {c : Nat} (hc : c ≠ 34) (r : List Nat) (i n : Nat) : qStr (c :: r) i n = match qSg c r i with
    | .bad k => .bad k
    | .fin l' i' _ => qStr l' i' (n + 1) := by
  unfold qSg
  cases r with
  | nil =>
    rw [qStr, if_neg hc]
    split
    · dsimp only
      rw [qStr_nil]
    · split
      · dsimp only
        rw [qStr_nil]
      · rfl
  | cons e r =>
    rw [qStr, if_neg hc]
    split
    · dsimp only
      split <;> rfl
    · split <;> rfl
def qString (l : List Nat) (i m : Nat) : QR := match qStr l.tail (i + 1) 0 with
  | .bad c => .no c "sign"
  | .fin r j n => if r.head? = some 34 ∧ 1 ≤ n ∧ n ≤ 40 then .ok r.tail (j + 1) m else .no (i + 1) "string"
def qClose : QR → QR
  | .no c r => .no c r
  | .ok l i m => if l.head? = some 93 then .ok l.tail (i + 1) m else .no (i + 1) "close"
def qFilter (steps : List Nat → Nat → Nat → QR) (below : Bool) (l : List Nat) (i m : Nat) : QR := qClose
  (if l.tail.head? = some 47 then steps l.tail (i + 1) m else if l.tail.head? = some 34 then qString l.tail (i + 1) m else
    if (match l.tail.head? with | some c => Nat.ble 49 c && Nat.ble c 57 | none => false) = true then qNum below l.tail (i + 1) m else .no (i + 2) "filter")
def qLoop (c : Nat) (step : List Nat → Nat → Nat → QR) : Nat → List Nat → Nat → Nat → QR
  | 0, l, i, m => .ok l i m
  | f + 1, l, i, m => if l.head? = some c then (match step l i m with
    | .ok l' i' m' => qLoop c step f l' i' m'
    | .no k r => .no k r) else .ok l i m
def qThen (a : QR) (f : List Nat → Nat → Nat → QR) : QR := match a with
  | .ok l i m => f l i m
  | .no c r => .no c r
def qAxis (l : List Nat) : Bool := decide (l.tail.head? = some 47)
def qStep (steps : List Nat → Nat → Nat → QR) (deep : Bool) (l : List Nat) (i m : Nat) : QR :=
  if l.head? = some 47 then (if m = 12 then .no (i + 1) "steps" else if deep = true then .no (i + 1) "deep" else
    qThen (qTest (l.drop (bif qAxis l then 2 else 1)) (i + (bif qAxis l then 2 else 1)) (m + 1)) fun l' i' m' => qLoop 91 (qFilter steps (qAxis l)) (l'.length + 1) l' i' m')
  else .no (i + 1) "step"
def qMany (step : List Nat → Nat → Nat → QR) (l : List Nat) (i m : Nat) : QR := qThen (step l i m) fun l' i' m' => qLoop 47 step (l'.length + 1) l' i' m'
/-- k: how many more may stand within one another -/
def qSteps : Nat → List Nat → Nat → Nat → QR
  | 0 => qMany (qStep (fun _ _ _ => .no 0 "") true)
  | k + 1 => qMany (qStep (qSteps k) false)
def qStepK : Nat → List Nat → Nat → Nat → QR
  | 0 => qStep (fun _ _ _ => .no 0 "") true
  | k + 1 => qStep (qSteps k) false
theorem qSteps_eq (k : Nat) : qSteps k = qMany (qStepK k) := by cases k <;> rfl
def qAll (l : List Nat) : QR := qThen (qSteps 3 l 0 0) fun l' i' m' => if l' = [] then .ok l' i' m' else .no (i' + 1) "end"
end Tp


set_option Elab.async false
set_option linter.all false
set_option maxRecDepth 100000
set_option maxHeartbeats 4000000
namespace Tp
open PySem PySem.Spec PyProof.Rows L2 Evl
/-! ### own exceptions with three fields -/
def spX3 (K : PySem.W.Frag) (C : Addr) (f g h : Str) : Sp := fun vs H Q _ => ∃ (a : Addr) (y z u : V), vs = [.ref a, y, z, u] ∧ OexC K C ∧ PySem.W.findIn K (.ref C) f = some none ∧ PySem.W.findIn K (.ref C) g = some none ∧ PySem.W.findIn K (.ref C) h = some none ∧ H a = some (exo a C none) ∧
  ∀ dx, H dx = none → dx ≠ a → Q .non (upd (upd (upd H dx (exd dx [(f, y)])) a (exo a C (some dx))) dx (exd dx [(h, u), (g, z), (f, y)]))
theorem made3 {K : PySem.W.Frag} {C : Addr} {f g h : Str} {y z u : V} {H : Hp} {Q : XK} (T : OexC K C) (hf : PySem.W.findIn K (.ref C) f = some none) (hg : PySem.W.findIn K (.ref C) g = some none) (hh : PySem.W.findIn K (.ref C) h = some none) (k : ∀ d, H d = none → Q (.ref C) (some d) (upd H d (.xd [(h, u), (g, z), (f, y)]))) :
    [y, z, u].length ≤ 1000 ∧ ∀ a, H a = none → spX3 K C f g h (.ref a :: ([y, z, u] ++ [])) (upd H a (exo a C none)) (fun v H2 => v = .non ∧ ∃ (d : Addr) (fs : List (Str × V)), H2 a = some (exo a C (some d)) ∧ H2 d = some (exd d fs) ∧ H d = none ∧ Q (.ref C) (some d) (upd (L2.del H2 a) d (.xd fs))) (fun _ _ _ => False) := by
  refine ⟨by show 3 ≤ 1000; decide, fun a hn => ⟨a, y, z, u, rfl, T, hf, hg, hh, upd_same, fun dx hd ne => ⟨rfl, dx, _, by rw [upd_ne (Ne.symm ne), upd_same], upd_same, ?_, ?_⟩⟩⟩
  · rw [upd_ne ne] at hd
    exact hd
  · rw [exo_end2 hn ne]
    rw [upd_ne ne] at hd
    exact k dx hd
theorem st_raise3 {K : PySem.W.Frag} {σ : L2.St} {H : Hp} {ta tb tc : TE} {W : WX} {C : Addr} {f g h : Str} {y z u : V} (T : OexC K C) (hf : PySem.W.findIn K (.ref C) f = some none) (hg : PySem.W.findIn K (.ref C) g = some none) (hh : PySem.W.findIn K (.ref C) h = some none)
    (h1 : Val ta σ H y) (h2 : Val tb σ H z) (h3 : Val tc σ H u) (q : ∀ d, H d = none → W (.ref C) (some d) σ (upd H d (.xd [(h, u), (g, z), (f, y)]))) :
    tMkO C (spX3 K C f g h) [] (tCons ta (tCons tb (tCons tc tNil))) σ H (fun cls d H' => W cls d σ H') := h1 _ (h2 _ (h3 _ (made3 (Q := fun cls d H' => W cls d σ H') T hf hg hh q)))
end Tp


set_option Elab.async false
set_option linter.all false
set_option maxRecDepth 100000
set_option maxHeartbeats 4000000
namespace Tp
open PySem PySem.Spec PyProof.Rows L2 Evl
/-! ### a document's text, as it is to be read -/
abbrev Fram : Type := PySem.Str × List Tr
/-- the open elements, what is left, where, how many nodes; or the place and the reason -/
inductive RR where
  | ok (F : List Fram) (l : List Nat) (i n : Nat)
  | no (i : Nat) (r : PySem.Str)
def sgB (c : Nat) : Bool := Nat.beq c 10 || (Nat.ble 32 c && Nat.ble c 126)
/-- the reason that is told at what is left -/
def why (l : List Nat) (r : PySem.Str) : PySem.Str := match l with
  | [] => "open"
  | c :: _ => bif sgB c then r else "character"
def rdNext (l : List Nat) : Option (List Nat × Nat × Nat) := if l.take 4 = [38, 108, 116, 59] then some (l.drop 4, 4, 60) else if l.take 4 = [38, 103, 116, 59] then some (l.drop 4, 4, 62) else
  if l.take 5 = [38, 97, 109, 112, 59] then some (l.drop 5, 5, 38) else match l with
    | [] => none
    | c :: r => bif sgB c && !(Nat.beq c 38) && !(Nat.beq c 62) then some (r, 1, c) else none
inductive TR where
  | ok (z : List Nat) (l : List Nat) (i n : Nat)
  | no (i : Nat) (r : PySem.Str)
/-- may one more node stand here? -/
def cntR (d : Nat) (l : List Nat) (n : Nat) : Option PySem.Str := if 60 < d then some (why l "deep") else if n = 5000 then some (why l "many") else none
def rdText (d : Nat) : Nat → List Nat → List Nat → Nat → Nat → TR
  | 0, acc, l, i, n => .ok acc l i n
  | f + 1, acc, l, i, n => if l.head? = some 60 then .ok acc l i n else match rdNext l with
    | none => .no i (why l "sign")
    | some (r, k, s) => if acc.length = 200 then .no i (why l "long") else
      if acc = [] then (match cntR d l n with
        | some y => .no i y
        | none => rdText d f (acc ++ [s]) r (i + k) (n + 1)) else rdText d f (acc ++ [s]) r (i + k) n
def addK (F : List Fram) (t : Tr) : List Fram := match F with
  | [] => []
  | f :: r => (f.1, f.2 ++ [t]) :: r
def rdEndTag (F : List Fram) (l : List Nat) (i n : Nat) : RR := if l.head? = some 62 then .ok F l.tail (i + 1) n else .no i (why l "tag")
def nameOk (l : List Nat) : Bool := Nat.ble 1 (runL letB l) && Nat.ble (runL letB l) 12
def rdBegin (F : List Fram) (l : List Nat) (i n : Nat) : RR := if l.tail = [] then .no (i + 1) "open" else match cntR F.length l n with
  | some y => .no i y
  | none => bif nameOk l.tail then (
      let k := runL letB l.tail
      let nm := sL (l.tail.take k)
      let r := l.tail.drop k
      if r.head? = some 47 then rdEndTag (addK F (.el nm [])) r.tail (i + 1 + k + 1) (n + 1) else rdEndTag ((nm, []) :: F) r (i + 1 + k) (n + 1))
    else .no (i + 1) (why l.tail "name")
def popK (F : List Fram) : List Fram := match F with
  | f :: r => addK r (.el f.1 f.2)
  | [] => []
def topN (F : List Fram) : PySem.Str := match F with
  | f :: _ => f.1
  | [] => ""
def rdPop : RR → RR
  | .ok F l i n => .ok (popK F) l i n
  | .no i r => .no i r
def rdEnd (F : List Fram) (l : List Nat) (i n : Nat) : RR := bif nameOk (l.drop 2) then (
    let k := runL letB (l.drop 2)
    let nm := (l.drop 2).take k
    let r := (l.drop 2).drop k
    if nm ≠ (topN F).cps.toList ∧ ¬ (r = [] ∧ (topN F).cps.toList.take k = nm) then .no (i + 2) (why (l.drop 2) "end") else rdPop (rdEndTag F r (i + 2 + k) n))
  else .no (i + 2) (why (l.drop 2) "name")
def rdPart (F : List Fram) (l : List Nat) (i n : Nat) : RR := if l.take 2 = [60, 47] then rdEnd F l i n else if l.head? = some 60 then rdBegin F l i n else
  match rdText F.length (l.length + 1) [] l i n with
    | .ok z l' i' n' => .ok (addK F (.txt (sL z))) l' i' n'
    | .no j r => .no j r
def rdLoop : Nat → List Fram → List Nat → Nat → Nat → RR
  | 0, F, l, i, n => .ok F l i n
  | f + 1, F, l, i, n => if 1 < F.length then (match rdPart F l i n with
    | .ok F' l' i' n' => rdLoop f F' l' i' n'
    | .no j r => .no j r) else .ok F l i n
def rdRoot (l : List Nat) : RR := if l.head? = some 60 then rdBegin [("", [])] l 0 0 else .no 0 (why l "element")
def rdDoc (l : List Nat) : RR := match rdRoot l with
  | .no j r => .no j r
  | .ok F l1 i n => match rdLoop (l1.length + 1) F l1 i n with
    | .no j r => .no j r
    | .ok F' l2 i2 n2 => if l2 = [] then .ok F' l2 i2 n2 else .no i2 (why l2 "more")
theorem rdNext_len {l r : List Nat} {k s : Nat} (h : rdNext l = some (r, k, s)) : 1 ≤ k ∧ k ≤ l.length ∧ r = l.drop k ∧ sgB s = true := by
  unfold rdNext at h
  split at h
  · rename_i e
    cases h
    have := congrArg List.length e
    rw [List.length_take] at this
    exact ⟨by decide, by simp at this; omega, rfl, by decide⟩
  split at h
  · rename_i e
    cases h
    have := congrArg List.length e
    rw [List.length_take] at this
    exact ⟨by decide, by simp at this; omega, rfl, by decide⟩
  split at h
  · rename_i e
    cases h
    have := congrArg List.length e
    rw [List.length_take] at this
    exact ⟨by decide, by simp at this; omega, rfl, by decide⟩
  cases l with
  | nil => cases h
  | cons c r' =>
    dsimp only at h
    cases hc : (sgB c && !(Nat.beq c 38) && !(Nat.beq c 62)) with
    | false => rw [hc] at h; cases h
    | true =>
      rw [hc] at h
      cases h
      exact ⟨Nat.le_refl _, by rw [List.length_cons]; omega, rfl, (Bool.and_eq_true_iff.mp (Bool.and_eq_true_iff.mp hc).1).1⟩
theorem rdText_more {d : Nat} {y l' : List Nat} {i' n' : Nat} : ∀ (f : Nat) (acc l : List Nat) (i n : Nat), acc ≠ [] → rdText d f acc l i n = .ok y l' i' n' → n' = n ∧ l'.length ≤ l.length
  | 0, acc, l, i, n, _, h => by
    rw [rdText] at h
    cases h
    exact ⟨rfl, Nat.le_refl _⟩
  | f + 1, acc, l, i, n, ha, h => by
    rw [rdText] at h
    by_cases h1 : l.head? = some 60
    · rw [if_pos h1] at h
      cases h
      exact ⟨rfl, Nat.le_refl _⟩
    rw [if_neg h1] at h
    cases e : rdNext l with
    | none => rw [e] at h; cases h
    | some p =>
      obtain ⟨r, k, s⟩ := p
      rw [e] at h
      dsimp only at h
      obtain ⟨k1, k2, k3, _⟩ := rdNext_len e
      by_cases h2 : acc.length = 200
      · rw [if_pos h2] at h; cases h
      rw [if_neg h2, if_neg ha] at h
      obtain ⟨g1, g2⟩ := rdText_more f _ r _ n (by simp) h
      refine ⟨g1, ?_⟩
      rw [k3, List.length_drop] at g2
      omega
theorem rdText_first {d f : Nat} {l y l' : List Nat} {i n i' n' : Nat} (h1 : l.head? ≠ some 60) (h : rdText d (f + 1) [] l i n = .ok y l' i' n') : n' = n + 1 ∧ cntR d l n = none ∧ l'.length < l.length := by
  rw [rdText, if_neg h1] at h
  cases e : rdNext l with
  | none => rw [e] at h; cases h
  | some p =>
    obtain ⟨r, k, s⟩ := p
    rw [e] at h
    dsimp only at h
    obtain ⟨k1, k2, k3, _⟩ := rdNext_len e
    rw [if_neg (by decide), if_pos rfl] at h
    cases e2 : cntR d l n with
    | some y => rw [e2] at h; cases h
    | none =>
      rw [e2] at h
      obtain ⟨g1, g2⟩ := rdText_more f _ r _ _ (by simp) h
      refine ⟨g1, rfl, ?_⟩
      rw [k3, List.length_drop] at g2
      omega
/-- the last open element has something in it, unless others are open -/
def WB : List Fram → Prop
  | [] => False
  | [b] => b.2 ≠ []
  | _ :: _ :: _ => True
theorem addK_WB {F : List Fram} {t : Tr} (h : F ≠ []) : WB (addK F t) := by
  match F, h with
  | [f], _ => show f.2 ++ [t] ≠ []; simp
  | f :: g :: r, _ => trivial
theorem rdEndTag_eq {F : List Fram} {l : List Nat} {i n : Nat} {F' : List Fram} {l' : List Nat} {i' n' : Nat} (h : rdEndTag F l i n = .ok F' l' i' n') : F' = F := by
  unfold rdEndTag at h
  split at h
  · cases h; rfl
  · cases h
theorem rdBegin_WB {F : List Fram} {l : List Nat} {i n : Nat} {F' : List Fram} {l' : List Nat} {i' n' : Nat} (hF : F ≠ []) (h : rdBegin F l i n = .ok F' l' i' n') : WB F' := by
  unfold rdBegin at h
  split at h
  · cases h
  split at h
  · cases h
  cases q : nameOk l.tail with
  | false => rw [q] at h; cases h
  | true =>
    rw [q] at h
    simp only [cond_true] at h
    split at h
    · rw [rdEndTag_eq h]
      exact addK_WB hF
    · rw [rdEndTag_eq h]
      match F, hF with
      | f :: r, _ => trivial
theorem rdPart_WB {F : List Fram} {l : List Nat} {i n : Nat} {F' : List Fram} {l' : List Nat} {i' n' : Nat} (hF : 1 < F.length) (h : rdPart F l i n = .ok F' l' i' n') : WB F' := by
  obtain ⟨f, g, r, rfl⟩ : ∃ f g r, F = f :: g :: r := by
    match F, hF with
    | f :: g :: r, _ => exact ⟨f, g, r, rfl⟩
  unfold rdPart at h
  split at h
  · unfold rdEnd at h
    cases q : nameOk (l.drop 2) with
    | false => rw [q] at h; cases h
    | true =>
      rw [q] at h
      simp only [cond_true] at h
      split at h
      · cases h
      · unfold rdEndTag at h
        split at h
        · cases h
          exact addK_WB (F := g :: r) (by simp)
        · cases h
  split at h
  · exact rdBegin_WB (by simp) h
  · split at h
    · cases h
      trivial
    · cases h
end Tp


set_option Elab.async false
set_option linter.all false
set_option maxRecDepth 100000
set_option maxHeartbeats 4000000
namespace Tp
open PySem PySem.Spec PyProof.Rows L2 Evl
/-! ### open elements, top first; the last one is the stack's own -/
mutual
/-- how many nodes a tree has -/
def nod : Tr → Nat
  | .txt _ => 1
  | .el _ cs => 1 + nods cs
def nods : List Tr → Nat
  | [] => 0
  | c :: cs => nod c + nods cs
end
theorem nod_pos : ∀ t : Tr, 1 ≤ nod t
  | .txt _ => by rw [nod]; exact Nat.le_refl _
  | .el _ cs => by rw [nod]; omega
def nb : Nat → Nat
  | 0 => 1
  | k + 1 => 1 + 3 * nb k
theorem nb_lo : ∀ k, 1 ≤ nb k
  | 0 => Nat.le_refl _
  | k + 1 => by rw [nb]; omega
theorem nods_le {m : Nat} : ∀ {cs : List Tr}, (∀ c ∈ cs, nod c ≤ m) → nods cs ≤ cs.length * m
  | [], _ => by rw [nods]; exact Nat.zero_le _
  | c :: cs, h => by
    have h1 := h c (List.mem_cons_self ..)
    have h2 := nods_le (cs := cs) fun y hy => h y (List.mem_cons_of_mem _ hy)
    rw [nods, List.length_cons, Nat.succ_mul]
    omega
theorem nod_le : ∀ {k : Nat} {t : Tr}, okTr k t → nod t ≤ nb k
  | k, .txt z, _ => by rw [nod]; exact nb_lo k
  | 0, .el _ _, h => h.elim
  | k + 1, .el n cs, h => by
    obtain ⟨_, h2, _, h4⟩ := h
    have h5 := nods_le (cs := cs) (m := nb k) fun c hc => nod_le (h4 c hc)
    rw [nod, nb]
    have := Nat.mul_le_mul_right (nb k) h2
    omega
structure Fr where
  t : Addr
  l : Addr
  n : Str
  vs : List V
  ds : List Tr
  rest : List Tr
/-- what is still to be read -/
def remF (b : Bool) : List Fr → List Nat
  | [] => []
  | [f] => wrs b f.rest
  | f :: g :: r => wrs b f.rest ++ 60 :: 47 :: (f.n.cps.toList ++ 62 :: remF b (g :: r))
theorem remF_cons {b : Bool} {f : Fr} {r : List Fr} {c : Tr} {rest : List Tr} (h : f.rest = c :: rest) (f' : Fr) (h' : f'.rest = rest) (hn : f'.n = f.n) : remF b (f :: r) = wr b c ++ remF b (f' :: r) := by
  cases r with
  | nil =>
    show wrs b f.rest = wr b c ++ wrs b f'.rest
    rw [h, h', wrs]
  | cons g r =>
    show wrs b f.rest ++ _ = wr b c ++ (wrs b f'.rest ++ _)
    rw [h, h', wrs, hn, List.append_assoc]
/-- the bottom's parts in the end, when mid stands between what the top has and what it gets -/
def finF (mid : List Tr) : List Fr → List Tr
  | [] => []
  | [f] => f.ds ++ mid ++ f.rest
  | f :: g :: r => finF [.el f.n (f.ds ++ mid ++ f.rest)] (g :: r)
theorem finF_eq {f g : Fr} {r : List Fr} {m m' : List Tr} (e : f.ds ++ m ++ f.rest = g.ds ++ m' ++ g.rest) (hn : f.n = g.n) : finF m (f :: r) = finF m' (g :: r) := by
  cases r with
  | nil => exact e
  | cons h r =>
    show finF [.el f.n (f.ds ++ m ++ f.rest)] (h :: r) = finF [.el g.n (g.ds ++ m' ++ g.rest)] (h :: r)
    rw [e, hn]
def nodF : List Fr → Nat
  | [] => 0
  | f :: r => nods f.rest + nodF r
def lastRest : List Fr → List Tr
  | [] => []
  | [f] => f.rest
  | _ :: g :: r => lastRest (g :: r)
/-- what f holds is data, whatever becomes of the places S -/
def Clo (K : PySem.W.Frag) (S : List Addr) (G : Hp) (vs : List V) (ds : List Tr) : Prop := ∀ G' : Hp, Kp S G G' → DpAll K G' vs (Tr.ds ds)
theorem Clo.step {K : PySem.W.Frag} {S : List Addr} {G G1 : Hp} {vs : List V} {ds : List Tr} (c : Clo K S G vs ds) (e : Kp S G G1) : Clo K S G1 vs ds := fun G' e' => c G' (e.trans e')
theorem Clo.less {K : PySem.W.Frag} {S S' : List Addr} {G : Hp} {vs : List V} {ds : List Tr} (c : Clo K S G vs ds) (h : ∀ a ∈ S', a ∈ S) : Clo K S' G vs ds := fun G' e' => c G' (e'.mono h)
/-- a new place may change too -/
theorem Clo.open {K : PySem.W.Frag} {S S1 : List Addr} {G G1 : Hp} {vs : List V} {ds : List Tr} {l : Addr} (c : Clo K S G vs ds) (e : Kp S G G1) (hl : G l = none) (hS : ∀ a ∈ S1, a = l ∨ a ∈ S) : Clo K S1 G1 vs ds := fun G' e' => c G' fun a o n h => by
  have hal : a ≠ l := fun z => by rw [z, hl] at h; cases h
  exact e' a o (fun z => by
    rcases hS a z with z | z
    · exact hal z
    · exact n z) (e a o n h)
theorem ds_app (as bs : List Tr) : Tr.ds (as ++ bs) = Tr.ds as ++ Tr.ds bs := by rw [ds_map, ds_map, ds_map, List.map_append]
/-- one frame, p: a part of it is open -/
structure FrOK (K : PySem.W.Frag) (H0 : Hp) (S : List Addr) (G : Hp) (p : Nat) (above : List V) (f : Fr) (r : List Fr) : Prop where
  t : G f.t = some (.tup [.str f.n, .ref f.l])
  l : G f.l = some (.lst (f.vs ++ above))
  c : Clo K S G f.vs f.ds
  few : f.ds.length + f.rest.length + p ≤ 3
  ap : apartT f.rest
  ok : ∀ c ∈ f.rest, okTr (5 - r.length) c
  n : r ≠ [] → f.n ∈ fourNames
  h : H0 f.l = none
def FrsOK (K : PySem.W.Frag) (H0 : Hp) (S : List Addr) (G : Hp) : Nat → List V → List Fr → Prop
  | _, _, [] => True
  | p, above, f :: r => FrOK K H0 S G p above f r ∧ FrsOK K H0 S G 1 [.ref f.t] r
theorem FrOK.step {K : PySem.W.Frag} {H0 : Hp} {S S1 S' : List Addr} {G G1 : Hp} {p : Nat} {above : List V} {f : Fr} {r : List Fr} (h : FrOK K H0 S G p above f r) (e : Kp S' G G1) (hl : f.l ∉ S') (ht : ∀ a ∈ S', ∀ xs, G a ≠ some (.tup xs)) (hC : ∀ vs ds, Clo K S G vs ds → Clo K S1 G1 vs ds) : FrOK K H0 S1 G1 p above f r :=
  ⟨e.at h.t fun z => ht _ z _ h.t, e.at h.l hl, hC _ _ h.c, h.few, h.ap, h.ok, h.n, h.h⟩
theorem FrsOK.step {K : PySem.W.Frag} {H0 : Hp} {S S1 S' : List Addr} {G G1 : Hp} (e : Kp S' G G1) (ht : ∀ a ∈ S', ∀ xs, G a ≠ some (.tup xs)) (hC : ∀ vs ds, Clo K S G vs ds → Clo K S1 G1 vs ds) :
    ∀ {r : List Fr} {p : Nat} {above : List V}, (∀ f ∈ r, f.l ∉ S') → FrsOK K H0 S G p above r → FrsOK K H0 S1 G1 p above r
  | [], _, _, _, _ => trivial
  | f :: r, _, _, hl, ⟨h1, h2⟩ => ⟨h1.step e (hl f (List.mem_cons_self ..)) ht hC, FrsOK.step e ht hC (fun g hg => hl g (List.mem_cons_of_mem _ hg)) h2⟩
/-- behind a text stands a tag -/
theorem behind_txt {b : Bool} {z : Str} {rest : List Tr} (h : apartT (.txt z :: rest)) (l : List Nat) : ∃ l', wrs b rest ++ 60 :: l = 60 :: l' := by
  cases rest with
  | nil => exact ⟨l, by rw [wrs]; rfl⟩
  | cons c r =>
    cases c with
    | txt y => exact absurd ⟨rfl, rfl⟩ h.1
    | el n cs =>
      rw [wrs, wr]
      split
      · exact ⟨_, rfl⟩
      · exact ⟨_, rfl⟩
theorem apartT_tail {c : Tr} {r : List Tr} (h : apartT (c :: r)) : apartT r := by
  cases r with
  | nil => trivial
  | cons d r => exact h.2
end Tp


set_option Elab.async false
set_option linter.all false
set_option maxRecDepth 100000
set_option maxHeartbeats 4000000
namespace Tp
open PySem PySem.Spec PyProof.Rows L2 Evl Builtin Builtin.Str StrLaws
/-! ### the line and the column of a place -/
theorem nl_is : ("\n" : PySem.Str) = ⟨#[10]⟩ := by decide +kernel
theorem at_nl {z : PySem.Str} {hi i : Nat} (h : hi ≤ z.cps.size) : (i + (⟨#[10]⟩ : PySem.Str).length ≤ hi ∧ subAt z ⟨#[10]⟩ i = true) ↔ (z.cps.toList.take hi)[i]? = some 10 := by
  have h1 := subAt_one z 10 i
  have h2 : (⟨#[10]⟩ : PySem.Str).length = 1 := rfl
  have h3 : z.length = z.cps.size := rfl
  rw [h2] at h1 ⊢
  rw [List.getElem?_take]
  constructor
  · rintro ⟨a, b⟩
    rw [if_pos (by omega)]
    exact h1.mp ⟨by omega, b⟩
  · intro a
    split at a
    · exact ⟨by omega, (h1.mpr a).2⟩
    · cases a
/-- how many there are from a on -/
theorem occ_run {z : PySem.Str} {hi lim : Nat} (h : hi ≤ z.cps.size) : ∀ (n a : Nat) (f : Array Nat) (fr : Nat), fr ≤ a → f.size + n ≤ lim →
    (forIn (List.range' a n) (f, fr) (occBody z ⟨#[10]⟩ hi lim)).run.fst.size = f.size + (((z.cps.toList.take hi).drop a).take n).count 10
  | 0, a, f, fr, _, _ => by simp
  | n + 1, a, f, fr, h1, h2 => by
    rw [List.range'_succ, List.forIn_cons]
    have key := at_nl (i := a) h
    unfold occBody
    by_cases hc : (z.cps.toList.take hi)[a]? = some 10
    · obtain ⟨k1, k2⟩ := key.mpr hc
      rw [if_pos ⟨⟨⟨by show f.size < lim; omega, h1⟩, k1⟩, k2⟩]
      have := occ_run (lim := lim) h n (a + 1) (f.push a) (a + (⟨#[10]⟩ : PySem.Str).length) (Nat.le_refl _) (by rw [Array.size_push]; omega)
      unfold occBody at this
      refine this.trans ?_
      obtain ⟨g1, g2⟩ := List.getElem?_eq_some_iff.mp hc
      rw [List.drop_eq_getElem_cons g1, List.take_succ_cons, g2, List.count_cons_self, Array.size_push]
      omega
    · rw [if_neg fun q => hc (key.mp ⟨q.1.2, q.2⟩)]
      have := occ_run (lim := lim) h n (a + 1) f fr (by omega) (by omega)
      unfold occBody at this
      refine this.trans ?_
      by_cases hl : a < (z.cps.toList.take hi).length
      · rw [List.drop_eq_getElem_cons hl, List.take_succ_cons]
        rw [List.getElem?_eq_getElem hl] at hc
        rw [List.count_cons_of_ne fun q => hc (by rw [q])]
      · rw [List.drop_eq_nil_of_le (by omega), List.drop_eq_nil_of_le (by omega)]
        simp
theorem ix_nat {z : PySem.Str} {i : Nat} (h : i ≤ z.cps.size) : fromIndex z.length 0 = 0 ∧ toIndexW z.length (i : Int) = i := by
  have h3 : z.length = z.cps.size := rfl
  unfold fromIndex toIndexW
  rw [if_neg (by omega), if_neg (by omega)]
  omega
theorem line_eq {z : PySem.Str} {i : Nat} (h : i ≤ z.cps.size) : Txt.countIn z "\n" 0 (i : Int) = (((z.cps.toList.take i).count 10 : Nat) : Int) := by
  unfold Txt.countIn
  rw [(ix_nat h).1, (ix_nat h).2, nl_is, occ_eq]
  have h3 : z.length = z.cps.size := rfl
  have := occ_run (lim := z.length + 1) h (i + 1) 0 #[] 0 (Nat.le_refl _) (by rw [h3]; show 0 + (i + 1) ≤ _; omega)
  rw [List.drop_zero, List.take_of_length_le (by rw [List.length_take]; omega)] at this
  rw [Nat.sub_zero, Array.length_toList, this]
  simp
theorem col_none {z : PySem.Str} {i : Nat} (h : i ≤ z.cps.size) (hn : 10 ∉ z.cps.toList.take i) : Txt.rfindIn z "\n" 0 (i : Int) = -1 := by
  unfold Txt.rfindIn
  rw [(ix_nat h).1, (ix_nat h).2, nl_is, last_eq]
  have key := last_run z ⟨#[10]⟩ i (List.range' 0 (i + 1 - 0)) [] none (fun _ h => nomatch h) (fun _ h => nomatch h) (by simpa using List.pairwise_lt_range' (s := 0) (n := i + 1 - 0))
  cases hr : (forIn (List.range' 0 (i + 1 - 0)) none (lastBody z ⟨#[10]⟩ i)).run with
  | none => rfl
  | some a =>
    rw [hr] at key
    exact absurd (List.mem_of_getElem? ((at_nl h).mp key.1)) hn
theorem col_some {z : PySem.Str} {i k : Nat} (h : i ≤ z.cps.size) (hk : k < i) (h1 : z.cps.toList[k]? = some 10) (h2 : ∀ j, k < j → j < i → z.cps.toList[j]? ≠ some 10) : Txt.rfindIn z "\n" 0 (i : Int) = (k : Int) := by
  unfold Txt.rfindIn
  rw [(ix_nat h).1, (ix_nat h).2, nl_is, last_eq]
  have key := last_run z ⟨#[10]⟩ i (List.range' 0 (i + 1 - 0)) [] none (fun _ h => nomatch h) (fun _ h => nomatch h) (by simpa using List.pairwise_lt_range' (s := 0) (n := i + 1 - 0))
  have atk : (k + (⟨#[10]⟩ : PySem.Str).length ≤ i ∧ subAt z ⟨#[10]⟩ k = true) := (at_nl h).mpr (by rw [List.getElem?_take, if_pos hk]; exact h1)
  have mem : k ∈ [] ++ List.range' 0 (i + 1 - 0) := by simp [List.mem_range']; omega
  cases hr : (forIn (List.range' 0 (i + 1 - 0)) none (lastBody z ⟨#[10]⟩ i)).run with
  | none =>
    rw [hr] at key
    exact absurd atk (key k mem)
  | some a =>
    rw [hr] at key
    show (a : Int) = k
    have ha := (at_nl h).mp key.1
    rw [List.getElem?_take] at ha
    split at ha
    · rename_i hai
      by_cases q : a < k
      · exact absurd atk (key.2 k mem q)
      · by_cases q2 : k < a
        · exact absurd ha (h2 a q2 hai)
        · have : a = k := by omega
          rw [this]
    · cases ha
end Tp


set_option Elab.async false
set_option linter.all false
set_option maxRecDepth 100000
set_option maxHeartbeats 4000000
namespace Tp
open PySem PySem.Spec PyProof.Rows L2 Evl
/-! ### the model reads what is written -/
theorem rdNext_esc {c : Nat} (h : c ∈ signCs) (l : List Nat) : rdNext (escC c ++ l) = some (l, (escC c).length, c) := by
  unfold rdNext
  simp only [signCs, List.mem_cons, List.not_mem_nil, or_false] at h
  rcases h with rfl | rfl | rfl | rfl | rfl | rfl | rfl | rfl | rfl | rfl | rfl | rfl <;> (simp [escC, sgB]; try rfl)
theorem esc_head {c : Nat} (h : c ∈ signCs) (l : List Nat) : (escC c ++ l).head? ≠ some 60 := by
  simp only [signCs, List.mem_cons, List.not_mem_nil, or_false] at h
  rcases h with rfl | rfl | rfl | rfl | rfl | rfl | rfl | rfl | rfl | rfl | rfl | rfl <;> simp [escC]
/-- a text's signs are read, behind some others -/
theorem rdText_esc {d : Nat} : ∀ (cs : List Nat) (f : Nat) (acc l : List Nat) (i n : Nat), (∀ c ∈ cs, c ∈ signCs) → acc ≠ [] → acc.length + cs.length ≤ 200 → rdText d (f + cs.length) acc (escL cs ++ l) i n = rdText d f (acc ++ cs) l (i + (escL cs).length) n
  | [], f, acc, l, i, n, _, _, _ => by
    rw [List.append_nil]
    rfl
  | c :: cs, f, acc, l, i, n, h, ha, hl => by
    have hc := h c (List.mem_cons_self ..)
    have e : escL (c :: cs) ++ l = escC c ++ (escL cs ++ l) := by
      unfold escL
      rw [List.flatMap_cons, List.append_assoc]
    rw [List.length_cons] at hl
    rw [e, List.length_cons, show f + (cs.length + 1) = (f + cs.length) + 1 by omega, rdText, if_neg (esc_head hc _), rdNext_esc hc]
    dsimp only
    rw [if_neg (by omega), if_neg ha, rdText_esc cs f _ _ _ _ (fun x hx => h x (List.mem_cons_of_mem _ hx)) (by simp) (by rw [List.length_append, List.length_singleton]; omega)]
    have e2 : (escL (c :: cs)).length = (escC c).length + (escL cs).length := by
      unfold escL
      rw [List.flatMap_cons, List.length_append]
    rw [e2, List.append_assoc, Nat.add_assoc]
    rfl
theorem rdText_esc0 {d f : Nat} {cs l : List Nat} {i n : Nat} (h : ∀ c ∈ cs, c ∈ signCs) (h0 : cs ≠ []) (hl : cs.length ≤ 200) (hc : ∀ l, cntR d l n = none) : rdText d (f + cs.length) [] (escL cs ++ l) i n = rdText d f cs l (i + (escL cs).length) (n + 1) := by
  cases cs with
  | nil => exact absurd rfl h0
  | cons c cs =>
    have hcs := h c (List.mem_cons_self ..)
    have e : escL (c :: cs) ++ l = escC c ++ (escL cs ++ l) := by
      unfold escL
      rw [List.flatMap_cons, List.append_assoc]
    rw [List.length_cons] at hl
    rw [e, List.length_cons, show f + (cs.length + 1) = (f + cs.length) + 1 by omega, rdText, if_neg (esc_head hcs _), rdNext_esc hcs]
    dsimp only
    rw [if_neg (by decide), if_pos (by rfl), hc]
    dsimp only
    rw [rdText_esc cs f _ _ _ _ (fun x hx => h x (List.mem_cons_of_mem _ hx)) (by simp) (by simp; omega)]
    have e2 : (escL (c :: cs)).length = (escC c).length + (escL cs).length := by
      unfold escL
      rw [List.flatMap_cons, List.length_append]
    rw [e2, Nat.add_assoc]
    rfl
theorem cnt_none {d n : Nat} (hd : d ≤ 60) (hn : n ≠ 5000) (l : List Nat) : cntR d l n = none := by
  unfold cntR
  rw [if_neg (by omega), if_neg hn]
/-- no letter at the end of a name -/
theorem run_name {nm : Str} (h : nm ∈ fourNames) {c : Nat} (hc : letB c = false) (l : List Nat) : runL letB (nm.cps.toList ++ c :: l) = nm.cps.toList.length ∧ nameOk (nm.cps.toList ++ c :: l) = true := by
  have hr : ∀ zs : List Nat, (∀ z ∈ zs, letB z = true) → runL letB (zs ++ c :: l) = zs.length := by
    intro zs
    induction zs with
    | nil =>
      intro _
      rw [List.nil_append, runL, hc]
      rfl
    | cons z zs ih =>
      intro hz
      rw [List.cons_append, runL, hz z (List.mem_cons_self ..), List.length_cons, ih fun x hx => hz x (List.mem_cons_of_mem _ hx)]
      rfl
  have hl : ∀ n ∈ fourNames, (∀ z ∈ n.cps.toList, letB z = true) ∧ 1 ≤ n.cps.toList.length ∧ n.cps.toList.length ≤ 12 := by decide +kernel
  obtain ⟨h1, h2, h3⟩ := hl nm h
  have e := hr _ h1
  refine ⟨e, ?_⟩
  unfold nameOk
  rw [e, Nat.ble_eq_true_of_le h2, Nat.ble_eq_true_of_le h3]
  rfl
theorem rdBegin_wr {F : List Fram} {nm : Str} {l : List Nat} {i n : Nat} (h : nm ∈ fourNames) (hF : F.length ≤ 60) (hn : n ≠ 5000) : rdBegin F (60 :: (nm.cps.toList ++ 62 :: l)) i n = .ok ((nm, []) :: F) l (i + (2 + nm.cps.toList.length)) (n + 1) := by
  obtain ⟨e1, e2⟩ := run_name h (show letB 62 = false by decide) l
  unfold rdBegin
  rw [List.tail_cons, if_neg (by simp), cnt_none hF hn, e2]
  dsimp only
  rw [cond_true, e1, List.take_left, List.drop_left, sL_of, if_neg (by simp)]
  unfold rdEndTag
  rw [if_pos (by rfl), List.tail_cons, show i + 1 + nm.cps.toList.length + 1 = i + (2 + nm.cps.toList.length) by omega]
theorem rdEnd_wr {ds : List Tr} {F : List Fram} {nm : Str} {l : List Nat} {i n : Nat} (h : nm ∈ fourNames) : rdEnd ((nm, ds) :: F) (60 :: 47 :: (nm.cps.toList ++ 62 :: l)) i n = .ok (addK F (.el nm ds)) l (i + (3 + nm.cps.toList.length)) n := by
  obtain ⟨e1, e2⟩ := run_name h (show letB 62 = false by decide) l
  unfold rdEnd
  rw [show (60 :: 47 :: (nm.cps.toList ++ 62 :: l)).drop 2 = nm.cps.toList ++ 62 :: l from rfl, e2]
  dsimp only
  rw [cond_true, e1, List.take_left, List.drop_left, if_neg (fun q => q.1 rfl)]
  unfold rdEndTag
  rw [if_pos (by rfl), List.tail_cons]
  show RR.ok (addK F (.el nm ds)) l _ n = _
  rw [show i + 2 + nm.cps.toList.length + 1 = i + (3 + nm.cps.toList.length) by omega]
theorem loop_begin {f : Nat} {F : List Fram} {nm : Str} {l : List Nat} {i n : Nat} (h : nm ∈ fourNames) (h1 : 1 < F.length) (hF : F.length ≤ 60) (hn : n ≠ 5000) : rdLoop (f + 1) F (60 :: (nm.cps.toList ++ 62 :: l)) i n = rdLoop f ((nm, []) :: F) l (i + (2 + nm.cps.toList.length)) (n + 1) := by
  rw [rdLoop, if_pos h1]
  have hp : rdPart F (60 :: (nm.cps.toList ++ 62 :: l)) i n = .ok ((nm, []) :: F) l (i + (2 + nm.cps.toList.length)) (n + 1) := by
    unfold rdPart
    have h47 : ∀ n ∈ fourNames, n.cps.toList.head? ≠ some 47 ∧ n.cps.toList ≠ [] := by decide +kernel
    obtain ⟨a1, a2⟩ := h47 nm h
    rw [if_neg (show ¬ (60 :: (nm.cps.toList ++ 62 :: l)).take 2 = [60, 47] from fun q => by
      cases e : nm.cps.toList with
      | nil => exact a2 e
      | cons c r =>
        rw [e] at q a1
        have := (List.cons.inj (List.cons.inj q).2).1
        exact a1 (by rw [this]; rfl)), if_pos (by rfl)]
    exact rdBegin_wr h hF hn
  rw [hp]
theorem loop_end {f : Nat} {ds : List Tr} {g : Fram} {r : List Fram} {nm : Str} {l : List Nat} {i n : Nat} (h : nm ∈ fourNames) : rdLoop (f + 1) ((nm, ds) :: g :: r) (60 :: 47 :: (nm.cps.toList ++ 62 :: l)) i n = rdLoop f (addK (g :: r) (.el nm ds)) l (i + (3 + nm.cps.toList.length)) n := by
  rw [rdLoop, if_pos (by simp)]
  unfold rdPart
  rw [if_pos (by rfl), rdEnd_wr h]
theorem loop_text {f k : Nat} {F : List Fram} {z : Str} {l : List Nat} {i n : Nat} (hz : okText k z) (hk : k ≤ 200) (h1 : 1 < F.length) (hF : F.length ≤ 60) (hn : n ≠ 5000) : rdLoop (f + 1) F (escL z.cps.toList ++ 60 :: l) i n = rdLoop f (addK F (.txt z)) (60 :: l) (i + (escL z.cps.toList).length) (n + 1) := by
  obtain ⟨z1, z2, z3⟩ := hz
  have hl : z.cps.toList.length = z.cps.size := Array.length_toList
  have hne : z.cps.toList ≠ [] := fun e => by rw [e] at hl; simp at hl; omega
  rw [rdLoop, if_pos h1]
  have hh : (escL z.cps.toList ++ 60 :: l).head? ≠ some 60 := by
    cases e : z.cps.toList with
    | nil => exact absurd e hne
    | cons c r =>
      have : escL (c :: r) ++ 60 :: l = escC c ++ (escL r ++ 60 :: l) := by
        unfold escL
        rw [List.flatMap_cons, List.append_assoc]
      rw [this]
      exact esc_head (z3 c (by rw [e]; exact List.mem_cons_self ..)) _
  have hp : rdPart F (escL z.cps.toList ++ 60 :: l) i n = .ok (addK F (.txt z)) (60 :: l) (i + (escL z.cps.toList).length) (n + 1) := by
    unfold rdPart
    rw [if_neg (show ¬ (escL z.cps.toList ++ 60 :: l).take 2 = [60, 47] from fun q => hh (by
      cases e : escL z.cps.toList ++ 60 :: l with
      | nil => rw [e] at q; cases q
      | cons c r =>
        rw [e] at q
        cases r with
        | nil => cases q
        | cons d r => rw [(List.cons.inj q).1]; rfl)), if_neg hh]
    have hL : z.cps.toList.length ≤ (escL z.cps.toList ++ 60 :: l).length := by
      have : ∀ cs : List Nat, cs.length ≤ (escL cs).length := by
        intro cs
        induction cs with
        | nil => exact Nat.le_refl _
        | cons c cs ih =>
          have := (escC_len c).1
          unfold escL at ih ⊢
          rw [List.flatMap_cons, List.length_append, List.length_cons]
          omega
      have := this z.cps.toList
      rw [List.length_append]
      omega
    obtain ⟨q, hq⟩ : ∃ q, (escL z.cps.toList ++ 60 :: l).length + 1 = (q + 1) + z.cps.toList.length := ⟨(escL z.cps.toList ++ 60 :: l).length - z.cps.toList.length, by omega⟩
    rw [hq, rdText_esc0 z3 hne (by omega) (cnt_none hF hn), rdText, if_pos (by rfl)]
    dsimp only
    rw [sL_of]
  rw [hp]

mutual
/-- how many turns the reader takes -/
def stp : Tr → Nat
  | .txt _ => 1
  | .el _ cs => 2 + stps cs
def stps : List Tr → Nat
  | [] => 0
  | c :: cs => stp c + stps cs
end
def addKs (F : List Fram) (cs : List Tr) : List Fram := match F with
  | [] => []
  | f :: r => (f.1, f.2 ++ cs) :: r
theorem addKs_nil (F : List Fram) : addKs F [] = F := by
  cases F with
  | nil => rfl
  | cons f r =>
    show (f.1, f.2 ++ []) :: r = f :: r
    rw [List.append_nil]
theorem addKs_cons (F : List Fram) (t : Tr) (cs : List Tr) : addKs (addK F t) cs = addKs F (t :: cs) := by
  cases F with
  | nil => rfl
  | cons f r =>
    show (f.1, f.2 ++ [t] ++ cs) :: r = (f.1, f.2 ++ t :: cs) :: r
    rw [List.append_assoc]
    rfl
theorem addK_len (F : List Fram) (t : Tr) : (addK F t).length = F.length := by cases F <;> rfl
/-- what reading a tree does -/
def ReadsT (k : Nat) (t : Tr) : Prop := ∀ (f : Nat) (F : List Fram) (l : List Nat) (i n : Nat), 2 ≤ F.length → F.length + k ≤ 60 → n + nod t ≤ 5000 → (t.isT = true → ∃ l', l = 60 :: l') → rdLoop (f + stp t) F (wr true t ++ l) i n = rdLoop f (addK F t) l (i + (wr true t).length) (n + nod t)
theorem reads_kids {k : Nat} : ∀ cs : List Tr, (∀ c ∈ cs, ReadsT k c) → apartT cs → ∀ (f : Nat) (F : List Fram) (l : List Nat) (i n : Nat), 2 ≤ F.length → F.length + k ≤ 60 → n + nods cs ≤ 5000 → rdLoop (f + stps cs) F (wrs true cs ++ 60 :: l) i n = rdLoop f (addKs F cs) (60 :: l) (i + (wrs true cs).length) (n + nods cs)
  | [], _, _, f, F, l, i, n, _, _, _ => by
    rw [stps, nods, wrs, addKs_nil]
    rfl
  | c :: cs, h, hap, f, F, l, i, n, h2, hF, hn => by
    rw [nods] at hn
    rw [stps, nods, wrs, show f + (stp c + stps cs) = (f + stps cs) + stp c by omega, List.append_assoc, h c (List.mem_cons_self ..) _ F _ i n h2 hF (by omega) (fun ht => by
      cases c with
      | txt z => exact behind_txt hap l
      | el nm ds => cases ht), reads_kids cs (fun x hx => h x (List.mem_cons_of_mem _ hx)) (apartT_tail hap) f _ l _ _ (by rw [addK_len]; exact h2) (by rw [addK_len]; exact hF) (by omega), addKs_cons, List.length_append, Nat.add_assoc, Nat.add_assoc]
theorem wr_el (nm : Str) (cs : List Tr) (l : List Nat) : wr true (.el nm cs) ++ l = 60 :: (nm.cps.toList ++ 62 :: (wrs true cs ++ 60 :: 47 :: (nm.cps.toList ++ 62 :: l))) := by
  rw [wr, if_neg (by simp)]
  simp
theorem wr_el_len (nm : Str) (cs : List Tr) : (wr true (.el nm cs)).length = (2 + nm.cps.toList.length) + (wrs true cs).length + (3 + nm.cps.toList.length) := by
  have := congrArg List.length (wr_el nm cs [])
  rw [List.append_nil] at this
  rw [this]
  simp only [List.length_cons, List.length_append, List.length_nil]
  omega
theorem reads_ok : ∀ (k : Nat) (t : Tr), okTr k t → ReadsT k t
  | k, .txt z, h => by
    intro f F l i n h2 hF hn hl
    obtain ⟨l', rfl⟩ := hl rfl
    have hz : okText 5 z := by cases k <;> exact h
    rw [nod] at hn ⊢
    rw [stp, wr]
    exact loop_text hz (by decide) (by omega) (by omega) (by omega)
  | 0, .el _ _, h => h.elim
  | k + 1, .el nm cs, h => by
    obtain ⟨a1, a2, a3, a4⟩ := h
    intro f F l i n h2 hF hn hl
    rw [nod] at hn ⊢
    obtain ⟨g, r, rfl⟩ : ∃ g r, F = g :: r := by
      cases F with
      | nil => simp at h2
      | cons g r => exact ⟨g, r, rfl⟩
    rw [stp, wr_el, show f + (2 + stps cs) = ((f + 1) + stps cs) + 1 by omega, loop_begin a1 (by omega) (by omega) (by omega)]
    rw [reads_kids (k := k) cs (fun c hc => reads_ok k c (a4 c hc)) a3 _ _ _ _ _ (by simp) (by rw [List.length_cons]; omega) (by omega)]
    show rdLoop (f + 1) ((nm, [] ++ cs) :: g :: r) _ _ _ = _
    rw [List.nil_append, loop_end a1, wr_el_len]
    congr 1
    · omega
    · omega
theorem stp_le : ∀ (k : Nat) (t : Tr), okTr k t → stp t ≤ (wr true t).length
  | k, .txt z, h => by
    have hz : okText 5 z := by cases k <;> exact h
    obtain ⟨z1, _, _⟩ := hz
    have hl : z.cps.toList.length = z.cps.size := Array.length_toList
    rw [stp, wr]
    cases e : z.cps.toList with
    | nil => rw [e] at hl; simp at hl; omega
    | cons c r =>
      have := (escC_len c).1
      unfold escL
      rw [List.flatMap_cons, List.length_append]
      omega
  | 0, .el _ _, h => h.elim
  | k + 1, .el nm cs, h => by
    have g : ∀ cs : List Tr, (∀ c ∈ cs, okTr k c) → stps cs ≤ (wrs true cs).length := by
      intro cs
      induction cs with
      | nil =>
        intro _
        rw [stps]
        exact Nat.zero_le _
      | cons c cs ih =>
        intro hc
        have h1 := stp_le k c (hc c (List.mem_cons_self ..))
        have h2 := ih fun x hx => hc x (List.mem_cons_of_mem _ hx)
        rw [stps, wrs, List.length_append]
        omega
    have := g cs h.2.2.2
    rw [stp, wr_el_len]
    omega
theorem stps_le {k : Nat} : ∀ cs : List Tr, (∀ c ∈ cs, okTr k c) → stps cs ≤ (wrs true cs).length := by
  intro cs
  induction cs with
  | nil =>
    intro _
    rw [stps]
    exact Nat.zero_le _
  | cons c cs ih =>
    intro hc
    have h1 := stp_le k c (hc c (List.mem_cons_self ..))
    have h2 := ih fun x hx => hc x (List.mem_cons_of_mem _ hx)
    rw [stps, wrs, List.length_append]
    omega
def rdFin : RR → RR
  | .no j r => .no j r
  | .ok F l i n => if l = [] then .ok F l i n else .no i (why l "more")
theorem rdDoc_eq {l l1 : List Nat} {F : List Fram} {i n : Nat} (h : rdRoot l = .ok F l1 i n) : rdDoc l = rdFin (rdLoop (l1.length + 1) F l1 i n) := by
  unfold rdDoc
  rw [h]
  dsimp only
  cases rdLoop (l1.length + 1) F l1 i n <;> rfl
theorem rdRoot_wr {nm : Str} {l : List Nat} (h : nm ∈ fourNames) : rdRoot (60 :: (nm.cps.toList ++ 62 :: l)) = .ok [(nm, []), ("", [])] l (2 + nm.cps.toList.length) 1 := by
  unfold rdRoot
  rw [if_pos (by rfl), rdBegin_wr (F := [("", [])]) h (show [("", ([] : List Tr))].length ≤ 60 by decide) (by decide), Nat.zero_add]
/-- a right text is read, whatever stands behind it -/
theorem rdDoc_tail {k : Nat} {nm : Str} {cs : List Tr} (h : okTr (k + 1) (.el nm cs)) (hk : k ≤ 58) (hn : nod (.el nm cs) ≤ 5000) (l : List Nat) : rdDoc (wr true (.el nm cs) ++ l) = rdFin (.ok [("", [.el nm cs])] l (wr true (.el nm cs)).length (nod (.el nm cs))) := by
  obtain ⟨a1, a2, a3, a4⟩ := h
  rw [nod] at hn ⊢
  have hs := stps_le cs a4
  rw [wr_el, rdDoc_eq (rdRoot_wr a1)]
  obtain ⟨q, hq⟩ : ∃ q, List.length (wrs true cs ++ 60 :: 47 :: (nm.cps.toList ++ 62 :: l)) + 1 = ((q + 1) + 1) + stps cs := ⟨(wrs true cs).length + nm.cps.toList.length + l.length + 2 - stps cs, by
    simp only [List.length_append, List.length_cons, List.length_nil]
    omega⟩
  rw [hq, reads_kids (k := k) cs (fun c hc => reads_ok k c (a4 c hc)) a3 _ _ _ _ _ (by simp) (by show 2 + k ≤ 60; omega) (by omega)]
  rw [show addKs [(nm, []), ("", [])] cs = (nm, cs) :: [("", [])] from rfl, loop_end a1, show addK [(("" : PySem.Str), ([] : List Tr))] (.el nm cs) = [(("" : PySem.Str), [Tr.el nm cs])] from rfl, rdLoop, if_neg (by simp), wr_el_len]
theorem rdDoc_wr {k : Nat} {nm : Str} {cs : List Tr} (h : okTr (k + 1) (.el nm cs)) (hk : k ≤ 58) (hn : nod (.el nm cs) ≤ 5000) : ∃ i n, rdDoc (wr true (.el nm cs)) = .ok [("", [.el nm cs])] [] i n := by
  have := rdDoc_tail h hk hn []
  rw [List.append_nil] at this
  exact ⟨_, _, this⟩
theorem rdDoc_more {k : Nat} {nm : Str} {cs : List Tr} (h : okTr (k + 1) (.el nm cs)) (hk : k ≤ 58) (hn : nod (.el nm cs) ≤ 5000) {l : List Nat} (hl : l ≠ []) : rdDoc (wr true (.el nm cs) ++ l) = .no (wr true (.el nm cs)).length (why l "more") := by
  rw [rdDoc_tail h hk hn]
  unfold rdFin
  dsimp only
  rw [if_neg hl]
/-- pre ends right behind a begin tag of the written tree, rest is what stands behind it -/
inductive Opn : Tr → List Nat → List Nat → Prop
  | here (nm : Str) (cs : List Tr) : Opn (.el nm cs) (60 :: (nm.cps.toList ++ [62])) (wrs true cs ++ 60 :: 47 :: (nm.cps.toList ++ [62]))
  | deep (nm : Str) (as bs : List Tr) (c : Tr) (pre rest : List Nat) : Opn c pre rest → Opn (.el nm (as ++ c :: bs)) (60 :: (nm.cps.toList ++ 62 :: (wrs true as ++ pre))) (rest ++ (wrs true bs ++ 60 :: 47 :: (nm.cps.toList ++ [62])))
theorem wrs_app (b : Bool) : ∀ as bs : List Tr, wrs b (as ++ bs) = wrs b as ++ wrs b bs
  | [], bs => by rw [wrs]; rfl
  | c :: as, bs => by rw [List.cons_append, wrs, wrs, wrs_app b as bs, List.append_assoc]
theorem opn_wr {t : Tr} {pre rest : List Nat} (h : Opn t pre rest) : pre ++ rest = wr true t := by
  induction h with
  | here nm cs =>
    have := wr_el nm cs []
    rw [List.append_nil] at this
    rw [this]
    simp
  | deep nm as bs c pre rest h ih =>
    have := wr_el nm (as ++ c :: bs) []
    rw [List.append_nil] at this
    rw [this, wrs_app, wrs, ← ih]
    simp
theorem opn_head {t : Tr} {pre rest : List Nat} (h : Opn t pre rest) : ∃ p, pre = 60 :: p := by cases h <;> exact ⟨_, rfl⟩
theorem apart_app : ∀ {as bs : List Tr}, apartT (as ++ bs) → apartT as
  | [], _, _ => trivial
  | [a], _, _ => trivial
  | a :: b :: as, bs, h => ⟨h.1, apart_app (as := b :: as) h.2⟩
theorem nods_app : ∀ as bs : List Tr, nods (as ++ bs) = nods as + nods bs
  | [], bs => by rw [nods]; exact (Nat.zero_add _).symm
  | a :: as, bs => by rw [List.cons_append, nods, nods, nods_app as bs, Nat.add_assoc]
/-- the state behind pre -/
def Behind (k : Nat) (F : List Fram) (n : Nat) (t : Tr) (F' : List Fram) (n' : Nat) : Prop := (∃ nm g r, F' = (nm, []) :: g :: r ∧ nm ∈ fourNames) ∧ F'.length ≤ F.length + k ∧ n' ≤ n + nod t
theorem opn_state {t : Tr} {pre rest : List Nat} (h : Opn t pre rest) : ∀ (k : Nat), okTr k t → ∀ (F : List Fram) (i n : Nat), 2 ≤ F.length → F.length + k ≤ 60 → n + nod t ≤ 5000 →
    ∃ F' n' m, (∀ f l, rdLoop (f + m) F (pre ++ l) i n = rdLoop f F' l (i + pre.length) n') ∧ Behind k F n t F' n' ∧ m ≤ pre.length := by
  induction h with
  | here nm cs =>
    intro k hk F i n h2 hF hn
    cases k with
    | zero => exact hk.elim
    | succ k =>
      rw [nod] at hn
      obtain ⟨g, r, rfl⟩ : ∃ g r, F = g :: r := by
        cases F with
        | nil => simp at h2
        | cons g r => exact ⟨g, r, rfl⟩
      refine ⟨(nm, []) :: g :: r, n + 1, 1, fun f l => ?_, ⟨⟨nm, g, r, rfl, hk.1⟩, by rw [List.length_cons]; omega, by rw [nod]; omega⟩, by rw [List.length_cons]; omega⟩
      have e : 60 :: (nm.cps.toList ++ [62]) ++ l = 60 :: (nm.cps.toList ++ 62 :: l) := by simp
      rw [e, loop_begin hk.1 (by omega) (by omega) (by omega)]
      congr 1
      simp only [List.length_cons, List.length_append, List.length_nil]
      omega
  | deep nm as bs c pre rest h ih =>
    intro k hk F i n h2 hF hn
    cases k with
    | zero => exact hk.elim
    | succ k =>
      obtain ⟨a1, a2, a3, a4⟩ := hk
      rw [nod, nods_app, nods] at hn
      obtain ⟨g, r, rfl⟩ : ∃ g r, F = g :: r := by
        cases F with
        | nil => simp at h2
        | cons g r => exact ⟨g, r, rfl⟩
      obtain ⟨p, hp⟩ := opn_head h
      obtain ⟨F', n', m, h1, ⟨h3, h4, h5⟩, h6⟩ := ih k (a4 c (by simp)) ((nm, [] ++ as) :: g :: r) (i + (2 + nm.cps.toList.length) + (wrs true as).length) (n + 1 + nods as) (by simp) (by rw [List.length_cons]; omega) (by omega)
      refine ⟨F', n', m + stps as + 1, fun f l => ?_, ⟨h3, by rw [List.length_cons] at h4; omega, by rw [nod, nods_app, nods]; omega⟩, ?_⟩
      · have e : 60 :: (nm.cps.toList ++ 62 :: (wrs true as ++ pre)) ++ l = 60 :: (nm.cps.toList ++ 62 :: (wrs true as ++ 60 :: (p ++ l))) := by
          rw [hp]
          simp
        rw [e, show f + (m + stps as + 1) = ((f + m) + stps as) + 1 by omega, loop_begin a1 (by omega) (by omega) (by omega)]
        rw [reads_kids (k := k) as (fun c hc => reads_ok k c (a4 c (List.mem_append_left _ hc))) (apart_app a3) _ _ _ _ _ (by simp) (by rw [List.length_cons]; omega) (by omega)]
        have := h1 f l
        rw [hp] at this
        rw [List.cons_append] at this
        refine this.trans ?_
        rw [hp]
        congr 1
        simp only [List.length_cons, List.length_append]
        omega
      · have := stps_le as fun c hc => a4 c (List.mem_append_left _ hc)
        simp only [List.length_cons, List.length_append]
        omega
/-- from the root on -/
theorem opn_root {t : Tr} {pre rest : List Nat} (h : Opn t pre rest) {k : Nat} (hk : okTr (k + 1) t) (hk5 : k ≤ 50) (hn : nod t ≤ 4000) : ∃ F' n', (∃ nm g r, F' = (nm, []) :: g :: r ∧ nm ∈ fourNames) ∧ F'.length ≤ 60 ∧ n' < 5000 ∧ ∀ l, ∃ q, l.length < q ∧ rdDoc (pre ++ l) = rdFin (rdLoop q F' l pre.length n') := by
  cases h with
  | here nm cs =>
    refine ⟨[(nm, []), ("", [])], 1, ⟨nm, _, _, rfl, hk.1⟩, by show 2 ≤ 60; decide, by decide, fun l => ⟨l.length + 1, Nat.lt_succ_self _, ?_⟩⟩
    have e : 60 :: (nm.cps.toList ++ [62]) ++ l = 60 :: (nm.cps.toList ++ 62 :: l) := by simp
    rw [e, rdDoc_eq (rdRoot_wr hk.1), show 2 + nm.cps.toList.length = (60 :: (nm.cps.toList ++ [62])).length by
      simp only [List.length_cons, List.length_append, List.length_nil]
      omega]
  | deep nm as bs c pre rest h =>
    obtain ⟨a1, a2, a3, a4⟩ := hk
    rw [nod, nods_app, nods] at hn
    obtain ⟨p, hp⟩ := opn_head h
    obtain ⟨F', n', m, h1, ⟨h3, h4, h5⟩, h6⟩ := opn_state h k (a4 c (by simp)) [(nm, [] ++ as), ("", [])] (2 + nm.cps.toList.length + (wrs true as).length) (1 + nods as) (by simp) (by show 2 + k ≤ 60; omega) (by omega)
    have hs := stps_le as fun c hc => a4 c (List.mem_append_left _ hc)
    refine ⟨F', n', h3, by have : F'.length ≤ 2 + k := h4; omega, by omega, fun l => ⟨l.length + 1 + ((wrs true as).length - stps as) + (pre.length - m), by omega, ?_⟩⟩
    have e : 60 :: (nm.cps.toList ++ 62 :: (wrs true as ++ pre)) ++ l = 60 :: (nm.cps.toList ++ 62 :: (wrs true as ++ 60 :: (p ++ l))) := by
      rw [hp]
      simp
    have hpl : pre.length = p.length + 1 := by rw [hp, List.length_cons]
    rw [e, rdDoc_eq (rdRoot_wr a1)]
    rw [show List.length (wrs true as ++ 60 :: (p ++ l)) + 1 = ((l.length + 1 + ((wrs true as).length - stps as) + (pre.length - m)) + m) + stps as by
      simp only [List.length_append, List.length_cons]
      omega]
    rw [reads_kids (k := k) as (fun c hc => reads_ok k c (a4 c (List.mem_append_left _ hc))) (apart_app a3) _ _ _ _ _ (by simp) (by show 2 + k ≤ 60; omega) (by omega)]
    have := h1 (l.length + 1 + ((wrs true as).length - stps as) + (pre.length - m)) l
    have e3 : pre ++ l = 60 :: (p ++ l) := by rw [hp]; rfl
    rw [e3] at this
    rw [show addKs ((nm, []) :: [("", [])]) as = [(nm, [] ++ as), ("", [])] from rfl, this]
    rw [show 2 + nm.cps.toList.length + (wrs true as).length + pre.length = (60 :: (nm.cps.toList ++ 62 :: (wrs true as ++ pre))).length by
      simp only [List.length_cons, List.length_append]
      omega]
/-- where the next part is wrong, the text is -/
theorem opn_no {t : Tr} {pre rest : List Nat} (h : Opn t pre rest) {k : Nat} (hk : okTr (k + 1) t) (hk5 : k ≤ 50) (hn : nod t ≤ 4000) : ∃ F n, (∃ nm g r, F = (nm, []) :: g :: r ∧ nm ∈ fourNames) ∧ F.length ≤ 60 ∧ n < 5000 ∧
    (∀ l j y, rdPart F l pre.length n = .no j y → rdDoc (pre ++ l) = .no j y) ∧ ∀ l F2 l2 i2 n2 j y, rdPart F l pre.length n = .ok F2 l2 i2 n2 → 1 < F2.length → l2.length < l.length → rdPart F2 l2 i2 n2 = .no j y → rdDoc (pre ++ l) = .no j y := by
  obtain ⟨F, n, h1, h2, h3, h4⟩ := opn_root h hk hk5 hn
  obtain ⟨nm, g, r, rfl, hnm⟩ := h1
  refine ⟨_, n, ⟨nm, g, r, rfl, hnm⟩, h2, h3, fun l j y e => ?_, fun l F2 l2 i2 n2 j y e hF hl e2 => ?_⟩
  · obtain ⟨q, hq, hd⟩ := h4 l
    obtain ⟨q, rfl⟩ : ∃ q', q = q' + 1 := ⟨q - 1, by omega⟩
    rw [hd, rdLoop, if_pos (by simp), e]
    rfl
  · obtain ⟨q, hq, hd⟩ := h4 l
    obtain ⟨q, rfl⟩ : ∃ q', q = (q' + 1) + 1 := ⟨q - 2, by omega⟩
    rw [hd, rdLoop, if_pos (by simp), e]
    dsimp only
    rw [rdLoop, if_pos hF, e2]
    rfl
end Tp


set_option Elab.async false
set_option linter.all false
set_option maxRecDepth 100000
set_option maxHeartbeats 4000000
/-! Generator states are never dropped: what runs leaves as many as there were, or more. -/
namespace Tp
open PySem Sem
variable {M : Model}
theorem setGen_size (s : Shared) (g : Nat) (x : GenState) : (s.setGen g x).gens.size = s.gens.size := by
  unfold Shared.setGen
  simp
theorem runs_size {Γ : Ctx} {p : Pos} {t : Sem PySem.Fin} {fs : List Frame} {s s' : Shared} {e : End} (h : Runs M Γ p t fs s e s') : s.gens.size ≤ s'.gens.size := by
  induction h with
  | done => exact Nat.le_refl _
  | raise => exact Nat.le_refl _
  | yield => exact Nat.le_refl _
  | newGen _ ih =>
    rw [Array.size_push] at ih
    omega
  | call _ _ a b => exact Nat.le_trans a b
  | resumeFresh _ _ _ _ a b =>
    rw [setGen_size] at a b
    exact Nat.le_trans a b
  | resumeSuspended _ _ _ _ a b =>
    rw [setGen_size] at a b
    exact Nat.le_trans a b
  | resumeThrowFresh _ _ a =>
    rw [setGen_size] at a
    exact a
  | segRet _ _ a b => exact Nat.le_trans a b
  | segGen _ _ a b =>
    rw [setGen_size] at b
    exact Nat.le_trans a b
  | segSuspGen _ _ _ _ a b =>
    rw [setGen_size] at b
    exact Nat.le_trans a b
  | _ => assumption
theorem wakes_size {Γ : Ctx} {p : Pos} {g : Nat} {r : Resume} {s s' : Shared} {res : GenResult} (h : Wakes M Γ p g r s res s') : s.gens.size ≤ s'.gens.size := by
  unfold Wakes at h
  split at h
  · exact h.elim
  · split at h
    · obtain ⟨e, s1, hr, _, _, rfl⟩ := h
      have := runs_size hr
      rw [setGen_size] at this ⊢
      exact this
    · rw [h.2]
      exact Nat.le_refl _
    · rw [h.2, setGen_size]
      exact Nat.le_refl _
  · obtain ⟨e, s1, hr, _, _, rfl⟩ := h
    have := runs_size hr
    rw [setGen_size] at this ⊢
    exact this
  · rw [h.2]
    exact Nat.le_refl _
  · rw [h.2]
    exact Nat.le_refl _
theorem wp_size {α : Type} {Γ : Ctx} (n : Nat) (m : Sem α) : ∀ {Q : α → Pos → Shared → Prop} {E : Value → Pos → Shared → Prop} {p : Pos} {s : Shared}, n ≤ s.gens.size → wp M Γ m Q E p s → wp M Γ m (fun a p' s' => Q a p' s' ∧ n ≤ s'.gens.size) E p s := by
  induction m with
  | pure a => exact fun hn h => ⟨h, hn⟩
  | raise e => exact fun _ h => h
  | unsupported w => exact fun _ h => h.elim
  | finish e => exact fun _ h => h.elim
  | register a k => exact fun _ h => h.elim
  | yield v g l k => exact fun _ h => h.elim
  | fork c k => exact fun _ h => h.elim
  | await a f d l k => exact fun _ h => h.elim
  | rule tag k ih => exact fun hn h => ih () hn h
  | «at» p' k ih => exact fun hn h => ih () hn h
  | load a part k ih =>
    rintro Q E p s hn ⟨o, ho, h⟩
    exact ⟨o, ho, ih o hn h⟩
  | update a part f k ih =>
    rintro Q E p s hn ⟨ha, h⟩
    exact ⟨ha, ih () (s := { s with heap := s.heap.update a f }) hn h⟩
  | alloc o k ih =>
    intro Q E p s hn h
    exact ih s.heap.objs.size (s := { s with heap := s.heap.push o }) hn h
  | loadIfAlive a k ih => exact fun hn h => ih _ hn h
  | point l k ih => exact fun hn h => ih () hn h
  | fresh k ih =>
    intro Q E p s hn h
    exact ih s.toks (s := { s with toks := s.toks + 1 }) hn h
  | ask k ih => exact fun hn h => ih _ hn h
  | choose src n k ih =>
    rintro Q E p s hn ⟨h0, h⟩
    exact ⟨h0, ih _ (s := { s with drawn := s.drawn.bump src }) hn h⟩
  | os q l k ih =>
    intro Q E p s hn h
    exact ih _ (s := { s with os := (Os.step s.os q).1 }) hn h
  | call c h g l k ih =>
    rintro Q E p s hn ⟨r, s1, hret, hw⟩
    exact ⟨r, s1, hret, ih r (Nat.le_trans hn (runs_size hret)) hw⟩
  | handled own k ih => exact fun hn h => ih _ hn h
  | newGen c k ih =>
    intro Q E p s hn h
    exact ih s.gens.size (s := { s with gens := s.gens.push (.fresh c) }) (by rw [Array.size_push]; omega) h
  | genState g k ih =>
    rintro Q E p s hn ⟨st, hg, h⟩
    exact ⟨st, hg, ih _ hn h⟩
  | resume g r l k ih =>
    rintro Q E p s hn ⟨res, s1, hwk, h⟩
    exact ⟨res, s1, hwk, ih res (Nat.le_trans hn (wakes_size hwk)) h⟩
  | stack k ih => exact fun hn h => ih _ hn h
  | thread k ih => exact fun hn h => ih _ hn h
theorem wpAny_size {α : Type} {A : Around} {t : Sem α} {Q : α → Shared → Prop} {E : Value → Shared → Prop} {s : Shared} {n : Nat} (hn : n ≤ s.gens.size) (h : wpAny M A t Q E s) : wpAny M A t (fun a s' => Q a s' ∧ n ≤ s'.gens.size) E s :=
  fun Γ p hΓ => wp_size n t hn (h Γ p hΓ)
end Tp


set_option Elab.async false
set_option linter.all false
set_option maxRecDepth 100000
set_option maxHeartbeats 4000000
/-! any, all of a generator expression whose element may call defs: the element is read in the generator's own frame by the hand layer's rules. -/
namespace Tp
open PySem PySem.Spec PyProof.Rows L2 Evl
/-! ### a code object's table, by what is true of it -/
def TabF (P : Addr) : Heap → Prop := fun h => ∃ ps : Array Value, h.get? P = some { cls := .none, data := .fields ps } ∧ TriplesOk ps.toList
def TabO (P : Addr) : HO := .ext (TabF P)
section
variable {X : Cx} {pins : List (Addr × Obj)} {σ : L2.St} {H : Hp} {s : Shared}
theorem tab_ok {P : Program} {w : World} {H : Hp} {h : Heap} {a : Addr} {ps : Array Value} (e : h.get? a = some { cls := .none, data := .fields ps }) (t : TriplesOk ps.toList) : ObjOk P w H h a (TabO a) :=
  ⟨⟨ps, e, t⟩, ⟨_, e⟩, fun h1 h2 ⟨ps, e, t⟩ k => ⟨ps, k _ e, t⟩⟩
/-- the table has grown: the abstract heap stays -/
theorem inv_code {P : Addr} {ps' : Array Value} {h' : Heap} {tk : Nat} (I : Inv X pins σ H s) (hP : H P = some (TabO P)) (k : ∀ b o, b ≠ P → s.heap.get? b = some o → h'.get? b = some o) (hm : h'.get? P = some { cls := .none, data := .fields ps' }) (ht : TriplesOk ps'.toList) :
    Inv X pins σ H { s with heap := h', toks := tk } := by
  have nN : ∀ b, H b = none → b ≠ P := fun b e z => by
    rw [z, hP] at e
    cases e
  have nO : ∀ b u, H b = some u → u ≠ TabO P → b ≠ P := fun b u e q z => by
    rw [z, hP] at e
    exact q (Option.some.inj e).symm
  refine I.step (g' := s.gens) (d' := s.drawn) (ch := []) (fun b hb => absurd hb (by simp)) (fun b o _ _ _ e n => k b o (nN b n) e) (fun b o _ _ _ e n => ⟨o.slots, k b o (nN b n) e⟩) (fun b o _ e n => n) (fun b o _ e => ?_) (fun b xs e => e) (fun b o u e => e) (fun b qs e => ⟨#[], by rw [e]; simp⟩) (fun m hn => ?_) (fun b u e => ?_) I.bare
  · by_cases hb : b = P
    · rw [hb]
      exact ⟨_, hm⟩
    · exact ⟨o, k b o hb e⟩
  · obtain ⟨ob, es, ep, ho, r⟩ := hn
    exact ⟨ob, es, ep, k _ ob (nN _ I.free) ho, r⟩
  · by_cases hb : b = P
    · subst hb
      rw [hP] at e
      cases e
      exact tab_ok hm ht
    · refine (I.hok b u e).stay (fun d v hd q => k d v ?_ q) (fun d q => q) fun d xs q => q
      rcases hd with z | z
      · rw [z]
        exact hb
      · exact nO d _ z (by unfold TabO; nofun)
theorem inv_gens {G : Array GenState} (I : Inv X pins σ H s) (hG : AllBare G) : Inv X pins σ H { s with gens := G } := ⟨I.ok, I.os, hG, I.base, I.loc, I.cell, I.free, I.freeC, I.pin, I.hok, I.len⟩
theorem inv_like {s' : Shared} (I : Inv X pins σ H s) (h1 : s'.heap = s.heap) (h2 : s'.os = s.os) (hG : AllBare s'.gens) : Inv X pins σ H s' := by
  obtain ⟨h', g', d', t', o'⟩ := s'
  have e1 : h' = s.heap := h1
  have e2 : o' = s.os := h2
  subst e1 e2
  exact ⟨I.ok, I.os, hG, I.base, I.loc, I.cell, I.free, I.freeC, I.pin, I.hok, I.len⟩
end
theorem bare_set {s : Shared} {g : Nat} {x : GenState} (h : AllBare s.gens) (hx : x.bare = true) : AllBare (s.setGen g x).gens := by
  intro y hy
  unfold Shared.setGen at hy
  rcases Array.mem_or_eq_of_mem_setIfInBounds hy with q | q
  · exact h y q
  · rw [q]
    exact hx
theorem get_set {s : Shared} {g : Nat} {x : GenState} (h : g < s.gens.size) : (s.setGen g x).gens[g]? = some x := by
  unfold Shared.setGen
  simp [h]
/-! ### the generator's context -/
/-- names of the generator's scope: its own, and captured ones with their places in the def -/
def gnB (N : List Str) (sc scope : Scope) (cs : List (Str × Nat)) : Bool :=
  decide (scope.kind = .function) && (!scope.isCoroutine && (scope.names.all (fun y => !decide (y.2 = .cell) && (!decide (y.2 = .free) || decide (sc.names.lookup y.1 = some .cell) || decide (sc.names.lookup y.1 = some .free))) &&
    (decide (scope.names.lookup (".0" : Str) = some NameKind.local) && cs.all (fun p => decide (scope.names.lookup p.1 = some .free) && decide (N[p.2]? = some p.1)))))
structure GnS (N : List Str) (sc scope : Scope) (cs : List (Str × Nat)) : Prop where
  kind : scope.kind = .function
  co : scope.isCoroutine = false
  cell : ∀ y ∈ scope.names, y.2 ≠ .cell
  free : ∀ y ∈ scope.names, y.2 = .free → sc.names.lookup y.1 = some .cell ∨ sc.names.lookup y.1 = some .free
  dot : scope.names.lookup (".0" : Str) = some NameKind.local
  cap : ∀ p ∈ cs, scope.names.lookup p.1 = some .free ∧ N[p.2]? = some p.1
theorem gnS_by {N : List Str} {sc scope : Scope} {cs : List (Str × Nat)} (h : gnB N sc scope cs = true) : GnS N sc scope cs := by
  unfold gnB at h
  simp only [Bool.and_eq_true, Bool.or_eq_true, Bool.not_eq_true', decide_eq_true_eq, decide_eq_false_iff_not, List.all_eq_true] at h
  obtain ⟨h1, h2, h3, h4, h5⟩ := h
  refine ⟨h1, h2, fun y hy => (h3 y hy).1, fun y hy e => ?_, h4, h5⟩
  rcases (h3 y hy).2 with (z | z) | z
  · exact absurd e z
  · exact .inl z
  · exact .inr z
def σG (o : Nat) (cs : List (Str × Nat)) (σ : L2.St) : L2.St := List.replicate o none ++ cs.map fun p => (σ[p.2]?).getD none
def genCx (X : Cx) (A : Around) (s : Shared) (H : Hp) (cenv : Env) (N : List Str) (fp : List Addr) : Cx :=
  { X with A := A, N := N, s_0 := s, H_0 := H, env := cenv, outer := X.stack, stack := cenv :: X.stack, ex := fp, fn := fun _ => false, calm := true, pn := [], xe := fun _ _ => False }
section
variable {X : Cx} {pins : List (Addr × Obj)} {σ : L2.St} {H : Hp} {s : Shared}
theorem gen_start {own : List Str} {cs : List (Str × Nat)} {A : Around} {scope : Scope} {C : Addr} {code : Value} {h5 : Heap} {g5 : Array GenState} {tk : Nat} {fp : List Addr} {m0 : Str → Option Value} (I : Inv X pins σ H s) (L : GnS X.N X.env.scope scope cs) (hfp : ∀ b ∈ fp, FpOk X pins H b ∧ b < s.heap.objs.size)
    (hcL : s.heap.objs.size ≤ C) (hA : A.handled = none) (hAf : A.frames = some (genEnv scope (cloFrom X.env.cells scope.names []) C code builtinsNs X.env :: X.stack)) (kp : ∀ b o, s.heap.get? b = some o → h5.get? b = some o) (hns : h5.Ns C m0) (hg : AllBare g5) :
    Inv (genCx X A s H (genEnv scope (cloFrom X.env.cells scope.names []) C code builtinsNs X.env) (own ++ cs.map (·.1)) fp) [] (σG own.length cs σ) H { s with heap := h5, gens := g5, toks := tk } := by
  have hfree : ∀ y ∈ scope.names, y.2 = .free → ∃ c, X.env.cells.lookup y.1 = some c := fun y hy e => by
    rcases L.free y hy e with k | k
    · exact I.ok.has _ (.inl k)
    · exact I.ok.has _ (.inr k)
  have cm : ∀ {y c}, (cloFrom X.env.cells scope.names []).lookup y = some c → X.env.cells.lookup y = some c := fun {y c} e => by
    rcases cloFrom_mem (PySem.mem_of_lookup e) with hm | ⟨h1, h2⟩
    · cases hm
    · obtain ⟨c1, hc⟩ := hfree _ h1 rfl
      have hc : X.env.cells.lookup y = some c1 := hc
      have e2 : c = c1 := by
        rw [h2, hc] <;> rfl
      rw [e2]
      exact hc
  have look : ∀ {y}, scope.names.lookup y = some .free → ∃ c, (cloFrom X.env.cells scope.names []).lookup y = some c := fun {y} hl => by
    have hy : (y, NameKind.free) ∈ scope.names := PySem.mem_of_lookup hl
    exact mem_lookup (cloFrom_has (cells := X.env.cells) (acc := []) hy)
  have cellK : ∀ {c : Addr} {v : Option Value}, s.heap.IsCell c v → h5.IsCell c v := fun {c v} z => z.keeps kp
  have e0 := I.env0
  have blt : builtinsNs = X.env.builtins := I.ok.blt.symm
  refine ⟨⟨e0.mod, L.kind, I.ok.glob, rfl, hcL, fun y z c e1 e2 => I.ok.inj y z c (cm e1) (cm e2), fun y hy => ?_, fun y c z _ => ?_, fun _ => hA, hAf, .inr ⟨rfl, rfl⟩, fun b hb => ⟨?_, fun y c e z => ?_⟩, e0.bs, e0.bsz, fun b o e hb => ?_, fun b hb z => ?_, e0.funs, e0.frf⟩,
    rfl, hg, Un.kept kp, ⟨_, hns, fun i y v e1 e2 e3 => ?_⟩, fun y c e => ?_, e0.hok.fresh hcL, fun y c e => ?_, fun q hq => absurd (show q ∈ ([] : List (Addr × Obj)) ++ [] from hq) (by simp), e0.hok.kept kp, ?_⟩
  · have hy : scope.names.lookup y = some .cell ∨ scope.names.lookup y = some .free := hy
    rcases hy with hy | hy
    · exact absurd rfl (L.cell _ (PySem.mem_of_lookup hy))
    · exact look hy
  · have z : false = true := z
    cases z
  · exact Nat.ne_of_lt (Nat.lt_of_lt_of_le (hfp b hb).2 hcL)
  · exact (hfp b hb).1.2.2.2.2.1 y c (cm e) z
  · rcases (hfp b hb).1.2.2.2.1 with z | z
    · exact I.ok.noex b o e z
    · exact absurd (Nat.lt_of_lt_of_le (Heap.lt_size e) (Nat.le_trans I.ok.bsz z)) (Nat.lt_irrefl _)
  · rcases List.mem_cons.mp (I.stkSub b z) with z | z
    · exact (hfp b hb).1.2.1 z
    · exact (hfp b hb).1.2.2.1 z
  · have e1 : (own ++ cs.map (·.1))[i]? = some y := e1
    unfold σG at e2
    by_cases hi : i < own.length
    · rw [List.getElem?_append_left (by rw [List.length_replicate]; exact hi), List.getElem?_replicate] at e2
      split at e2 <;> cases e2
    · rw [List.getElem?_append_right (by rw [List.length_replicate]; omega), List.length_replicate, List.getElem?_map] at e2
      rw [List.getElem?_append_right (by omega), List.getElem?_map] at e1
      cases q : cs[i - own.length]? with
      | none => rw [q] at e1; cases e1
      | some p =>
        rw [q] at e1 e2
        have e1 : p.1 = y := Option.some.inj e1
        have e2 : (σ[p.2]?).getD none = some v := Option.some.inj e2
        obtain ⟨k, hN⟩ := L.cap p (List.mem_of_getElem? q)
        rw [e1] at k hN
        have e2' : σ[p.2]? = some (some v) := by
          cases r : σ[p.2]? with
          | none => rw [r] at e2; cases e2
          | some w' =>
            rw [r] at e2
            have e2 : w' = some v := e2
            rw [e2]
        obtain ⟨m, hn, hl⟩ := I.loc
        have hvis : Vis X.env.scope y := (L.free _ (PySem.mem_of_lookup k) rfl).elim (fun k => .inr (.inl k)) (fun k => .inr (.inr k))
        obtain ⟨w', r, q⟩ := hl p.2 y v hN e2' hvis
        obtain ⟨c2, h2⟩ := look k
        refine ⟨w', r, .inr ⟨.inr k, c2, h2, ?_⟩⟩
        have c1 := cm h2
        rcases q with ⟨k', _⟩ | ⟨_, c3, e', z⟩
        · have k' : X.env.scope.names.lookup y = some .local := k'
          rcases L.free _ (PySem.mem_of_lookup k) rfl with k2 | k2 <;> rw [show X.env.scope.names.lookup y = _ from k2] at k' <;> cases k'
        · rw [c1] at e'
          cases e'
          exact cellK z
  · obtain ⟨w', z⟩ := I.cell y c (cm e)
    exact ⟨w', cellK z⟩
  · exact I.freeC y c (cm e)
  · show (σG own.length cs σ).length = (own ++ cs.map (·.1)).length
    unfold σG
    simp
end
/-! ### the protocol -/
def GEnd (Xg : Cx) (pl : List (Addr × Obj)) (st : Bool) (Q : VK) (g : Nat) (s1 : Shared) : Prop := ∃ σ' H', Inv Xg pl σ' H' s1 ∧ g < s1.gens.size ∧ Q (.bl (!st)) H'
def GYp (Xg : Cx) (pl : List (Addr × Obj)) (st : Bool) (Q : VK) (g : Nat) : Protocol := fun m _ v s kap => ∃ σ' H' b, v = .bool b ∧ Inv Xg pl σ' H' s ∧ g < s.gens.size ∧ (b = st → Q (.bl st) H') ∧
  (b ≠ st → 1 ≤ m ∧ ∀ s'' : Shared, s''.heap = s.heap → s''.os = s.os → AllBare s''.gens → g < s''.gens.size → kap (.send .none) s'')
/-- the turns of the reading -/
def GTurn (st : Bool) (Q : VK) (J : It) (W : Nat → Nat → Hp → Prop) (g : TG) (te : TE) (o : Nat) (σ0 : L2.St) : Prop := ∀ i m H, W i m H →
  (J.stop i H ∧ Q (.bl (!st)) H) ∨ (J.go i H ∧ ∀ x H', J.yld i H x H' → g x σ0 H' fun σ2 H2 => (σ2.drop o = σ0.drop o ∧ σ2.length = σ0.length) ∧ te σ2 H2 fun y H3 => ∃ b, y = .bl b ∧ (b = st → Q (.bl st) H3) ∧ (b ≠ st → ∃ m', m' < m ∧ W (i + 1) m' H3))
section
variable {Xg : Cx} {K : PySem.W.Frag} {elt tg iter : Expr} {scope : Scope} {pos : Pos} {it : Addr} {fp : List Addr} {tn : Nat → Heap → Prop} {J : It} {W : Nat → Nat → Hp → Prop} {tgr : TG} {te : TE} {σ0 : L2.St} {st : Bool} {Q : VK} {a : Addr} {oa : Obj} {g : Nat} {o : Nat}
def GI (Xg : Cx) (pl : List (Addr × Obj)) (tn : Nat → Heap → Prop) (fp : List Addr) (σ0 : L2.St) (W : Nat → Nat → Hp → Prop) (g i m : Nat) (s : Shared) : Prop :=
  ∃ H m0, Inv Xg pl σ0 H s ∧ tn i s.heap ∧ (∀ b ∈ fp, H b = none) ∧ m0 ≤ m ∧ W i m0 H ∧ g < s.gens.size
theorem seg_loop {A : Around} (hXA : Xg.A = A.over (.compLoop (.GeneratorExp elt [⟨tg, iter, [], 0⟩] scope pos) 0 (.ref it) .none Xg.env) []) (hco : Xg.env.scope.isCoroutine = false) (hc : Xg.calm = true) (hex : Xg.ex = fp) (hpn : Xg.pn = []) (hxe : Xg.xe = fun _ _ => False)
    (T : Turn Xg.prog Xg.w Xg.K tg J fp it tn) (haf : a ∉ fp) (haL : ∀ p ∈ [(a, oa)], ∀ v, p.2.data ≠ .cell v) (hpg : PG Xg tg tgr) (hpe : PE Xg elt te) (hσ0 : ∀ i v, σ0[i]? = some (some v) → o ≤ i) (turn : GTurn st Q J W tgr te o σ0) :
    ∀ (m i : Nat) (s0 s : Shared), GI Xg [(a, oa)] tn fp σ0 W g i m s → Seg (model Xg.prog Xg.w) A (fun _ _ r s1 => r = .ok .next ∧ GEnd Xg [(a, oa)] st Q g s1) (GYp Xg [(a, oa)] st Q g) (m + 1) s0
      (.compLoop (.GeneratorExp elt [⟨tg, iter, [], 0⟩] scope pos) 0 (.ref it) .none Xg.env) ((model Xg.prog Xg.w).den (.compLoop (.GeneratorExp elt [⟨tg, iter, [], 0⟩] scope pos) 0 (.ref it) .none Xg.env)) [] s := by
  have stat : ∀ {σ' : L2.St} {H' : Hp} {s' : Shared}, Inv Xg [(a, oa)] σ' H' s' → (∀ b ∈ fp, H' b = none) → ∀ b ∈ fp, FpOk Xg [(a, oa)] H' b := fun {σ' H' s'} I' hn b hb =>
    ⟨hn b hb, (I'.ok.exf b (by rw [hex]; exact hb)).1, I'.ok.exfs b (by rw [hex]; exact hb), .inl (by rw [hex]; exact hb), fun x c e => (I'.ok.exf b (by rw [hex]; exact hb)).2 x c e, fun p hp => by
      rw [hpn] at hp
      have : p = (a, oa) := by simpa using hp
      rw [this]
      exact fun z => haf (by rw [← z] at hb; exact hb)⟩
  intro m
  induction m using Nat.strongRecOn with
  | _ m ih =>
    rintro i s0 s ⟨H, m0, I, st0, n0, hm, w0, hg⟩
    show Seg _ A _ _ _ s0 _ ((compTurn (.GeneratorExp elt [⟨tg, iter, [], 0⟩] scope pos) 0 (.ref it) .none Xg.env).onRaise (leaving Xg.env)) [] s
    rw [compTurn_gen, Sem.onRaise_eq_wrap]
    refine seg_bind_wrap (wpAny_standAt ?_)
    rcases turn i m0 H w0 with ⟨stop, qq⟩ | ⟨go, step⟩
    · refine seg_bind_wrap (by
        rw [← hXA]
        refine wpAny_mono (wpAny_size (n := g + 1) hg (T.done Xg rfl rfl rfl hc i [(a, oa)] s σ0 H (fun _ _ => False) I (stat I n0) st0 stop)) (fun r s1 h1 => ?_) fun _ _ z => z.elim
        obtain ⟨⟨hr, I1⟩, hz⟩ := h1
        subst hr
        exact seg_end (.ok .next) ⟨rfl, _, _, I1, hz, qq⟩)
    · refine seg_bind_wrap (by
        rw [← hXA]
        refine wpAny_mono (wpAny_size (n := g + 1) hg (T.item Xg rfl rfl rfl hc i [(a, oa)] s σ0 H (fun _ _ => False) I (stat I n0) st0 go)) (fun r s1 h1 => ?_) fun _ _ z => z.elim
        obtain ⟨⟨u, hr, h6⟩, hz1⟩ := h1
        subst hr
        refine seg_bind_wrap (by
          rw [← hXA]
          refine wpAny_mono (wpAny_size (n := g + 1) hz1 h6) (fun _ s7 h7 => ?_) fun _ _ z => z.elim
          obtain ⟨⟨x, H7, I7, r7, y7, st7, n7⟩, hz7⟩ := h7
          have I7' := I7.pinned (stat I7 n7) (T.obj _ _ st7)
          refine seg_bind_wrap (by
            rw [← hXA]
            refine wpAny_mono (wpAny_size (n := g + 1) hz7 (hpg.run _ s7 _ H7 x u _ I7' r7 (step x H7 y7))) (fun _ s8 h8 => ?_) fun _ s' z => by
              rw [hxe] at z
              exact z.elim
            obtain ⟨⟨σ8, H8, I8, ⟨hw8, hl8⟩, q8⟩, hz8⟩ := h8
            refine seg_bind_wrap (by
              rw [← hXA]
              refine wpAny_tests_nil ?_
              simp only [if_true]
              have hy : ∀ v, yieldOut Xg.env v = yieldValue v := fun v => by simp only [yieldOut, hco, Bool.false_eq_true, if_false]
              simp only [hy]
              rw [Sem.bind_eq_wrap', Sem.bind_eq_wrap', Sem.wrap_wrap, Sem.wrap_wrap]
              refine seg_wrap (by
                rw [← hXA]
                refine wpAny_mono (wpAny_size (n := g + 1) hz8 (hpe.run _ s8 σ8 H8 _ I8 q8)) (fun yv s9 h9 => ?_) fun _ s' z => by
                  rw [hxe] at z
                  exact z.elim
                obtain ⟨⟨yx, H9, I9, r9, b, rfl, hs, hn⟩, hz9⟩ := h9
                have r9 : yv = Value.bool b := r9
                subst r9
                refine seg_at (seg_yield rfl rfl rfl ⟨σ8, H9, b, rfl, I9.unpinned, hz9, hs, fun hb => ?_⟩)
                obtain ⟨m', hm', w'⟩ := hn hb
                refine ⟨by omega, fun s'' e1 e2 hG hgs => ?_⟩
                obtain ⟨m1, rfl⟩ : ∃ m1, m = m1 + 1 := ⟨m - 1, by omega⟩
                have pin' : ∀ b ∈ fp, ∀ o, s7.heap.get? b = some o → s9.heap.get? b = some o ∧ H9 b = none := fun b hb o e =>
                  let z := I9.pin (b, o) (List.mem_append_right _ (List.mem_append_right _ (mem_pinsAt hb e)))
                  ⟨z.1, z.2.1⟩
                refine seg_again rfl (ih m1 (by omega) (i + 1) s'' s'' ⟨H9, m', (inv_like I9.unpinned e1 e2 hG).weak hl8.symm (fun j v e => ?_), T.keep _ _ _ st7 fun b hb o e => by rw [e1]; exact (pin' b hb o e).1, fun b hb => ?_, by omega, w', hgs⟩)
                · have hj := hσ0 j v e
                  have e2 := congrArg (fun l => l[j - o]?) hw8
                  simp only [List.getElem?_drop] at e2
                  rw [show o + (j - o) = j by omega] at e2
                  rw [e2]
                  exact e
                · obtain ⟨ob, e, _⟩ := T.obj _ _ st7 b hb
                  exact (pin' b hb ob e).2)))))
/-- the generator a at state g, ready for its next turn -/
def LS (Xg : Cx) (A : Around) (a : Addr) (oa : Obj) (st : Bool) (Q : VK) (g m : Nat) (s : Shared) : Prop :=
  s.heap.IsGen a g ∧ s.heap.NoLimit ∧ ∃ gs, s.gens[g]? = some gs ∧ gs.Goes (model Xg.prog Xg.w) A.in1.in1 (fun _ _ r s1 => r = .ok .next ∧ GEnd Xg [(a, oa)] st Q g s1) (GYp Xg [(a, oa)] st Q g) (m + 1) (.send .none) (s.setGen g .running)
def GenO (oa : Obj) (g : Nat) : Prop := oa.cls = .type "generator" ∧ ∃ nm qn, oa.data = .fields #[.int g 0, nm, qn] ∧ oa.slots = #[]
theorem isGen_of {pl : List (Addr × Obj)} {σ : L2.St} {H : Hp} {s : Shared} (I : Inv Xg [(a, oa)] σ H s) (ho : GenO oa g) : s.heap.IsGen a g := by
  obtain ⟨h1, nm, qn, h2, h3⟩ := ho
  exact ⟨oa, nm, qn, (I.pin (a, oa) (List.mem_append_right _ (List.mem_singleton.mpr rfl))).1, h1, h2, h3⟩
section
variable {A : Around} {R : Result → Shared → Prop}
theorem loop_all (hh : A.in1.handled = none) (hroom : A.in1.depth < recursionLimit) (ho : GenO oa g) (fin : ∀ (b : Bool) (σ' : L2.St) (H' : Hp) (s' : Shared), Inv Xg [(a, oa)] σ' H' s' → Q (.bl b) H' → R (.ok (.ret (.bool b))) s') :
    ∀ (m : Nat) (s : Shared), LS Xg A a oa false Q g m s → codeAny (model Xg.prog Xg.w) A (.builtin "all.loop" ⟨[.ref a], []⟩) R s := by
  intro m
  induction m using Nat.strongRecOn with
  | _ m ih =>
    rintro s ⟨hg, hl, gs, hgs, hgo⟩
    refine codeAny_builtin F.entry_all_loop ?_
    rw [Around.under_plainId F.plain_all_loop _]
    show wpAny _ A.in1 (pyNext (.ref a) >>= _) _ _ s
    refine wpAny_bind (wpAny_pyNext_genexpQ (P := fun _ _ s1 => GEnd Xg [(a, oa)] false Q g s1) hh hl hroom hg hgs hgo (fun v s1 gs' hb hv => ?_) (fun s1 hp h' hk => ?_))
    · obtain ⟨σ', H', b, rfl, I, hz, hs, hn⟩ := hv
      refine wpAny_bind (wpAny_holding (wpAny_truthy_bool ?_))
      refine wpAny_bind (wpAny_letGo ?_)
      cases b with
      | true =>
        obtain ⟨h1, kap⟩ := hn (by decide)
        obtain ⟨m1, rfl⟩ : ∃ m1, m = m1 + 1 := ⟨m - 1, by omega⟩
        simp only [if_true]
        have hz' : g < (s1.setGen g gs').gens.size := by
          rw [setGen_size]
          exact hz
        refine wpAny_pure ⟨plainId_quiet F.plain_all_loop _, ih m1 (by omega) _ ⟨show (s1.setGen g gs').heap.IsGen a g from isGen_of (s := s1) (pl := []) I ho, show (s1.setGen g gs').heap.NoLimit from I.nolimit, gs', get_set hz, kap _ rfl rfl (bare_set (bare_set I.bare hb) rfl) (by rw [setGen_size, setGen_size]; exact hz)⟩⟩
      | false =>
        simp only [Bool.false_eq_true, if_false]
        refine wpAny_bind (wpAny_rule (wpAny_pure ?_))
        exact fin false σ' H' _ (inv_gens I (bare_set I.bare hb)) (hs rfl)
    · obtain ⟨σ', H', I, hz, q⟩ := hp
      refine wpAny_bind (wpAny_rule (wpAny_pure ?_))
      exact fin true σ' H' _ ((inv_gens I (bare_set I.bare rfl)).kept hk) q
theorem loop_any (hh : A.in1.handled = none) (hroom : A.in1.depth < recursionLimit) (ho : GenO oa g) (fin : ∀ (b : Bool) (σ' : L2.St) (H' : Hp) (s' : Shared), Inv Xg [(a, oa)] σ' H' s' → Q (.bl b) H' → R (.ok (.ret (.bool b))) s') :
    ∀ (m : Nat) (s : Shared), LS Xg A a oa true Q g m s → codeAny (model Xg.prog Xg.w) A (.builtin "any.loop" ⟨[.ref a], []⟩) R s := by
  intro m
  induction m using Nat.strongRecOn with
  | _ m ih =>
    rintro s ⟨hg, hl, gs, hgs, hgo⟩
    refine codeAny_builtin F.entry_any_loop ?_
    rw [Around.under_plainId F.plain_any_loop _]
    show wpAny _ A.in1 (pyNext (.ref a) >>= _) _ _ s
    refine wpAny_bind (wpAny_pyNext_genexpQ (P := fun _ _ s1 => GEnd Xg [(a, oa)] true Q g s1) hh hl hroom hg hgs hgo (fun v s1 gs' hb hv => ?_) (fun s1 hp h' hk => ?_))
    · obtain ⟨σ', H', b, rfl, I, hz, hs, hn⟩ := hv
      refine wpAny_bind (wpAny_holding (wpAny_truthy_bool ?_))
      refine wpAny_bind (wpAny_letGo ?_)
      cases b with
      | false =>
        obtain ⟨h1, kap⟩ := hn (by decide)
        obtain ⟨m1, rfl⟩ : ∃ m1, m = m1 + 1 := ⟨m - 1, by omega⟩
        simp only [Bool.false_eq_true, if_false]
        refine wpAny_pure ⟨plainId_quiet F.plain_any_loop _, ih m1 (by omega) _ ⟨show (s1.setGen g gs').heap.IsGen a g from isGen_of (s := s1) (pl := []) I ho, show (s1.setGen g gs').heap.NoLimit from I.nolimit, gs', get_set hz, kap _ rfl rfl (bare_set (bare_set I.bare hb) rfl) (by rw [setGen_size, setGen_size]; exact hz)⟩⟩
      | true =>
        simp only [if_true]
        refine wpAny_bind (wpAny_rule (wpAny_pure ?_))
        exact fin true σ' H' _ (inv_gens I (bare_set I.bare hb)) (hs rfl)
    · obtain ⟨σ', H', I, hz, q⟩ := hp
      refine wpAny_bind (wpAny_rule (wpAny_pure ?_))
      exact fin false σ' H' _ ((inv_gens I (bare_set I.bare rfl)).kept hk) q
end
/-- the generator's first steps lead to its loop -/
theorem seg_first {A : Around} {cenv : Env} {P : Program} {w : World} {K : PySem.W.Frag} {R : GenEnd} {Y : Protocol} {n : Nat} {s0 s : Shared} (T : Turn P w K tg J fp it tn) (st0 : tn 0 s.heap)
    (loop : Seg (model P w) A R Y n s0 (.compLoop (.GeneratorExp elt [⟨tg, iter, [], 0⟩] scope pos) 0 (.ref it) .none cenv) ((model P w).den (.compLoop (.GeneratorExp elt [⟨tg, iter, [], 0⟩] scope pos) 0 (.ref it) .none cenv)) [] s) :
    Seg (model P w) A R Y n s0 (.compStart (.GeneratorExp elt [⟨tg, iter, [], 0⟩] scope pos) 0 (.ref it) .none cenv) ((model P w).den (.compStart (.GeneratorExp elt [⟨tg, iter, [], 0⟩] scope pos) 0 (.ref it) .none cenv)) [] s := by
  show Seg _ A _ _ _ s0 _ ((compStart (.GeneratorExp elt [⟨tg, iter, [], 0⟩] scope pos) 0 (.ref it) .none cenv).onRaise (leaving cenv)) [] s
  unfold compStart
  rw [Sem.onRaise_eq_wrap]
  show Seg _ A _ _ _ s0 _ ((ask >>= _).wrap _ _ _ _) [] s
  refine seg_bind_wrap (wpAny_askSetting ?_)
  split
  · exact seg_again rfl loop
  · first
      | exact seg_bind_wrap (wpAny_rule (seg_bind_wrap (wpAny_standAt (seg_bind_wrap (T.self _ 0 s _ _ st0 (seg_again rfl loop))))))
      | (refine seg_bind_wrap (wpAny_rule ?_); show Seg _ A _ _ _ s0 _ ((standAt iter.pos >>= _).wrap _ _ _ _) [] s; exact seg_bind_wrap (wpAny_standAt (seg_bind_wrap (T.self _ 0 s _ _ st0 (seg_again rfl loop)))))
end
/-! ### the rules -/
/-- any (st = true), all (st = false) of a generator expression: P the def's table, o the number of the generator's own names, cs the captured ones with their places -/
def tGx (st : Bool) (P : Addr) (wi : TI) (g : TG) (te : TE) (o : Nat) (cs : List (Str × Nat)) : TE := fun σ H Q => wi σ H fun J H1 => H1 P = some (TabO P) ∧ ∃ W : Nat → Nat → Hp → Prop, (∃ m, W 0 m H1) ∧ GTurn st Q J W g te o (σG o cs σ)
section
variable {X : Cx} {pins : List (Addr × Obj)} {σ : L2.St} {H : Hp} {s : Shared} {c P : Addr} {elt tg iter : Expr} {scope : Scope} {p pos gpos : Pos} {wi : TI} {tgr : TG} {te : TE} {own : List Str} {cs : List (Str × Nat)} {k : Nat} {st : Bool} {Q : VK}
theorem gen_ready {Q' : Value → Shared → Prop} (hr : Room (k + 1) X.A) (TB : GxR.TabB X.base X.mg c P) (hcode : X.env.code = .ref c) (L : GnS X.N X.env.scope scope cs) (hi : PI X tg iter wi)
    (hpg : ∀ (A : Around) (s : Shared) (H : Hp) (C : Addr) (code : Value) (fp : List Addr), PG (genCx X A s H (genEnv scope (cloFrom X.env.cells scope.names []) C code builtinsNs X.env) (own ++ cs.map (·.1)) fp) tg tgr)
    (hpe : ∀ (A : Around) (s : Shared) (H : Hp) (C : Addr) (code : Value) (fp : List Addr), Room k A → PE (genCx X A s H (genEnv scope (cloFrom X.env.cells scope.names []) C code builtinsNs X.env) (own ++ cs.map (·.1)) fp) elt te)
    (hs : ∀ v, genFold iter X.env v = pure v) (I : Inv X pins σ H s) (h : tGx st P wi tgr te own.length cs σ H Q)
    (hQ : ∀ (Xg : Cx) (a : Addr) (oa : Obj) (g m : Nat) (s5 : Shared), Xg.prog = X.prog → Xg.w = X.w → GenO oa g → LS Xg X.A a oa st Q g m s5 → (∀ σ' H' s', Inv Xg [(a, oa)] σ' H' s' → Inv X pins σ H' s') → Q' (.ref a) s5) :
    wpAny (model X.prog X.w) X.A (eval (.GeneratorExp elt [⟨tg, iter, [], 0⟩] scope gpos) X.env) Q' X.xe s := by
  have hfree : ∀ y ∈ scope.names, y.2 = .free → ∃ c, X.env.cells.lookup y.1 = some c := fun y hy e => by
    rcases L.free y hy e with k | k
    · exact I.ok.has _ (.inl k)
    · exact I.ok.has _ (.inr k)
  refine wpAny_GeneratorExp_make L.co (closure_ok hfree) L.cell L.dot L.kind hr.depth (thn (hi.run pins s σ H _ I h) fun xv s1 hx => thn hx fun itv s2 h2 => ?_) hs
  obtain ⟨it, fp, tn, J, H2, rfl, I2, T, st2, f2, hTab, W, ⟨m0, w0⟩, turn⟩ := h2
  obtain ⟨⟨ps, ePs, tr⟩, _, _⟩ := I2.hok P _ hTab
  have hPlt : P < s2.heap.objs.size := Heap.lt_size ePs
  have cd : PySem.W.CodeHd s2.heap c P := TB.code.keeps fun b u e => I2.bk b u e
  have sz : ∀ b ∈ fp, b < s2.heap.objs.size := fun b hb => by
    obtain ⟨o, e, _⟩ := T.obj _ _ st2 b hb
    exact Heap.lt_size e
  have nfP : ∀ b ∈ fp, b ≠ P := fun b hb z => by
    have := (f2 b hb).1
    rw [z, hTab] at this
    cases this
  have cont : ∀ (code : Value) (h3 : Heap) (tk : Nat) (ps' : Array Value), Heap.ExtBut P s2.heap h3 → s2.heap.objs.size ≤ h3.objs.size → h3.get? P = some { cls := .none, data := .fields ps' } → TriplesOk ps'.toList →
      wpAny (model X.prog X.w) X.A (builtinsFor X.env.globals X.env.builtins) (fun bi s₄ => ∀ h', h'.Ns s₄.heap.objs.size (fun y => if y = ".0" then some (Value.ref it) else none) → Heap.SameBut s₄.heap.objs.size (s₄.heap.push { cls := .type "frame", data := .dict #[] }) h' →
          Q' (.ref h'.objs.size) { s₄ with
            gens := s₄.gens.push (.fresh (.compStart (.GeneratorExp elt [⟨tg, iter, [], 0⟩] scope gpos) 0 (.ref it) .none (genEnv scope (cloFrom X.env.cells scope.names []) s₄.heap.objs.size code bi X.env))),
            toks := s₄.toks + 1 + 1 + 1,
            heap := h'.push { cls := .type "generator", data := .fields #[.int s₄.gens.size 0, .str "<genexpr>" (s₄.toks + 1), .str (X.env.qual ++ "<genexpr>") (s₄.toks + 1 + 1)] } }) X.xe { s2 with heap := h3, toks := tk } := by
    intro code h3 tk ps' hx hsz hP3 ht3
    have kx : ∀ b o, b ≠ P → s2.heap.get? b = some o → h3.get? b = some o := fun b o hb e => hx b o hb e
    have I3 := inv_code (tk := tk) I2 hTab kx hP3 ht3
    obtain ⟨bm, ob, e1, e2, e3, e4, e5, e6, e7, e8⟩ := TB.bm
    refine wpAny_builtinsFor (m := X.mg) (by rw [I3.ok.glob]; exact I3.mod.glob.keeps I3.bk) e1 e2 (I3.bk _ _ e5) e6 e7 e8 ?_
    intro h' hn' hs'
    have st3 : tn 0 h3 := T.keep _ _ _ st2 fun b hb o e => kx b o (nfP b hb) e
    generalize hs3 : ({ s2 with heap := h3, toks := tk } : Shared) = s3 at I3 hn' hs' ⊢
    have eh : s3.heap = h3 := by rw [← hs3]
    have hszh : h'.objs.size = s3.heap.objs.size + 1 := by rw [hs'.1, Heap.size_push]
    have keep' : ∀ b o, s3.heap.get? b = some o → h'.get? b = some o := fun b o e => hs'.extBut b o (Nat.ne_of_lt (Heap.lt_size e)) (Heap.get?_push_of_some _ e)
    generalize hgo : ({ cls := .type "generator", data := .fields #[.int s3.gens.size 0, .str "<genexpr>" (s3.toks + 1), .str (X.env.qual ++ "<genexpr>") (s3.toks + 1 + 1)] } : Obj) = go
    have kp : ∀ b o, s3.heap.get? b = some o → (h'.push go).get? b = some o := fun b o e => Heap.get?_push_of_some _ (keep' b o e)
    have hfp : ∀ b ∈ fp, FpOk X pins H2 b ∧ b < s3.heap.objs.size := fun b hb => ⟨f2 b hb, by rw [eh]; exact Nat.lt_of_lt_of_le (sz b hb) hsz⟩
    have hho : GenO go s3.gens.size := by
      rw [← hgo]
      exact ⟨rfl, _, _, rfl, rfl⟩
    have hh1 : X.A.in1.handled = none := hr.hd
    generalize hA : (X.A.in1.in1).over (.compLoop (.GeneratorExp elt [⟨tg, iter, [], 0⟩] scope gpos) 0 (.ref it) .none (genEnv scope (cloFrom X.env.cells scope.names []) s3.heap.objs.size code builtinsNs X.env)) [] = A
    have hAh : A.handled = none := by
      rw [← hA]
      exact hh1
    have hAf : A.frames = some (genEnv scope (cloFrom X.env.cells scope.names []) s3.heap.objs.size code builtinsNs X.env :: X.stack) := by
      rw [← hA]
      show pushEnvs [_] (pushEnvs [] X.A.frames) = _
      rw [I.ok.frames]
      rfl
    have hrA : Room k A := by
      rw [← hA]
      refine ⟨hr.hd, ?_, ?_⟩
      · have := hr.dp
        show X.A.depth + 0 + 1 + 3 * k + 5 < _
        omega
      · have := hr.un
        show X.A.units + 1 + 1 + 0 + 3 + 16 * k + 200 < _
        omega
    have hgb : AllBare (s3.gens.push (.fresh (.compStart (.GeneratorExp elt [⟨tg, iter, [], 0⟩] scope gpos) 0 (.ref it) .none (genEnv scope (cloFrom X.env.cells scope.names []) s3.heap.objs.size code builtinsNs X.env)))) := I3.bare.push rfl
    have I5 := gen_start (own := own) (A := A) (code := code) (tk := s3.toks + 1 + 1 + 1) I3 L hfp (Nat.le_refl _) hAh hAf kp (hn'.push go) hgb
    have nst : ∀ b ∈ frs X.stack, b < s3.heap.objs.size := fun b hb => by
      rcases List.mem_cons.mp (I3.stkSub b hb) with z | z
      · rw [z]
        exact I3.lt
      · obtain ⟨_, o, ho, _⟩ := I3.funs.mem z
        exact Heap.lt_size ho
    have I6 := I5.pins_of (pins' := [(h'.objs.size, go)]) fun q hq => by
      have hq : q = (h'.objs.size, go) := by simpa using hq
      subst hq
      refine ⟨Heap.get?_push_size _ (by rw [← hgo]; rfl), I3.hok.fresh (by rw [hszh]; exact Nat.le_succ _), ?_, fun z => ?_, fun v z => ?_⟩
      · show h'.objs.size ≠ s3.heap.objs.size
        omega
      · have := nst _ z
        have this : h'.objs.size < s3.heap.objs.size := this
        omega
      · obtain ⟨_, _, _, hd, _⟩ := hho
        rw [hd] at z
        cases z
    refine hQ (genCx X A s3 H2 (genEnv scope (cloFrom X.env.cells scope.names []) s3.heap.objs.size code builtinsNs X.env) (own ++ cs.map (·.1)) fp) h'.objs.size go s3.gens.size m0 _ rfl rfl hho ⟨isGen_of (pl := []) I6 hho, I6.nolimit, _, Array.getElem?_push_size .., ⟨rfl, ?_⟩⟩ fun σ' H' s' J' => ?_
    · have st5 : tn 0 (h'.push go) := T.keep _ _ _ st3 fun b hb o e => kp b o (by rw [eh]; exact e)
      refine seg_first (K := X.K) T st5 ?_
      have haf : h'.objs.size ∉ fp := fun z => by
        have this : h'.objs.size < s3.heap.objs.size := (hfp _ z).2
        omega
      refine seg_loop (Xg := genCx X A s3 H2 (genEnv scope (cloFrom X.env.cells scope.names []) s3.heap.objs.size code builtinsNs X.env) (own ++ cs.map (·.1)) fp) (o := own.length) hA.symm L.co rfl rfl rfl rfl T haf ?_ (hpg ..) (hpe _ _ _ _ _ _ hrA) ?_ turn m0 0 _ _ ?_
      · intro q hq v z
        have hq : q = (h'.objs.size, go) := by simpa using hq
        subst hq
        obtain ⟨_, _, _, hd, _⟩ := hho
        rw [hd] at z
        cases z
      · intro i v e
        unfold σG at e
        rcases Nat.lt_or_ge i own.length with q | q
        · rw [List.getElem?_append_left (by rw [List.length_replicate]; exact q), List.getElem?_replicate] at e
          split at e <;> cases e
        · exact q
      · refine ⟨H2, m0, inv_like I6 rfl rfl (bare_set hgb rfl), st5, fun b hb => (f2 b hb).1, Nat.le_refl _, w0, ?_⟩
        rw [setGen_size, Array.size_push]
        exact Nat.lt_succ_self _
    · exact I3.call' (ch := fp) J'.os J'.base J'.hok J'.bare fun b hb => ⟨(hfp b hb).1.2.2.2.1, (hfp b hb).1.2.1, (hfp b hb).1.2.2.2.2.1, (hfp b hb).1.2.2.2.2.2⟩
  refine ⟨I2.nolimit, ?_⟩
  cases hf : codeAmong gpos ps.toList with
  | none =>
    refine wpAny_genexprCodeX hcode (cd.code ePs tr) (cd.tab ePs) hf fun c' h' tk hx hge hlt hco' _ htab' _ => ?_
    obtain ⟨o1, vs, f1, tf, fl, tg', inF, tx, tt, op, _, _, _, _, _, _, _, _, _, htr, _⟩ := hco'
    exact cont _ h' tk _ hx (Nat.le_trans hge (Nat.le_of_lt hlt)) htab'.2 htr
  | some cv =>
    refine wpAny_genexprCode_hit hcode (cd.code ePs tr) hf ?_
    exact cont cv s2.heap s2.toks ps (Heap.ExtBut.refl _ _) (Nat.le_refl _) ePs tr
theorem pe_gAll (hr : Room (k + 1) X.A) (hg : Gl X "all") (hm : X.mg "all" = none) (TB : GxR.TabB X.base X.mg c P) (hcode : X.env.code = .ref c) (L : GnS X.N X.env.scope scope cs) (hi : PI X tg iter wi)
    (hpg : ∀ (A : Around) (s : Shared) (H : Hp) (C : Addr) (code : Value) (fp : List Addr), PG (genCx X A s H (genEnv scope (cloFrom X.env.cells scope.names []) C code builtinsNs X.env) (own ++ cs.map (·.1)) fp) tg tgr)
    (hpe : ∀ (A : Around) (s : Shared) (H : Hp) (C : Addr) (code : Value) (fp : List Addr), Room k A → PE (genCx X A s H (genEnv scope (cloFrom X.env.cells scope.names []) C code builtinsNs X.env) (own ++ cs.map (·.1)) fp) elt te)
    (hs : ∀ v, genFold iter X.env v = pure v := by intro _; rfl)
    (he : starEach [.GeneratorExp elt [⟨tg, iter, [], 0⟩] scope gpos] X.env = (false, eval (.GeneratorExp elt [⟨tg, iter, [], 0⟩] scope gpos) X.env) :: starEach [] X.env := by rfl) :
    PE X (.Call (.Name "all" p) [.GeneratorExp elt [⟨tg, iter, [], 0⟩] scope gpos] [] pos) (tGx false P wi tgr te own.length cs) := by
  refine ⟨fun pins s σ H Q I h => ?_⟩
  refine wpAny_Call_Name_kw (ld_blt I hg hm (show bootBuiltins "all" = some (.builtin "all") by decide +kernel) ?_)
  refine PyProof.Rows.callWith_builtin1 ?_ he (by rfl)
  rw [he]
  show wpAny _ _ (spliced ((false, eval (.GeneratorExp elt [⟨tg, iter, [], 0⟩] scope gpos) X.env) :: backTo pos (starEach [] X.env))) _ _ s
  refine Calls.spliced_cons (gen_ready hr TB hcode L hi hpg hpe hs I h fun Xg a oa g m s5 e1 e2 ho hL back => ?_)
  refine Calls.spliced_nil ?_
  refine call_function_tree F.kind_all F.plain_all F.entry_all (F.args_all1 _) ?_
  unfold Builtin.«all»
  refine wpAny_bind (m := oneArg "all" _) (wpAny_pure ?_)
  refine wpAny_bind (wpAny_pyIter_gen hL.1 ?_)
  rw [← e1, ← e2]
  have hh1 : X.A.in1.handled = none := hr.hd
  refine wpAny_pure ⟨plainId_quiet F.plain_all_loop _, loop_all hh1 hr.depth ho (fun b σ' H' s' J' q => ?_) m s5 hL⟩
  exact ⟨.bl b, H', back σ' H' s' J', rfl, q⟩
theorem pe_gAny (hr : Room (k + 1) X.A) (hg : Gl X "any") (hm : X.mg "any" = none) (TB : GxR.TabB X.base X.mg c P) (hcode : X.env.code = .ref c) (L : GnS X.N X.env.scope scope cs) (hi : PI X tg iter wi)
    (hpg : ∀ (A : Around) (s : Shared) (H : Hp) (C : Addr) (code : Value) (fp : List Addr), PG (genCx X A s H (genEnv scope (cloFrom X.env.cells scope.names []) C code builtinsNs X.env) (own ++ cs.map (·.1)) fp) tg tgr)
    (hpe : ∀ (A : Around) (s : Shared) (H : Hp) (C : Addr) (code : Value) (fp : List Addr), Room k A → PE (genCx X A s H (genEnv scope (cloFrom X.env.cells scope.names []) C code builtinsNs X.env) (own ++ cs.map (·.1)) fp) elt te)
    (hs : ∀ v, genFold iter X.env v = pure v := by intro _; rfl)
    (he : starEach [.GeneratorExp elt [⟨tg, iter, [], 0⟩] scope gpos] X.env = (false, eval (.GeneratorExp elt [⟨tg, iter, [], 0⟩] scope gpos) X.env) :: starEach [] X.env := by rfl) :
    PE X (.Call (.Name "any" p) [.GeneratorExp elt [⟨tg, iter, [], 0⟩] scope gpos] [] pos) (tGx true P wi tgr te own.length cs) := by
  refine ⟨fun pins s σ H Q I h => ?_⟩
  refine wpAny_Call_Name_kw (ld_blt I hg hm (show bootBuiltins "any" = some (.builtin "any") by decide +kernel) ?_)
  refine PyProof.Rows.callWith_builtin1 ?_ he (by rfl)
  rw [he]
  show wpAny _ _ (spliced ((false, eval (.GeneratorExp elt [⟨tg, iter, [], 0⟩] scope gpos) X.env) :: backTo pos (starEach [] X.env))) _ _ s
  refine Calls.spliced_cons (gen_ready hr TB hcode L hi hpg hpe hs I h fun Xg a oa g m s5 e1 e2 ho hL back => ?_)
  refine Calls.spliced_nil ?_
  refine call_function_tree F.kind_any F.plain_any F.entry_any (F.args_any1 _) ?_
  unfold Builtin.«any»
  refine wpAny_bind (m := oneArg "any" _) (wpAny_pure ?_)
  refine wpAny_bind (wpAny_pyIter_gen hL.1 ?_)
  rw [← e1, ← e2]
  have hh1 : X.A.in1.handled = none := hr.hd
  refine wpAny_pure ⟨plainId_quiet F.plain_any_loop _, loop_any hh1 hr.depth ho (fun b σ' H' s' J' q => ?_) m s5 hL⟩
  exact ⟨.bl b, H', back σ' H' s' J', rfl, q⟩
end
/-! ### defs that know their code object -/
theorem tabB_G {base : Heap} {mg : Str → Option Value} {c P : Addr} (h : LamX.TabB base mg c P) : GxR.TabB base mg c P := ⟨h.code, h.bm, h.gP⟩
theorem def0G {P : Program} {w : World} {K : PySem.W.Frag} {mg : Str → Option Value} {base : Heap} {x qual : Str} {params : Arguments} {body : List Stmt} {scope : Scope} {dvs : List V} {kws : List (Str × V)} {at_ : Str × Option Str} {fd : FuncData} {N ps : List Str} {k : Nat} {sp : Sp}
    (F : FunD K x qual params body scope dvs kws (He.fAd K at_) fd) (S : FnScope N ps scope) (len : ∀ vs H Q E, sp vs H Q E → vs.length = ps.length)
    (hb : ∀ (A : Around) (outer : List Env) (s : Shared) (H : Hp) (vs : List V) (Q : VK) (E : XK), Room k (A.deeper (envOfC qual scope s.heap.objs.size (He.fAd K at_) (.ref (He.codeOf K at_)))) → sp vs H Q E →
      ∃ t, PSs (cxOf CX0 P w K mg base N qual scope (He.fAd K at_) (.ref (He.codeOf K at_)) A outer s H E).nox body t ∧ t { nx := fun _ H' => Q .non H', rt := Q } (start N vs) H) : FnOk P w K mg base CX0 (k + 1) (He.fAd K at_) fd ps sp := by
  obtain ⟨oc, od, dV, kV, doc, pm, an, cdv, ct, osl, rfl, lk, hcd, _, _⟩ := F.ex
  obtain ⟨c, rfl⟩ := He.codeIn_ref hcd
  have e := He.codeOf_eq lk (c := c) rfl
  refine fn_of lk hcd S len fun A outer s H vs Q E hr h => ?_
  rw [e] at hb
  obtain ⟨t, ht, q⟩ := hb A outer s H vs Q E hr h
  exact ⟨t, PSs.nox ht, q⟩
/-! ### tables at the law's entry -/
/-- the tables at T, told by what is true of them -/
def extT (T : List Addr) (H : Hp) : Hp := fun a => if a ∈ T then some (TabO a) else H a
def spTab (T : List Addr) (sp : Sp) : Sp := fun vs H Q _ => (∀ a ∈ T, H a = some (.tbl #[])) ∧ sp vs (extT T H) (fun v H' => (∀ a ∈ T, H' a = some (TabO a)) ∧ ∀ H'', Q v H'') E0
def psAt (h : Heap) (a : Addr) : Array Value := match h.get? a with
  | some ⟨_, _, .fields ps, _⟩ => ps
  | _ => #[]
theorem fn_tabs {P : Program} {w : World} {K : PySem.W.Frag} {mg : Str → Option Value} {base : Heap} {k : Nat} {f : Addr} {fd : FuncData} {ps : List Str} {sp : Sp} (T : List Addr) (F : FnOk P w K mg base CX0 k f fd ps sp) : FnOk P w K mg base CX0 k f fd ps (spTab T sp) := by
  refine ⟨fun vs H Q E h => F.len _ _ _ _ h.2, fun A outer s H args us vs Q E hr e0 hb hv h => ?_⟩
  obtain ⟨hT, h⟩ := h
  have nT : ∀ {b : Addr} {u : Option HO}, H b = u → u ≠ some (.tbl #[]) → b ∉ T := fun {b u} e n hb => n (by rw [← e]; exact hT b hb)
  have out : ∀ {b : Addr}, b ∉ T → extT T H b = H b := fun {b} hb => if_neg hb
  have e1 : Env0 P w K mg base A outer s (extT T H) := by
    refine ⟨e0.frames, e0.mod, fun b o e => ⟨(e0.bs b o e).1, ?_⟩, e0.bsz, e0.funs, fun b hb => ?_, fun a u e => ?_, e0.bare⟩
    · rw [out (nT (e0.bs b o e).2 nofun)]
      exact (e0.bs b o e).2
    · rw [out (nT (e0.frf b hb) nofun)]
      exact e0.frf b hb
    · by_cases ha : a ∈ T
      · have e : (if a ∈ T then some (TabO a) else H a) = some u := e
        rw [if_pos ha] at e
        cases e
        exact tab_ok (e0.hok a _ (hT a ha)) trivial
      · rw [out ha] at e
        refine (e0.hok a u e).stay (fun b v _ q => q) (fun b q => ?_) fun b xs q => ?_
        · rw [out (nT q (by nofun))]
          exact q
        · rw [out (nT q (by nofun))]
          exact q
  refine codeAny_mono (F.run A outer s (extT T H) args us vs _ E0 hr e1 hb hv h) fun r s' q => ?_
  cases r with
  | error e => exact q.elim
  | ok fl =>
    cases fl with
    | next => exact False.elim q
    | brk => exact False.elim q
    | cont => exact False.elim q
    | ret u =>
      obtain ⟨v, H', os, bare, un, hok', rv, hT', hq⟩ := q
      have out2 : ∀ {b : Addr}, b ∉ T → (if b ∈ T then some (HO.tbl (psAt s'.heap b)) else H' b) = H' b := fun {b} hb => if_neg hb
      have nT' : ∀ {b : Addr} {u : HO}, H' b = some u → u ≠ TabO b → b ∉ T := fun {b u} e n hb => n (by have := hT' b hb; rw [e] at this; exact Option.some.inj this)
      refine ⟨v, fun b => if b ∈ T then some (.tbl (psAt s'.heap b)) else H' b, os, bare, ⟨fun b o e n hb hx => ?_, fun b o e n hb hx => ?_, fun b o e n hx => ?_, fun b o e hx => un.there b o e hx, fun b xs e => ?_, fun b o u e => ?_, fun b qs e => ?_⟩, fun a u e => ?_, rv, hq _⟩
      · exact un.keep b o e (by rw [out (nT n nofun)]; exact n) hb hx
      · exact un.slot b o e (by rw [out (nT n nofun)]; exact n) hb hx
      · have hb := nT n nofun
        show (if b ∈ T then _ else _) = _
        rw [if_neg hb]
        exact un.free b o e (by rw [out hb]; exact n) hx
      · have hb := nT e (by nofun)
        show (if b ∈ T then _ else _) = _
        rw [if_neg hb]
        exact un.tups b xs (by rw [out hb]; exact e)
      · have hb := nT e (by nofun)
        show (if b ∈ T then _ else _) = _
        rw [if_neg hb]
        exact un.frzs b o u (by rw [out hb]; exact e)
      · by_cases hb : b ∈ T
        · have := hT b hb
          rw [e] at this
          cases this
          exact ⟨psAt s'.heap b, by simp [hb]⟩
        · obtain ⟨more, q⟩ := un.tbls b qs (by rw [out hb]; exact e)
          exact ⟨more, by show (if b ∈ T then _ else _) = _; rw [if_neg hb]; exact q⟩
      · by_cases ha : a ∈ T
        · have e : (if a ∈ T then some (HO.tbl (psAt s'.heap a)) else H' a) = some u := e
          rw [if_pos ha] at e
          cases e
          obtain ⟨⟨ps, e2, _⟩, _⟩ := hok' a _ (hT' a ha)
          show s'.heap.get? a = some { cls := .none, data := .fields (psAt s'.heap a) }
          unfold psAt
          rw [e2]
        · have e : (if a ∈ T then some (HO.tbl (psAt s'.heap a)) else H' a) = some u := e
          rw [if_neg ha] at e
          refine (hok' a u e).stay (fun b v _ q => q) (fun b q => ?_) fun b xs q => ?_
          · show (if b ∈ T then _ else _) = _
            rw [if_neg (nT' q (by unfold TabO; nofun))]
            exact q
          · show (if b ∈ T then _ else _) = _
            rw [if_neg (nT' q (by unfold TabO; nofun))]
            exact q
end Tp


set_option Elab.async false
set_option linter.all false
set_option maxRecDepth 100000
set_option maxHeartbeats 4000000
/-! Readings of any and all over generators: by a walk, over a text, a list, pairs. -/
namespace Tp
open PySem PySem.Spec PyProof.Rows L2 Evl
def resB (st : Bool) (n : Nat) (b : Nat → Bool) : Bool := if st then (List.range n).any b else (List.range n).all b
theorem resB_stop {st : Bool} {n i : Nat} {b : Nat → Bool} (hi : i < n) (h : b i = st) : resB st n b = st := by
  unfold resB
  cases st with
  | true =>
    rw [if_pos rfl, List.any_eq_true]
    exact ⟨i, List.mem_range.mpr hi, h⟩
  | false =>
    rw [if_neg nofun]
    exact Bool.eq_false_iff.mpr fun q => by
      have := List.all_eq_true.mp q i (List.mem_range.mpr hi)
      rw [h] at this
      cases this
theorem resB_end {st : Bool} {n : Nat} {b : Nat → Bool} (h : ∀ i, i < n → b i ≠ st) : resB st n b = !st := by
  unfold resB
  cases st with
  | true =>
    rw [if_pos rfl]
    exact Bool.eq_false_iff.mpr fun q => by
      obtain ⟨i, hi, e⟩ := List.any_eq_true.mp q
      exact h i (List.mem_range.mp hi) e
  | false =>
    rw [if_neg nofun]
    exact List.all_eq_true.mpr fun i hi => by
      have := h i (List.mem_range.mp hi)
      simpa using this
theorem gx_walk {st : Bool} {Q : VK} {J : It} {n : Nat} {G : Hp → Prop} {Y : Nat → Hp → V → Hp → Prop} (w : Walk J n G Y) {g : TG} {te : TE} {o : Nat} {σ0 : L2.St} {H1 : Hp} (hG : ∀ H', Ex H1 H' → G H') (b : Nat → Bool)
    (turn : ∀ i x H H', i < n → Ex H1 H → Y i H x H' → g x σ0 H' fun σ2 H2 => (σ2.drop o = σ0.drop o ∧ σ2.length = σ0.length) ∧ ∀ Q' : VK, (∀ H3, Ex H1 H3 → Q' (.bl (b i)) H3) → te σ2 H2 Q') (done : ∀ H', Ex H1 H' → Q (.bl (resB st n b)) H')
    (gm : ∀ x τ G (Q1 Q2 : L2.St → Hp → Prop), (∀ a b, Q1 a b → Q2 a b) → g x τ G Q1 → g x τ G Q2) :
    ∃ W : Nat → Nat → Hp → Prop, (∃ m, W 0 m H1) ∧ GTurn st Q J W g te o σ0 := by
  refine ⟨fun i m H => m + i = n ∧ Ex H1 H ∧ ∀ j, j < i → b j ≠ st, ⟨n, rfl, Ex.refl _, fun j hj => absurd hj (Nat.not_lt_zero _)⟩, ?_⟩
  rintro i m H ⟨hm, e, hb⟩
  by_cases hi : i = n
  · subst hi
    refine .inl ⟨w.stops H (hG H e), ?_⟩
    have := done H e
    rwa [resB_end hb] at this
  · have hlt : i < n := by omega
    refine .inr ⟨w.goes i H hlt (hG H e), fun x H' y => gm _ _ _ _ _ (fun σ2 H2 h => ⟨h.1, h.2 _ fun H3 e3 => ⟨b i, rfl, fun hs => ?_, fun hs => ⟨m - 1, by omega, by omega, e3, fun j hj => ?_⟩⟩⟩) (turn i x H H' hlt e (w.yields i H x H' hlt (hG H e) y))⟩
    · have := done H3 e3
      rwa [resB_stop hlt hs] at this
    · by_cases q : j = i
      · rw [q]
        exact hs
      · exact hb j (by omega)
theorem gm_name {j : Nat} : ∀ (x : V) (τ : L2.St) (G : Hp) (Q1 Q2 : L2.St → Hp → Prop), (∀ a b, Q1 a b → Q2 a b) → gName j x τ G Q1 → gName j x τ G Q2 := fun _ _ _ _ _ h q => h _ _ q
theorem gm_pair {K : PySem.W.Frag} {i j : Nat} : ∀ (x : V) (τ : L2.St) (G : Hp) (Q1 Q2 : L2.St → Hp → Prop), (∀ a b, Q1 a b → Q2 a b) → gTup K 2 (gCons (gName i) (gCons (gName j) gNil)) x τ G Q1 → gTup K 2 (gCons (gName i) (gCons (gName j) gNil)) x τ G Q2 := fun x τ G Q1 Q2 h q => by
  obtain ⟨a, xs, h1, h2, h3, v, r, h4, v2, r2, h5, h6, h7⟩ := q
  exact ⟨a, xs, h1, h2, h3, v, r, h4, v2, r2, h5, h6, h _ _ h7⟩
section
variable {K : PySem.W.Frag} {σ : L2.St} {H : Hp} {ta te : TE} {P : Addr} {cs : List (Str × Nat)} {st : Bool}
theorem rng_str (z : Str) (f : Nat → Bool) : resB st z.cps.size (fun i => f (z.cps.toList.getD i 0)) = if st then z.cps.toList.any f else z.cps.toList.all f := by
  have e : z.cps.toList = (List.range z.cps.size).map fun i => z.cps.toList.getD i 0 := by
    refine List.ext_getElem? fun i => ?_
    rw [List.getElem?_map]
    by_cases h : i < z.cps.size
    · rw [List.getElem?_range h, List.getElem?_eq_getElem (by rw [Array.length_toList]; exact h)]
      simp [List.getD, h]
    · rw [List.getElem?_eq_none (by rw [Array.length_toList]; omega), List.getElem?_eq_none (by rw [List.length_range]; omega)]
      rfl
  unfold resB
  have e1 : z.cps.toList.any f = ((List.range z.cps.size).map fun i => z.cps.toList.getD i 0).any f := congrArg (fun l => List.any l f) e
  have e2 : z.cps.toList.all f = ((List.range z.cps.size).map fun i => z.cps.toList.getD i 0).all f := congrArg (fun l => List.all l f) e
  rw [e1, e2, List.any_map, List.all_map]
  rfl
/-- over a text's signs -/
theorem ev_gxS {z : Str} (h : Ev ta σ H (.str z)) (hP : H P = some (TabO P)) (f : Nat → Bool) (he : ∀ c G, Ex H G → c ∈ z.cps.toList → Ev te (some (.str (sL [c])) :: (σG 0 cs σ)) G (.bl (f c))) :
    Ev (tGx st P (iStr ta) (gName 0) te 1 cs) σ H (.bl (if st then z.cps.toList.any f else z.cps.toList.all f)) := fun H1 e1 Q q => h H1 e1 _ fun H2 e2 => ⟨z, rfl, (e1.trans e2) _ _ hP, by
    refine gx_walk walk_str (fun _ _ => trivial) (fun i => f (z.cps.toList.getD i 0)) (fun i x G G' hi e y => ?_) (fun G e => ?_) gm_name
    · obtain ⟨rfl, c, hc, rfl⟩ := y
      have hc' : z.cps.toList[i]? = some c := by rw [Array.getElem?_toList]; exact hc
      have hd : z.cps.toList.getD i 0 = c := by
        unfold List.getD
        rw [hc']
        rfl
      refine ⟨⟨rfl, ?_⟩, fun Q' q' => ?_⟩
      · show (List.set _ _ _).length = _
        rw [List.length_set]
      · rw [hd] at q'
        exact he c G' ((e1.trans e2).trans e) (List.mem_of_getElem? hc') G' (Ex.refl _) Q' fun H3 e3 => q' H3 (e.trans e3)
    · rw [rng_str]
      exact q G (e2.trans e)⟩
/-- over zip of a list and a new one -/
theorem ev_gxZ {t1 t2 : TE} {a : Addr} {xs ys : List V} {n : Nat} (h : Ev t1 σ H (.ref a)) (hx : SqL K H a xs) (h2 : EvL t2 σ H ys) (hn : n = min xs.length ys.length) (hP : H P = some (TabO P)) (f : Nat → Bool)
    (he : ∀ i x y G, Ex H G → i < n → xs[i]? = some x → ys[i]? = some y → Ev te (some x :: some y :: (σG 0 cs σ)) G (.bl (f i))) :
    Ev (tGx st P (iZip K (tCons t1 (tCons t2 tNil))) (gTup K 2 (gCons (gName 0) (gCons (gName 1) gNil))) te 2 cs) σ H (.bl (resB st n f)) := fun H1 e1 Q q => h H1 e1 _ fun H2 e2 => h2 H2 (e1.trans e2) _ fun b H3 hb e3 h3 =>
  ⟨a, b, xs, ys, rfl, ex_l ((e1.trans e2).trans e3) hx, SqL.of h3, ((e1.trans e2).trans e3) _ _ hP, by
    refine gx_walk (walk_zip hn) (fun G e => ⟨ex_l (((e1.trans e2).trans e3).trans e) hx, SqL.of (e _ _ h3)⟩) f (fun i x G G' hi e y => ?_) (fun G e => ?_) gm_pair
    · obtain ⟨T, v1, v2, rfl, hT, rfl, g1, g2⟩ := y
      refine ⟨T, _, rfl, SqT.of upd_same, rfl, v1, _, rfl, v2, _, rfl, rfl, ⟨rfl, ?_⟩, fun Q' q' => ?_⟩
      · show (List.set (List.set _ _ _) _ _).length = _
        rw [List.length_set, List.length_set]
      · exact he i v1 v2 _ ((((e1.trans e2).trans e3).trans e).trans (Ex.new hT)) hi g1 g2 _ (Ex.refl _) Q' fun H4 e4 => q' H4 ((e.trans (Ex.new hT)).trans e4)
    · exact q G ((e2.trans e3).trans e)⟩
/-- over a list -/
theorem ev_gxL {a : Addr} {xs : List V} (h : Ev ta σ H (.ref a)) (hx : SqL K H a xs) (hP : H P = some (TabO P)) (f : Nat → Bool) (he : ∀ i x G, Ex H G → xs[i]? = some x → Ev te (some x :: (σG 0 cs σ)) G (.bl (f i))) :
    Ev (tGx st P (iList K ta) (gName 0) te 1 cs) σ H (.bl (resB st xs.length f)) := fun H1 e1 Q q => h H1 e1 _ fun H2 e2 => ⟨a, rfl, ⟨xs, ex_l (e1.trans e2) hx⟩, (e1.trans e2) _ _ hP, by
    refine gx_walk walk_list (fun G e => ex_l ((e1.trans e2).trans e) hx) f (fun i x G G' hi e y => ?_) (fun G e => ?_) gm_name
    · obtain ⟨rfl, hc⟩ := y
      refine ⟨⟨rfl, ?_⟩, fun Q' q' => ?_⟩
      · show (List.set _ _ _).length = _
        rw [List.length_set]
      · exact he i x G' ((e1.trans e2).trans e) hc G' (Ex.refl _) Q' fun H3 e3 => q' H3 (e.trans e3)
    · exact q G (e2.trans e)⟩
end
end Tp


set_option Elab.async false
set_option linter.all false
set_option maxRecDepth 100000
set_option maxHeartbeats 4000000
/-! Trees of any kind, and when they are documents. -/
namespace Tp
open PySem PySem.Spec PyProof.Rows L2 Evl
mutual
def smallT : Tr → Prop
  | .txt z => z.cps.size ≤ 100000
  | .el n cs => n.cps.size ≤ 100000 ∧ smallTs cs
def smallTs : List Tr → Prop
  | [] => True
  | c :: cs => smallT c ∧ smallTs cs
end
theorem smallTs_mem : ∀ {cs : List Tr} {c : Tr}, smallTs cs → c ∈ cs → smallT c
  | x :: cs, c, h, hc => by
    rw [smallTs] at h
    rcases List.mem_cons.mp hc with e | e
    · rw [e]
      exact h.1
    · exact smallTs_mem h.2 e
theorem smallTs_of : ∀ {cs : List Tr}, (∀ c ∈ cs, smallT c) → smallTs cs
  | [], _ => by rw [smallTs]; trivial
  | x :: cs, h => by
    rw [smallTs]
    exact ⟨h x (List.mem_cons_self ..), smallTs_of fun c hc => h c (List.mem_cons_of_mem _ hc)⟩
def nameB (n : Str) : Bool := (decide (1 ≤ n.cps.size) && decide (n.cps.size ≤ 12)) && n.cps.toList.all letB
def txtB (z : Str) : Bool := (decide (1 ≤ z.cps.size) && decide (z.cps.size ≤ 200)) && z.cps.toList.all sgB
def besideB : List Tr → Bool
  | a :: b :: r => (a.isT && b.isT) || besideB (b :: r)
  | _ => false
def wellB : Tr → Bool
  | .txt z => txtB z
  | .el n cs => nameB n && !besideB cs
mutual
def okAt : Nat → Tr → Bool
  | d, .txt z => decide (d ≤ 60) && txtB z
  | d, .el n cs => (decide (d ≤ 60) && wellB (.el n cs)) && oksAt (d + 1) cs
def oksAt : Nat → List Tr → Bool
  | _, [] => true
  | d, c :: cs => okAt d c && oksAt d cs
end
theorem oksAt_all (d : Nat) : ∀ cs : List Tr, oksAt d cs = cs.all (okAt d)
  | [] => by rw [oksAt]; rfl
  | c :: cs => by rw [oksAt, oksAt_all d cs, List.all_cons]
def docB : Tr → Bool
  | .txt _ => false
  | .el n cs => okAt 1 (.el n cs) && decide (nod (.el n cs) ≤ 5000)
def isTi (cs : List Tr) (i : Nat) : Bool := ((cs[i]?).map Tr.isT).getD false
theorem beside_res : ∀ cs : List Tr, resB true (cs.length - 1) (fun i => isTi cs i && isTi cs (i + 1)) = besideB cs
  | [] => rfl
  | [_] => rfl
  | a :: b :: r => by
    have ih := beside_res (b :: r)
    unfold resB at ih ⊢
    rw [if_pos rfl] at ih ⊢
    rw [show (a :: b :: r).length - 1 = (b :: r).length - 1 + 1 by simp, List.range_succ_eq_map, List.any_cons, List.any_map, besideB, ← ih]
    rfl
theorem apart_beside : ∀ {cs : List Tr}, apartT cs → besideB cs = false
  | [], _ => rfl
  | [_], _ => rfl
  | a :: b :: r, h => by
    obtain ⟨h1, h2⟩ := h
    rw [besideB, apart_beside h2, Bool.or_false]
    cases q : a.isT with
    | false => rfl
    | true =>
      cases q2 : b.isT with
      | false => rfl
      | true => exact absurd ⟨q, q2⟩ h1
/-! ### a stack of nodes with their depths -/
def stkOk (L : List (Tr × Nat)) : Bool := L.all fun p => okAt p.2 p.1
def stkN (L : List (Tr × Nat)) : Nat := (L.map fun p => nod p.1).sum
theorem nods_sum : ∀ cs : List Tr, nods cs = (cs.map nod).sum
  | [] => by rw [nods]; rfl
  | c :: cs => by rw [nods, nods_sum cs, List.map_cons, List.sum_cons]
theorem len_nods : ∀ cs : List Tr, cs.length ≤ nods cs
  | [] => Nat.zero_le _
  | c :: cs => by
    have := nod_pos c
    have := len_nods cs
    rw [nods, List.length_cons]
    omega
theorem stkN_len : ∀ L : List (Tr × Nat), L.length ≤ stkN L
  | [] => Nat.zero_le _
  | p :: L => by
    have := nod_pos p.1
    have := stkN_len L
    unfold stkN at this ⊢
    rw [List.map_cons, List.sum_cons, List.length_cons]
    omega
theorem stk_app (L M : List (Tr × Nat)) : stkOk (L ++ M) = (stkOk L && stkOk M) := List.all_append
theorem stkN_app (L M : List (Tr × Nat)) : stkN (L ++ M) = stkN L + stkN M := by
  unfold stkN
  rw [List.map_append, List.sum_append]
theorem stk_kids (d : Nat) (cs : List Tr) : stkOk (cs.map fun c => (c, d)) = oksAt d cs := by
  rw [oksAt_all]
  unfold stkOk
  rw [List.all_map]
  rfl
theorem stkN_kids (d : Nat) (cs : List Tr) : stkN (cs.map fun c => (c, d)) = nods cs := by
  rw [nods_sum]
  unfold stkN
  rw [List.map_map]
  rfl
def kidsT : Tr → List Tr
  | .txt _ => []
  | .el _ cs => cs
theorem okAt_eq (d : Nat) (t : Tr) : okAt d t = ((decide (d ≤ 60) && wellB t) && oksAt (d + 1) (kidsT t)) := by
  cases t with
  | txt z => rw [okAt, kidsT, oksAt, Bool.and_true]; rfl
  | el n cs => rw [okAt, kidsT]
theorem nod_eq (t : Tr) : nod t = 1 + nods (kidsT t) := by
  cases t with
  | txt z => rw [nod, kidsT, nods]
  | el n cs => rw [nod, kidsT]
end Tp


set_option Elab.async false
set_option linter.all false
set_option maxRecDepth 100000
set_option maxHeartbeats 4000000
/-! What is read is a document, and no shorter than it is written; what is written is read. -/
namespace Tp
open PySem PySem.Spec PyProof.Rows L2 Evl
theorem name_parts {nm : Str} (h : nameB nm = true) : 1 ≤ nm.cps.toList.length ∧ nm.cps.toList.length ≤ 12 ∧ ∀ z ∈ nm.cps.toList, letB z = true := by
  unfold nameB at h
  rw [Bool.and_eq_true, Bool.and_eq_true, decide_eq_true_eq, decide_eq_true_eq, List.all_eq_true] at h
  exact ⟨by rw [Array.length_toList]; exact h.1.1, by rw [Array.length_toList]; exact h.1.2, h.2⟩
theorem text_parts {z : Str} (h : txtB z = true) : 1 ≤ z.cps.toList.length ∧ z.cps.toList.length ≤ 200 ∧ ∀ c ∈ z.cps.toList, sgB c = true := by
  unfold txtB at h
  rw [Bool.and_eq_true, Bool.and_eq_true, decide_eq_true_eq, decide_eq_true_eq, List.all_eq_true] at h
  exact ⟨by rw [Array.length_toList]; exact h.1.1, by rw [Array.length_toList]; exact h.1.2, h.2⟩
theorem text_of {z : List Nat} (h1 : z ≠ []) (h2 : z.length ≤ 200) (h3 : ∀ c ∈ z, sgB c = true) : txtB (sL z) = true := by
  have e : (sL z).cps.size = z.length := by rw [← Array.length_toList, sL_list]
  unfold txtB
  rw [sL_list, List.all_eq_true.mpr h3, e, decide_eq_true h2, decide_eq_true (by cases z with
    | nil => exact absurd rfl h1
    | cons a b => simp)]
  rfl
theorem name_of {z : List Nat} (h1 : 1 ≤ z.length) (h2 : z.length ≤ 12) (h3 : ∀ c ∈ z, letB c = true) : nameB (sL z) = true := by
  have e : (sL z).cps.size = z.length := by rw [← Array.length_toList, sL_list]
  unfold nameB
  rw [sL_list, List.all_eq_true.mpr h3, e, decide_eq_true h2, decide_eq_true h1]
  rfl
theorem run_take (l : List Nat) : ∀ c ∈ l.take (runL letB l), letB c = true := fun c hc => by
  obtain ⟨j, hj⟩ := List.getElem?_of_mem hc
  have hlt : j < runL letB l := by
    have := (List.getElem?_eq_some_iff.mp hj).1
    rw [List.length_take] at this
    omega
  obtain ⟨c', e, p⟩ := (runL_at letB l j).1 hlt
  rw [List.getElem?_take, if_pos hlt, e] at hj
  cases hj
  exact p
/-! ### the open elements -/
def cw : List Fram → Nat
  | [] => 0
  | [b] => (wrs false b.2).length
  | f :: g :: r => 2 + f.1.cps.toList.length + (wrs false f.2).length + cw (g :: r)
def cn : List Fram → Nat
  | [] => 0
  | [b] => nods b.2
  | f :: g :: r => 1 + nods f.2 + cn (g :: r)
def lastTx : List Tr → Bool
  | [] => false
  | [t] => t.isT
  | _ :: b :: r => lastTx (b :: r)
def FO : List Fram → Prop
  | [] => False
  | [b] => b.2 = []
  | f :: g :: r => (nameB f.1 = true ∧ besideB f.2 = false ∧ oksAt (r.length + 2) f.2 = true ∧ r.length + 1 ≤ 60) ∧ FO (g :: r)
def Dn (F : List Fram) : Prop := ∃ x nm cs, F = [(x, [.el nm cs])] ∧ okAt 1 (.el nm cs) = true
theorem beside_snoc (t : Tr) : ∀ cs : List Tr, besideB (cs ++ [t]) = (besideB cs || (lastTx cs && t.isT))
  | [] => rfl
  | [a] => by
    show besideB [a, t] = (false || (a.isT && t.isT))
    rw [besideB, Bool.false_or]
    show (_ || false) = _
    rw [Bool.or_false]
  | a :: b :: r => by
    have := beside_snoc t (b :: r)
    show besideB (a :: b :: (r ++ [t])) = _
    rw [besideB, besideB, Bool.or_assoc]
    congr 1
theorem lastTx_snoc (t : Tr) : ∀ cs : List Tr, lastTx (cs ++ [t]) = t.isT
  | [] => rfl
  | [a] => rfl
  | a :: b :: r => lastTx_snoc t (b :: r)
theorem oks_snoc {d : Nat} {cs : List Tr} {t : Tr} (h : oksAt d cs = true) (ht : okAt d t = true) : oksAt d (cs ++ [t]) = true := by
  rw [oksAt_all] at h ⊢
  rw [List.all_append, h, Bool.true_and, List.all_cons, ht]
  rfl
theorem wrs_snoc (cs : List Tr) (t : Tr) : wrs false (cs ++ [t]) = wrs false cs ++ wr false t := by
  rw [wrs_flat, wrs_flat, List.map_append, List.flatten_append]
  simp
theorem nods_snoc : ∀ (cs : List Tr) (t : Tr), nods (cs ++ [t]) = nods cs + nod t
  | [], t => by rw [List.nil_append, nods, nods, nods]; omega
  | c :: cs, t => by rw [List.cons_append, nods, nods, nods_snoc cs t]; omega
theorem cw_add {F : List Fram} (h : F ≠ []) (t : Tr) : cw (addK F t) = cw F + (wr false t).length := by
  match F, h with
  | [b], _ =>
    show (wrs false (b.2 ++ [t])).length = (wrs false b.2).length + _
    rw [wrs_snoc, List.length_append]
  | f :: g :: r, _ =>
    show 2 + f.1.cps.toList.length + (wrs false (f.2 ++ [t])).length + cw (g :: r) = 2 + f.1.cps.toList.length + (wrs false f.2).length + cw (g :: r) + _
    rw [wrs_snoc, List.length_append]
    omega
theorem cn_add {F : List Fram} (h : F ≠ []) (t : Tr) : cn (addK F t) = cn F + nod t := by
  match F, h with
  | [b], _ =>
    show nods (b.2 ++ [t]) = nods b.2 + _
    rw [nods_snoc]
  | f :: g :: r, _ =>
    show 1 + nods (f.2 ++ [t]) + cn (g :: r) = 1 + nods f.2 + cn (g :: r) + _
    rw [nods_snoc]
    omega
/-- where the reader stands -/
def Stt (F : List Fram) (l : List Nat) (n : Nat) : Prop := ((FO F ∧ 2 ≤ F.length ∧ ∀ f r, F = f :: r → lastTx f.2 = true → l.head? = some 60) ∨ Dn F) ∧ cn F = n ∧ n ≤ 5000
theorem stt_add {F : List Fram} {t : Tr} {l : List Nat} {n : Nat} (hF : FO F) (ht : okAt F.length t = true) (h1 : t.isT = true → 2 ≤ F.length ∧ (∀ f r, F = f :: r → lastTx f.2 = false) ∧ l.head? = some 60) (hc : cn F + nod t = n) (hn : n ≤ 5000) : Stt (addK F t) l n := by
  refine ⟨?_, ?_, hn⟩
  · match F, hF with
    | [b], hb =>
      cases t with
      | txt z => exact absurd (h1 rfl).1 (by simp)
      | el nm cs =>
        refine .inr ⟨b.1, nm, cs, ?_, ht⟩
        show [(b.1, b.2 ++ [Tr.el nm cs])] = _
        rw [show b.2 = [] from hb]
        rfl
    | f :: g :: r, ⟨⟨a1, a2, a3, a4⟩, a5⟩ =>
      refine .inl ⟨⟨⟨a1, ?_, oks_snoc a3 ht, a4⟩, a5⟩, by show 2 ≤ (g :: r).length + 1; simp, fun f' r' e hl => ?_⟩
      · rw [beside_snoc, a2, Bool.false_or]
        cases q : t.isT with
        | false => rw [Bool.and_false]
        | true => rw [(h1 q).2.1 f (g :: r) rfl]; rfl
      · cases e
        have : t.isT = true := by rw [← lastTx_snoc t f.2]; exact hl
        exact (h1 this).2.2
  · rw [cn_add (by intro e; rw [e] at hF; exact hF), hc]
theorem endTag_ok {F F' : List Fram} {l l' : List Nat} {i n i' n' : Nat} (h : rdEndTag F l i n = .ok F' l' i' n') : F' = F ∧ n' = n ∧ l'.length + 1 = l.length ∧ l.head? = some 62 := by
  unfold rdEndTag at h
  split at h
  · rename_i q
    cases h
    refine ⟨rfl, rfl, ?_, q⟩
    cases l with
    | nil => cases q
    | cons c r => rfl
  · cases h
theorem cnt_ok {d n : Nat} {l : List Nat} (h : cntR d l n = none) : d ≤ 60 ∧ n ≠ 5000 := by
  unfold cntR at h
  split at h
  · cases h
  split at h
  · cases h
  rename_i a b
  exact ⟨by omega, b⟩
theorem name_run {l : List Nat} (h : nameOk l = true) : 1 ≤ runL letB l ∧ runL letB l ≤ 12 ∧ (l.take (runL letB l)).length = runL letB l ∧ nameB (sL (l.take (runL letB l))) = true := by
  unfold nameOk at h
  rw [Bool.and_eq_true] at h
  have h1 := Nat.le_of_ble_eq_true h.1
  have h2 := Nat.le_of_ble_eq_true h.2
  have h3 : (l.take (runL letB l)).length = runL letB l := by
    rw [List.length_take]
    have := runL_le letB l
    omega
  exact ⟨h1, h2, h3, name_of (by omega) (by omega) (run_take l)⟩
theorem wr_len0 (nm : Str) : (wr false (.el nm [])).length = nm.cps.toList.length + 3 := by
  rw [wr, if_pos (by rfl)]
  simp only [List.length_append, List.length_cons, List.length_nil]
  omega
theorem wr_len_le (nm : Str) (cs : List Tr) : (wr false (.el nm cs)).length ≤ (2 + nm.cps.toList.length + (wrs false cs).length) + (3 + nm.cps.toList.length) := by
  rw [wr]
  split
  · simp only [List.length_append, List.length_cons, List.length_nil]
    omega
  · simp only [List.length_append, List.length_cons, List.length_nil]
    omega
theorem begin_ok {F F' : List Fram} {l l' : List Nat} {i n i' n' : Nat} (hF : FO F) (hc : cn F = n) (hn : n ≤ 5000) (h60 : l.head? = some 60) (h : rdBegin F l i n = .ok F' l' i' n') : Stt F' l' n' ∧ cw F' + l'.length ≤ cw F + l.length := by
  have hne : F ≠ [] := by intro e; rw [e] at hF; exact hF
  obtain ⟨l, rfl⟩ : ∃ t, l = 60 :: t := by
    cases l with
    | nil => cases h60
    | cons c r => exact ⟨r, by rw [Option.some.inj h60]⟩
  unfold rdBegin at h
  rw [List.tail_cons] at h
  split at h
  · cases h
  split at h
  · cases h
  rename_i h0 hcn
  obtain ⟨hd, h5⟩ := cnt_ok hcn
  cases q : nameOk l with
  | false => rw [q] at h; cases h
  | true =>
    rw [q] at h
    simp only [cond_true] at h
    obtain ⟨k1, k2, k3, k4⟩ := name_run q
    generalize runL letB l = k at h k1 k2 k3 k4
    have hkl : k ≤ l.length := by rw [List.length_take] at k3; omega
    have hdl : (l.drop k).length = l.length - k := List.length_drop
    split at h
    · rename_i h47
      obtain ⟨rfl, rfl, e3, _⟩ := endTag_ok h
      have : (l.drop k).tail.length + 1 = (l.drop k).length := by
        cases e : l.drop k with
        | nil => rw [e] at h47; cases h47
        | cons c r => rfl
      refine ⟨stt_add hF ?_ nofun ?_ (by omega), ?_⟩
      · rw [okAt, wellB, k4, decide_eq_true hd, oksAt]
        rfl
      · rw [hc, nod, nods]
      · rw [cw_add hne, wr_len0, sL_list, k3, List.length_cons]
        omega
    · obtain ⟨rfl, rfl, e3, _⟩ := endTag_ok h
      match F, hF, hne with
      | g :: r, hF, _ =>
        refine ⟨⟨.inl ⟨⟨⟨k4, rfl, by rw [oksAt], hd⟩, hF⟩, by simp, fun f r' e hl => ?_⟩, ?_, by omega⟩, ?_⟩
        · cases e
          cases hl
        · show 1 + nods [] + cn (g :: r) = _
          rw [hc, nods]
          omega
        · show 2 + (sL (l.take k)).cps.toList.length + (wrs false []).length + cw (g :: r) + l'.length ≤ _
          rw [sL_list, k3, wrs, List.length_cons, List.length_nil]
          omega
theorem end_ok {F F' : List Fram} {l l' : List Nat} {i n i' n' : Nat} (hF : FO F) (h2 : 2 ≤ F.length) (hc : cn F = n) (hn : n ≤ 5000) (hl : l.take 2 = [60, 47]) (h : rdEnd F l i n = .ok F' l' i' n') : Stt F' l' n' ∧ cw F' + l'.length ≤ cw F + l.length := by
  have hl2 : (l.drop 2).length + 2 = l.length := by
    have := congrArg List.length hl
    rw [List.length_take] at this
    rw [List.length_drop]
    simp at this
    omega
  match F, hF, h2 with
  | [b], _, h2 => exact absurd h2 (by simp)
  | f :: g :: r, ⟨⟨a1, a2, a3, a4⟩, a5⟩, _ =>
  unfold rdEnd at h
  generalize l.drop 2 = m at h hl2
  cases q : nameOk m with
  | false => rw [q] at h; cases h
  | true =>
    rw [q] at h
    simp only [cond_true] at h
    obtain ⟨k1, k2, k3, k4⟩ := name_run q
    generalize runL letB m = k at h k1 k2 k3 k4
    have hkl : k ≤ m.length := by rw [List.length_take] at k3; omega
    have hdl : (m.drop k).length = m.length - k := List.length_drop
    split at h
    · cases h
    rename_i hneg
    cases e : rdEndTag (f :: g :: r) (m.drop k) (i + 2 + k) n with
    | no j y => rw [e] at h; cases h
    | ok F1 l1 i1 n1 =>
      rw [e] at h
      obtain ⟨rfl, rfl, e3, e4⟩ := endTag_ok e
      cases h
      have hnm : m.take k = f.1.cps.toList := Classical.byContradiction fun z => hneg ⟨z, fun w' => by
        rw [w'.1] at e4
        cases e4⟩
      have hfl : f.1.cps.toList.length = k := by rw [← hnm, k3]
      have hw := wr_len_le f.1 f.2
      refine ⟨?_, ?_⟩
      · refine stt_add (F := g :: r) a5 ?_ nofun ?_ hn
        · rw [okAt, wellB, a1, a2, List.length_cons, a3, decide_eq_true a4]
          rfl
        · rw [← hc, nod]
          show cn (g :: r) + (1 + nods f.2) = 1 + nods f.2 + cn (g :: r)
          omega
      · show cw (addK (g :: r) (.el f.1 f.2)) + _ ≤ 2 + f.1.cps.toList.length + (wrs false f.2).length + cw (g :: r) + _
        rw [cw_add (by simp)]
        omega
theorem next_esc2 {l r : List Nat} {k s : Nat} (h0 : l.head? ≠ some 60) (h : rdNext l = some (r, k, s)) : (escC s).length ≤ k := by
  unfold rdNext at h
  split at h
  · cases h; decide
  split at h
  · cases h; decide
  split at h
  · cases h; decide
  cases l with
  | nil => cases h
  | cons c r' =>
    dsimp only at h
    cases hc : (sgB c && !(Nat.beq c 38) && !(Nat.beq c 62)) with
    | false => rw [hc] at h; cases h
    | true =>
      rw [hc] at h
      have e1 := Option.some.inj h
      have e2 := (Prod.mk.inj (Prod.mk.inj e1).2)
      rw [← e2.1, ← e2.2]
      have h1 : c ≠ 60 := fun z => h0 (by rw [z]; rfl)
      rw [Bool.and_eq_true, Bool.and_eq_true] at hc
      have h2 : c ≠ 38 := fun z => by rw [z] at hc; exact absurd hc.1.2 (by decide)
      have h3 : c ≠ 62 := fun z => by rw [z] at hc; exact absurd hc.2 (by decide)
      unfold escC
      rw [if_neg h1, if_neg h3, if_neg h2]
      exact Nat.le_refl _
theorem escL_app (a b : List Nat) : escL (a ++ b) = escL a ++ escL b := List.flatMap_append
theorem text_ok2 {d : Nat} {y l' : List Nat} {i' n' : Nat} : ∀ (f : Nat) (acc l : List Nat) (i n : Nat), rdText d f acc l i n = .ok y l' i' n' → l.length < f → acc.length ≤ 200 → (∀ c ∈ acc, sgB c = true) →
    y.length ≤ 200 ∧ (∀ c ∈ y, sgB c = true) ∧ l'.head? = some 60 ∧ (escL y).length + l'.length ≤ (escL acc).length + l.length ∧ acc.length ≤ y.length ∧ (l.head? ≠ some 60 → y ≠ [])
  | 0, acc, l, i, n, _, hf, _, _ => absurd hf (Nat.not_lt_zero _)
  | f + 1, acc, l, i, n, h, hf, ha, hs => by
    rw [rdText] at h
    by_cases h1 : l.head? = some 60
    · rw [if_pos h1] at h
      cases h
      exact ⟨ha, hs, h1, Nat.le_refl _, Nat.le_refl _, fun z => absurd h1 z⟩
    rw [if_neg h1] at h
    cases e : rdNext l with
    | none => rw [e] at h; cases h
    | some p =>
      obtain ⟨r, k, s⟩ := p
      rw [e] at h
      dsimp only at h
      obtain ⟨k1, k2, k3, k4⟩ := rdNext_len e
      have k5 := next_esc2 h1 e
      by_cases h2 : acc.length = 200
      · rw [if_pos h2] at h; cases h
      rw [if_neg h2] at h
      have hr : r.length = l.length - k := by rw [k3, List.length_drop]
      have hs' : ∀ c ∈ acc ++ [s], sgB c = true := fun c hc => by
        rcases List.mem_append.mp hc with hc | hc
        · exact hs c hc
        · rw [List.mem_singleton.mp hc]
          exact k4
      have go : ∀ j m, rdText d f (acc ++ [s]) r j m = .ok y l' i' n' → y.length ≤ 200 ∧ (∀ c ∈ y, sgB c = true) ∧ l'.head? = some 60 ∧ (escL y).length + l'.length ≤ (escL acc).length + l.length ∧ acc.length ≤ y.length ∧ (l.head? ≠ some 60 → y ≠ []) := fun j m h => by
        obtain ⟨g1, g2, g3, g4, g5, _⟩ := text_ok2 f (acc ++ [s]) r j m h (by omega) (by rw [List.length_append, List.length_singleton]; omega) hs'
        rw [List.length_append, List.length_singleton] at g5
        rw [escL_app, List.length_append, show escL [s] = escC s by simp [escL]] at g4
        exact ⟨g1, g2, g3, by omega, by omega, fun _ z => by rw [z] at g5; simp at g5⟩
      split at h
      · split at h
        · cases h
        · exact go _ _ h
      · exact go _ _ h
theorem part_ok {F F' : List Fram} {l l' : List Nat} {i n i' n' : Nat} (h0 : Stt F l n) (h2 : 1 < F.length) (h : rdPart F l i n = .ok F' l' i' n') : Stt F' l' n' ∧ cw F' + l'.length ≤ cw F + l.length := by
  obtain ⟨h0, hc, hn⟩ := h0
  rcases h0 with ⟨hF, _, hJ⟩ | ⟨x, nm, cs, rfl, _⟩
  rotate_left
  · exact absurd h2 (by simp)
  unfold rdPart at h
  split at h
  · rename_i ht
    exact end_ok hF h2 hc hn ht h
  split at h
  · rename_i h60
    exact begin_ok hF hc hn h60 h
  · rename_i h60
    split at h
    rotate_left
    · cases h
    rename_i z l1 i1 n1 e
    cases h
    obtain ⟨e1, e2, _⟩ := rdText_first h60 e
    obtain ⟨hd, h5⟩ := cnt_ok e2
    obtain ⟨g1, g2, g3, g4, _, g6⟩ := text_ok2 _ _ _ _ _ e (Nat.lt_succ_self _) (by decide) (by simp)
    have hne : F ≠ [] := by intro e; rw [e] at hF; exact hF
    refine ⟨stt_add hF ?_ (fun _ => ⟨h2, fun f r e => ?_, g3⟩) (by rw [hc, nod, e1]) (by omega), ?_⟩
    · rw [okAt, text_of (g6 h60) g1 g2, decide_eq_true hd]
      rfl
    · cases q : lastTx f.2 with
      | false => rfl
      | true => exact absurd (hJ f r e q) h60
    · rw [cw_add hne, wr, sL_list]
      have : (escL []).length = 0 := rfl
      omega
theorem loop_ok {F' : List Fram} {l' : List Nat} {i' n' : Nat} : ∀ (f : Nat) (F : List Fram) (l : List Nat) (i n : Nat), Stt F l n → rdLoop f F l i n = .ok F' l' i' n' → Stt F' l' n' ∧ cw F' + l'.length ≤ cw F + l.length
  | 0, F, l, i, n, h0, h => by
    rw [rdLoop] at h
    cases h
    exact ⟨h0, Nat.le_refl _⟩
  | f + 1, F, l, i, n, h0, h => by
    rw [rdLoop] at h
    split at h
    · rename_i h2
      split at h
      · rename_i F1 l1 i1 n1 e
        obtain ⟨a1, a2⟩ := part_ok h0 h2 e
        obtain ⟨b1, b2⟩ := loop_ok f F1 l1 i1 n1 a1 h
        exact ⟨b1, Nat.le_trans b2 a2⟩
      · cases h
    · cases h
      exact ⟨h0, Nat.le_refl _⟩
theorem doc_of_read {l l' : List Nat} {nm : Str} {t : Tr} {ds : List Tr} {i n : Nat} (h : rdDoc l = .ok [(nm, t :: ds)] l' i n) : (∃ n cs, t = .el n cs) ∧ docB t = true ∧ (wr false t).length ≤ l.length := by
  unfold rdDoc at h
  split at h
  · cases h
  rename_i F l1 i1 n1 e
  unfold rdRoot at e
  split at e
  rotate_left
  · cases e
  rename_i h60
  obtain ⟨a1, a2⟩ := begin_ok (F := [("", [])]) rfl (by rw [cn, nods]) (Nat.zero_le _) h60 e
  split at h
  · cases h
  rename_i F2 l2 i2 n2 e2
  obtain ⟨⟨b1, b3, b4⟩, b2⟩ := loop_ok _ _ _ _ _ a1 e2
  split at h
  rotate_left
  · cases h
  cases h
  rcases b1 with ⟨_, b1, _⟩ | ⟨x, nm', cs, e4, hok⟩
  · exact absurd b1 (by simp)
  · cases e4
    have e0 : cw [(("" : Str), ([] : List Tr))] = 0 := by
      rw [cw, wrs]
      rfl
    rw [e0] at a2
    rw [cw, wrs, wrs, List.append_nil] at b2
    rw [cn, nods, nods] at b3
    refine ⟨⟨_, _, rfl⟩, ?_, by omega⟩
    rw [docB, hok, decide_eq_true (by omega)]
    rfl
/-! ### what is written is read -/
theorem next_sg {c : Nat} (h : sgB c = true) (l : List Nat) : rdNext (escC c ++ l) = some (l, (escC c).length, c) := by
  by_cases h1 : c = 60
  · subst h1
    rfl
  by_cases h2 : c = 62
  · subst h2
    rfl
  by_cases h3 : c = 38
  · subst h3
    rfl
  have e : escC c = [c] := by
    unfold escC
    rw [if_neg h1, if_neg h2, if_neg h3]
  have ne : ∀ (r : List Nat) (k : Nat), (c :: l).take (k + 1) ≠ 38 :: r := fun r k z => h3 (List.cons.inj z).1
  rw [e]
  unfold rdNext
  rw [List.singleton_append, if_neg (ne _ _), if_neg (ne _ _), if_neg (ne _ _)]
  dsimp only
  rw [h, show Nat.beq c 38 = false from Bool.eq_false_iff.mpr fun z => h3 (Nat.eq_of_beq_eq_true z), show Nat.beq c 62 = false from Bool.eq_false_iff.mpr fun z => h2 (Nat.eq_of_beq_eq_true z)]
  rfl
theorem esc_head2 (c : Nat) (l : List Nat) : (escC c ++ l).head? ≠ some 60 := by
  unfold escC
  split
  · simp
  split
  · simp
  split
  · simp
  · rename_i h _ _
    simpa using h
theorem text_esc {d : Nat} : ∀ (cs : List Nat) (f : Nat) (acc l : List Nat) (i n : Nat), (∀ c ∈ cs, sgB c = true) → acc ≠ [] → acc.length + cs.length ≤ 200 → rdText d (f + cs.length) acc (escL cs ++ l) i n = rdText d f (acc ++ cs) l (i + (escL cs).length) n
  | [], f, acc, l, i, n, _, _, _ => by
    rw [List.append_nil]
    rfl
  | c :: cs, f, acc, l, i, n, h, ha, hl => by
    have hc := h c (List.mem_cons_self ..)
    have e : escL (c :: cs) ++ l = escC c ++ (escL cs ++ l) := by
      unfold escL
      rw [List.flatMap_cons, List.append_assoc]
    rw [List.length_cons] at hl
    rw [e, List.length_cons, show f + (cs.length + 1) = (f + cs.length) + 1 by omega, rdText, if_neg (esc_head2 c _), next_sg hc]
    dsimp only
    rw [if_neg (by omega), if_neg ha, text_esc cs f _ _ _ _ (fun x hx => h x (List.mem_cons_of_mem _ hx)) (by simp) (by rw [List.length_append, List.length_singleton]; omega)]
    have e2 : (escL (c :: cs)).length = (escC c).length + (escL cs).length := by
      unfold escL
      rw [List.flatMap_cons, List.length_append]
    rw [e2, List.append_assoc, Nat.add_assoc]
    rfl
theorem text_esc0 {d f : Nat} {cs l : List Nat} {i n : Nat} (h : ∀ c ∈ cs, sgB c = true) (h0 : cs ≠ []) (hl : cs.length ≤ 200) (hc : ∀ l, cntR d l n = none) : rdText d (f + cs.length) [] (escL cs ++ l) i n = rdText d f cs l (i + (escL cs).length) (n + 1) := by
  cases cs with
  | nil => exact absurd rfl h0
  | cons c cs =>
    have hcs := h c (List.mem_cons_self ..)
    have e : escL (c :: cs) ++ l = escC c ++ (escL cs ++ l) := by
      unfold escL
      rw [List.flatMap_cons, List.append_assoc]
    rw [List.length_cons] at hl
    rw [e, List.length_cons, show f + (cs.length + 1) = (f + cs.length) + 1 by omega, rdText, if_neg (esc_head2 c _), next_sg hcs]
    dsimp only
    rw [if_neg (by decide), if_pos (by rfl), hc]
    dsimp only
    rw [text_esc cs f _ _ _ _ (fun x hx => h x (List.mem_cons_of_mem _ hx)) (by simp) (by simp; omega)]
    have e2 : (escL (c :: cs)).length = (escC c).length + (escL cs).length := by
      unfold escL
      rw [List.flatMap_cons, List.length_append]
    rw [e2, Nat.add_assoc]
    rfl
theorem run_nm {nm : Str} (h : nameB nm = true) {c : Nat} (hc : letB c = false) (l : List Nat) : runL letB (nm.cps.toList ++ c :: l) = nm.cps.toList.length ∧ nameOk (nm.cps.toList ++ c :: l) = true := by
  have hr : ∀ zs : List Nat, (∀ z ∈ zs, letB z = true) → runL letB (zs ++ c :: l) = zs.length := by
    intro zs
    induction zs with
    | nil =>
      intro _
      rw [List.nil_append, runL, hc]
      rfl
    | cons z zs ih =>
      intro hz
      rw [List.cons_append, runL, hz z (List.mem_cons_self ..), List.length_cons, ih fun x hx => hz x (List.mem_cons_of_mem _ hx)]
      rfl
  obtain ⟨h2, h3, h1⟩ := name_parts h
  have e := hr _ h1
  refine ⟨e, ?_⟩
  unfold nameOk
  rw [e, Nat.ble_eq_true_of_le h2, Nat.ble_eq_true_of_le h3]
  rfl
theorem begin_w {F : List Fram} {nm : Str} {l : List Nat} {i n : Nat} (h : nameB nm = true) (hF : F.length ≤ 60) (hn : n ≠ 5000) : rdBegin F (60 :: (nm.cps.toList ++ 62 :: l)) i n = .ok ((nm, []) :: F) l (i + (2 + nm.cps.toList.length)) (n + 1) := by
  obtain ⟨e1, e2⟩ := run_nm h (show letB 62 = false by decide) l
  unfold rdBegin
  rw [List.tail_cons, if_neg (by simp), cnt_none hF hn, e2]
  dsimp only
  rw [cond_true, e1, List.take_left, List.drop_left, sL_of, if_neg (by simp)]
  unfold rdEndTag
  rw [if_pos (by rfl), List.tail_cons, show i + 1 + nm.cps.toList.length + 1 = i + (2 + nm.cps.toList.length) by omega]
theorem begin_0 {F : List Fram} {nm : Str} {l : List Nat} {i n : Nat} (h : nameB nm = true) (hF : F.length ≤ 60) (hn : n ≠ 5000) : rdBegin F (60 :: (nm.cps.toList ++ 47 :: 62 :: l)) i n = .ok (addK F (.el nm [])) l (i + (3 + nm.cps.toList.length)) (n + 1) := by
  obtain ⟨e1, e2⟩ := run_nm h (show letB 47 = false by decide) (62 :: l)
  unfold rdBegin
  rw [List.tail_cons, if_neg (by simp), cnt_none hF hn, e2]
  dsimp only
  rw [cond_true, e1, List.take_left, List.drop_left, sL_of, if_pos (by rfl)]
  unfold rdEndTag
  rw [if_pos (by rfl), List.tail_cons, List.tail_cons, show i + 1 + nm.cps.toList.length + 1 + 1 = i + (3 + nm.cps.toList.length) by omega]
theorem end_w {ds : List Tr} {F : List Fram} {nm : Str} {l : List Nat} {i n : Nat} (h : nameB nm = true) : rdEnd ((nm, ds) :: F) (60 :: 47 :: (nm.cps.toList ++ 62 :: l)) i n = .ok (addK F (.el nm ds)) l (i + (3 + nm.cps.toList.length)) n := by
  obtain ⟨e1, e2⟩ := run_nm h (show letB 62 = false by decide) l
  unfold rdEnd
  rw [show (60 :: 47 :: (nm.cps.toList ++ 62 :: l)).drop 2 = nm.cps.toList ++ 62 :: l from rfl, e2]
  dsimp only
  rw [cond_true, e1, List.take_left, List.drop_left, if_neg (fun q => q.1 rfl)]
  unfold rdEndTag
  rw [if_pos (by rfl), List.tail_cons]
  show RR.ok (addK F (.el nm ds)) l _ n = _
  rw [show i + 2 + nm.cps.toList.length + 1 = i + (3 + nm.cps.toList.length) by omega]
theorem nm_slash {nm : Str} (h : nameB nm = true) (l : List Nat) : (60 :: (nm.cps.toList ++ l)).take 2 ≠ [60, 47] := fun q => by
  obtain ⟨h1, _, h3⟩ := name_parts h
  cases e : nm.cps.toList with
  | nil => rw [e] at h1; exact absurd h1 (by simp)
  | cons c r =>
    rw [e] at q h3
    have := (List.cons.inj (List.cons.inj q).2).1
    have := h3 c (List.mem_cons_self ..)
    rw [‹c = 47›] at this
    cases this
theorem loop_begin2 {f : Nat} {F : List Fram} {nm : Str} {l : List Nat} {i n : Nat} (h : nameB nm = true) (h1 : 1 < F.length) (hF : F.length ≤ 60) (hn : n ≠ 5000) : rdLoop (f + 1) F (60 :: (nm.cps.toList ++ 62 :: l)) i n = rdLoop f ((nm, []) :: F) l (i + (2 + nm.cps.toList.length)) (n + 1) := by
  rw [rdLoop, if_pos h1]
  have hp : rdPart F (60 :: (nm.cps.toList ++ 62 :: l)) i n = .ok ((nm, []) :: F) l (i + (2 + nm.cps.toList.length)) (n + 1) := by
    unfold rdPart
    rw [if_neg (nm_slash h _), if_pos (by rfl)]
    exact begin_w h hF hn
  rw [hp]
theorem loop_empty2 {f : Nat} {F : List Fram} {nm : Str} {l : List Nat} {i n : Nat} (h : nameB nm = true) (h1 : 1 < F.length) (hF : F.length ≤ 60) (hn : n ≠ 5000) : rdLoop (f + 1) F (60 :: (nm.cps.toList ++ 47 :: 62 :: l)) i n = rdLoop f (addK F (.el nm [])) l (i + (3 + nm.cps.toList.length)) (n + 1) := by
  rw [rdLoop, if_pos h1]
  have hp : rdPart F (60 :: (nm.cps.toList ++ 47 :: 62 :: l)) i n = .ok (addK F (.el nm [])) l (i + (3 + nm.cps.toList.length)) (n + 1) := by
    unfold rdPart
    rw [if_neg (nm_slash h _), if_pos (by rfl)]
    exact begin_0 h hF hn
  rw [hp]
theorem loop_end2 {f : Nat} {ds : List Tr} {g : Fram} {r : List Fram} {nm : Str} {l : List Nat} {i n : Nat} (h : nameB nm = true) : rdLoop (f + 1) ((nm, ds) :: g :: r) (60 :: 47 :: (nm.cps.toList ++ 62 :: l)) i n = rdLoop f (addK (g :: r) (.el nm ds)) l (i + (3 + nm.cps.toList.length)) n := by
  rw [rdLoop, if_pos (by simp)]
  unfold rdPart
  rw [if_pos (by rfl), end_w h]
theorem escL_ge : ∀ cs : List Nat, cs.length ≤ (escL cs).length
  | [] => Nat.le_refl _
  | c :: cs => by
    have h1 := (escC_len c).1
    have h2 := escL_ge cs
    have : (escL (c :: cs)).length = (escC c).length + (escL cs).length := by
      unfold escL
      rw [List.flatMap_cons, List.length_append]
    rw [this, List.length_cons]
    omega
theorem loop_text2 {f : Nat} {F : List Fram} {z : Str} {l : List Nat} {i n : Nat} (hz : txtB z = true) (h1 : 1 < F.length) (hF : F.length ≤ 60) (hn : n ≠ 5000) : rdLoop (f + 1) F (escL z.cps.toList ++ 60 :: l) i n = rdLoop f (addK F (.txt z)) (60 :: l) (i + (escL z.cps.toList).length) (n + 1) := by
  obtain ⟨z1, z2, z3⟩ := text_parts hz
  have hne : z.cps.toList ≠ [] := fun e => by rw [e] at z1; simp at z1
  rw [rdLoop, if_pos h1]
  have hh : (escL z.cps.toList ++ 60 :: l).head? ≠ some 60 := by
    cases e : z.cps.toList with
    | nil => exact absurd e hne
    | cons c r =>
      have : escL (c :: r) ++ 60 :: l = escC c ++ (escL r ++ 60 :: l) := by
        unfold escL
        rw [List.flatMap_cons, List.append_assoc]
      rw [this]
      exact esc_head2 c _
  have hp : rdPart F (escL z.cps.toList ++ 60 :: l) i n = .ok (addK F (.txt z)) (60 :: l) (i + (escL z.cps.toList).length) (n + 1) := by
    unfold rdPart
    rw [if_neg (show ¬ (escL z.cps.toList ++ 60 :: l).take 2 = [60, 47] from fun q => hh (by
      cases e : escL z.cps.toList ++ 60 :: l with
      | nil => rw [e] at q; cases q
      | cons c r =>
        rw [e] at q
        cases r with
        | nil => cases q
        | cons d r => rw [(List.cons.inj q).1]; rfl)), if_neg hh]
    have hL : z.cps.toList.length ≤ (escL z.cps.toList ++ 60 :: l).length := by
      have := escL_ge z.cps.toList
      rw [List.length_append]
      omega
    obtain ⟨q, hq⟩ : ∃ q, (escL z.cps.toList ++ 60 :: l).length + 1 = (q + 1) + z.cps.toList.length := ⟨(escL z.cps.toList ++ 60 :: l).length - z.cps.toList.length, by omega⟩
    rw [hq, text_esc0 z3 hne (by omega) (cnt_none hF hn), rdText, if_pos (by rfl)]
    dsimp only
    rw [sL_of]
  rw [hp]
mutual
/-- how many turns the reader takes, with elements without parts in short -/
def st2 : Tr → Nat
  | .txt _ => 1
  | .el _ cs => if cs.isEmpty then 1 else 2 + st2s cs
def st2s : List Tr → Nat
  | [] => 0
  | c :: cs => st2 c + st2s cs
end
theorem wr_empty (nm : Str) (l : List Nat) : wr false (.el nm []) ++ l = 60 :: (nm.cps.toList ++ 47 :: 62 :: l) := by
  rw [wr, if_pos (by rfl)]
  simp
theorem wr_full (nm : Str) {cs : List Tr} (h : cs ≠ []) (l : List Nat) : wr false (.el nm cs) ++ l = 60 :: (nm.cps.toList ++ 62 :: (wrs false cs ++ 60 :: 47 :: (nm.cps.toList ++ 62 :: l))) := by
  rw [wr, if_neg (by simpa using h)]
  simp
theorem wr_full_len (nm : Str) {cs : List Tr} (h : cs ≠ []) : (wr false (.el nm cs)).length = (2 + nm.cps.toList.length) + (wrs false cs).length + (3 + nm.cps.toList.length) := by
  have := congrArg List.length (wr_full nm h [])
  rw [List.append_nil] at this
  rw [this]
  simp only [List.length_cons, List.length_append, List.length_nil]
  omega
theorem behind_txt2 {z : Str} {rest : List Tr} (h : besideB (.txt z :: rest) = false) (l : List Nat) : ∃ l', wrs false rest ++ 60 :: l = 60 :: l' := by
  cases rest with
  | nil => exact ⟨l, by rw [wrs]; rfl⟩
  | cons c r =>
    cases c with
    | txt y =>
      rw [besideB] at h
      cases h
    | el n cs =>
      rw [wrs, wr]
      split
      · exact ⟨_, rfl⟩
      · exact ⟨_, rfl⟩
theorem beside_tail {c : Tr} {cs : List Tr} (h : besideB (c :: cs) = false) : besideB cs = false := by
  cases cs with
  | nil => rfl
  | cons d r =>
    rw [besideB, Bool.or_eq_false_iff] at h
    exact h.2
mutual
theorem reads2 : ∀ (t : Tr) (f : Nat) (F : List Fram) (l : List Nat) (i n : Nat), 2 ≤ F.length → okAt F.length t = true → n + nod t ≤ 5000 → (t.isT = true → ∃ l', l = 60 :: l') → rdLoop (f + st2 t) F (wr false t ++ l) i n = rdLoop f (addK F t) l (i + (wr false t).length) (n + nod t)
  | .txt z, f, F, l, i, n, h2, hok, hn, hl => by
    obtain ⟨l', rfl⟩ := hl rfl
    rw [okAt, Bool.and_eq_true, decide_eq_true_eq] at hok
    rw [nod] at hn ⊢
    rw [st2, wr]
    exact loop_text2 hok.2 (by omega) hok.1 (by omega)
  | .el nm cs, f, F, l, i, n, h2, hok, hn, hl => by
    rw [okAt, wellB, Bool.and_eq_true, Bool.and_eq_true, Bool.and_eq_true, decide_eq_true_eq, Bool.not_eq_true'] at hok
    obtain ⟨⟨hd, hnm, hb⟩, hks⟩ := hok
    rw [nod] at hn ⊢
    by_cases h0 : cs = []
    · subst h0
      rw [nods] at hn ⊢
      rw [st2, if_pos (by rfl), wr_empty, loop_empty2 hnm (by omega) hd (by omega), wr_len0]
      congr 1
      omega
    · obtain ⟨g, r, rfl⟩ : ∃ g r, F = g :: r := by
        cases F with
        | nil => simp at h2
        | cons g r => exact ⟨g, r, rfl⟩
      rw [st2, if_neg (by simpa using h0), wr_full nm h0, show f + (2 + st2s cs) = ((f + 1) + st2s cs) + 1 by omega, loop_begin2 hnm (by omega) hd (by omega)]
      rw [reads2s cs _ ((nm, []) :: g :: r) _ _ _ (by simp) hks hb (by omega)]
      show rdLoop (f + 1) ((nm, [] ++ cs) :: g :: r) _ _ _ = _
      rw [List.nil_append, loop_end2 hnm, wr_full_len nm h0]
      congr 1
      · omega
      · omega
theorem reads2s : ∀ (cs : List Tr) (f : Nat) (F : List Fram) (l : List Nat) (i n : Nat), 2 ≤ F.length → oksAt F.length cs = true → besideB cs = false → n + nods cs ≤ 5000 → rdLoop (f + st2s cs) F (wrs false cs ++ 60 :: l) i n = rdLoop f (addKs F cs) (60 :: l) (i + (wrs false cs).length) (n + nods cs)
  | [], f, F, l, i, n, _, _, _, _ => by
    rw [st2s, nods, wrs, addKs_nil]
    rfl
  | c :: cs, f, F, l, i, n, h2, hok, hb, hn => by
    rw [nods] at hn
    rw [oksAt, Bool.and_eq_true] at hok
    rw [st2s, nods, wrs, show f + (st2 c + st2s cs) = (f + st2s cs) + st2 c by omega, List.append_assoc, reads2 c _ F _ i n h2 hok.1 (by omega) (fun ht => by
      cases c with
      | txt z => exact behind_txt2 hb l
      | el nm ds => cases ht), reads2s cs f _ l _ _ (by rw [addK_len]; exact h2) (by rw [addK_len]; exact hok.2) (beside_tail hb) (by omega), addKs_cons, List.length_append, Nat.add_assoc, Nat.add_assoc]
end
mutual
theorem st2_le : ∀ (t : Tr) (d : Nat), okAt d t = true → st2 t ≤ (wr false t).length
  | .txt z, d, h => by
    rw [okAt, Bool.and_eq_true] at h
    have h1 := (text_parts h.2).1
    have h2 := escL_ge z.cps.toList
    rw [st2, wr]
    omega
  | .el nm cs, d, h => by
    rw [okAt, Bool.and_eq_true] at h
    by_cases h0 : cs = []
    · subst h0
      rw [st2, if_pos (by rfl), wr_len0]
      omega
    · have := st2s_le cs (d + 1) h.2
      rw [st2, if_neg (by simpa using h0), wr_full_len nm h0]
      omega
theorem st2s_le : ∀ (cs : List Tr) (d : Nat), oksAt d cs = true → st2s cs ≤ (wrs false cs).length
  | [], _, _ => by rw [st2s]; exact Nat.zero_le _
  | c :: cs, d, h => by
    rw [oksAt, Bool.and_eq_true] at h
    have h1 := st2_le c d h.1
    have h2 := st2s_le cs d h.2
    rw [st2s, wrs, List.length_append]
    omega
end
mutual
theorem nod_wr : ∀ (t : Tr) (d : Nat), okAt d t = true → nod t ≤ (wr false t).length
  | .txt z, d, h => by
    rw [okAt, Bool.and_eq_true] at h
    have h1 := (text_parts h.2).1
    have h2 := escL_ge z.cps.toList
    rw [nod, wr]
    omega
  | .el nm cs, d, h => by
    rw [okAt, Bool.and_eq_true] at h
    have := nods_wr cs (d + 1) h.2
    rw [nod]
    by_cases h0 : cs = []
    · subst h0
      rw [wr_len0, nods]
      omega
    · rw [wr_full_len nm h0]
      omega
theorem nods_wr : ∀ (cs : List Tr) (d : Nat), oksAt d cs = true → nods cs ≤ (wrs false cs).length
  | [], _, _ => by rw [nods]; exact Nat.zero_le _
  | c :: cs, d, h => by
    rw [oksAt, Bool.and_eq_true] at h
    have h1 := nod_wr c d h.1
    have h2 := nods_wr cs d h.2
    rw [nods, wrs, List.length_append]
    omega
end
theorem read_of_doc {nm : Str} {cs : List Tr} (h : docB (.el nm cs) = true) : ∃ i n, rdDoc (wr false (.el nm cs)) = .ok [("", [.el nm cs])] [] i n := by
  rw [docB, Bool.and_eq_true, decide_eq_true_eq] at h
  obtain ⟨hok, hn⟩ := h
  have hok0 := hok
  rw [okAt, wellB, Bool.and_eq_true, Bool.and_eq_true, Bool.and_eq_true, decide_eq_true_eq, Bool.not_eq_true'] at hok
  obtain ⟨⟨hd, hnm, hb⟩, hks⟩ := hok
  rw [nod] at hn
  by_cases h0 : cs = []
  · subst h0
    have e := wr_empty nm []
    rw [List.append_nil] at e
    have hr : rdRoot (60 :: (nm.cps.toList ++ 47 :: 62 :: [])) = .ok (addK [("", [])] (.el nm [])) [] (0 + (3 + nm.cps.toList.length)) (0 + 1) := by
      unfold rdRoot
      rw [if_pos (by rfl), begin_0 (F := [("", [])]) hnm (show [("", ([] : List Tr))].length ≤ 60 by decide) (by decide)]
    rw [e, rdDoc_eq hr]
    refine ⟨0 + (3 + nm.cps.toList.length), 0 + 1, ?_⟩
    rw [show addK [("", [])] (.el nm []) = [(("" : PySem.Str), [Tr.el nm []])] from rfl, rdLoop, if_neg (by simp)]
    rfl
  · have hs := st2s_le cs 2 hks
    have e := wr_full nm h0 []
    rw [List.append_nil] at e
    have hr : ∀ l, rdRoot (60 :: (nm.cps.toList ++ 62 :: l)) = .ok [(nm, []), ("", [])] l (0 + (2 + nm.cps.toList.length)) (0 + 1) := fun l => by
      unfold rdRoot
      rw [if_pos (by rfl), begin_w (F := [("", [])]) hnm (show [("", ([] : List Tr))].length ≤ 60 by decide) (by decide)]
    rw [e, rdDoc_eq (hr _)]
    obtain ⟨q, hq⟩ : ∃ q, List.length (wrs false cs ++ 60 :: 47 :: (nm.cps.toList ++ 62 :: [])) + 1 = ((q + 1) + 1) + st2s cs := ⟨(wrs false cs).length + nm.cps.toList.length + 2 - st2s cs, by
      simp only [List.length_append, List.length_cons, List.length_nil]
      omega⟩
    rw [hq, reads2s cs _ [(nm, []), ("", [])] _ _ _ (by simp) hks hb (by omega)]
    rw [show addKs [(nm, []), ("", [])] cs = (nm, cs) :: [("", [])] from rfl, loop_end2 hnm, show addK [(("" : PySem.Str), ([] : List Tr))] (.el nm cs) = [(("" : PySem.Str), [Tr.el nm cs])] from rfl, rdLoop, if_neg (by simp)]
    exact ⟨_, _, rfl⟩
end Tp


set_option Elab.async false
set_option linter.all false
set_option maxRecDepth 100000
set_option maxHeartbeats 4000000
/-! list(zip(x, y)), x and y lists -/
namespace Tp
open PySem PySem.Spec PyProof.Rows L2 Evl RT
abbrev IsZipK (h : Heap) (z TI TO : Addr) (f0 f1 : Value) : Prop :=
  h.get? z = some { cls := .type "zip", dict := none, data := .fields #[f0, f1, .bool false, .ref TI, .ref TO], slots := #[] }
section
variable {prog : Program} {w : World} {A : Around} {E : Value → Shared → Prop} {s : Shared}
theorem wpAny_loadIfAlive {a : Addr} {Q : Option Obj → Shared → Prop} (h : Q (s.heap.get? a) s) : wpAny (model prog w) A (loadIfAlive a) Q E s := fun _ _ _ => h
theorem not_free {z TI TO T : Addr} {b : Bool} {oT : Obj} {Q : Bool → Shared → Prop} (hz : IsZipK s.heap z TI TO (rawInt T) (.bool b)) (hT : s.heap.get? T = some oT)
    (hQ : ∀ h', IsZipK h' z TI TO (rawInt T) (.bool true) → Heap.SameBut z s.heap h' → Q false { s with heap := h' }) : wpAny (model prog w) A (Builtin.SmallTypes.ownedTupleIsFree (.ref z)) Q E s := by
  unfold Builtin.SmallTypes.ownedTupleIsFree
  refine wpAny_bind (wpAny_field hz rfl (x := rawInt T) rfl ?_)
  show wpAny _ _ (loadIfAlive T >>= _) _ _ _
  refine wpAny_bind (wpAny_loadIfAlive ?_)
  rw [hT]
  simp only [Option.isNone_some, Bool.false_eq_true, if_false]
  refine wpAny_bind (wpAny_field hz rfl (x := .bool b) rfl ?_)
  cases b with
  | true =>
    rw [if_neg (by decide)]
    exact wpAny_pure (hQ _ hz ⟨rfl, fun _ _ => rfl⟩)
  | false =>
    rw [if_pos (by decide)]
    refine wpAny_bind (wpAny_setField_rec hz (by simp) fun h' hz' hs' => wpAny_pure (hQ h' hz' hs'))
theorem zip_kept_item {z TI TO T i1 i2 l1 l2 : Addr} {f1 : Bool} {oT : Obj} {k1 k2 : Nat} {xs ys : Array Value} {x y : Value} {Q : Value → Shared → Prop} (D : ZipApart z TI TO i1 i2 l1 l2)
    (hz : IsZipK s.heap z TI TO (rawInt T) (.bool f1)) (hTI : IsPair s.heap TI (.ref i1) (.ref i2)) (hT : s.heap.get? T = some oT)
    (h1 : s.heap.IsListIter i1 l1 k1) (h2 : s.heap.IsListIter i2 l2 k2) (hl1 : s.heap.IsList l1 xs) (hl2 : s.heap.IsList l2 ys) (hx : xs[k1]? = some x) (hy : ys[k2]? = some y)
    (hQ : ∀ h', IsZipK h' z TI TO (rawInt T) (.bool true) → h'.IsListIter i1 l1 (k1 + 1) → h'.IsListIter i2 l2 (k2 + 1) → IsPair h' s.heap.objs.size x y → h'.objs.size = s.heap.objs.size + 1 →
      (∀ c o, c ≠ z → c ≠ i1 → c ≠ i2 → s.heap.get? c = some o → h'.get? c = some o) → Q (.ref s.heap.objs.size) { s with heap := h' }) :
    wpAny (model prog w) A (Builtin.«zip.__next__» ⟨[.ref z], []⟩) (fun fin s' => ∃ v, fin = .done (.ret v) ∧ Q v s') E s := by
  show wpAny _ _ (field (.ref z) 2 >>= _) _ _ _
  refine wpAny_bind (wpAny_field hz rfl (x := .bool false) rfl ?_)
  show wpAny _ _ (field (.ref z) 3 >>= _) _ _ _
  refine wpAny_bind (wpAny_field hz rfl (x := .ref TI) rfl ?_)
  refine wpAny_bind (wpAny_seqItems hTI rfl ?_)
  show wpAny _ _ (Builtin.SmallTypes.ownedTupleIsFree (.ref z) >>= _) _ _ _
  refine wpAny_bind (not_free hz hT fun h₁ hz₁ hs₁ => ?_)
  simp only [Bool.false_eq_true, if_false]
  simp only [List.forIn_toArray, List.forIn_cons, List.forIn_nil]
  refine wpAny_bind (wpAny_bind (wpAny_bind (wpAny_holding ?_)))
  show wpAny _ _ (Builtin.SmallTypes.nextOf (.ref i1) >>= _) _ _ _
  refine wpAny_bind (wpAny_nextOf_list_item (h1.extBut hs₁.extBut D.i1z) (hl1.extBut hs₁.extBut D.l1z) hx fun h₂ h1₂ hs₂ => wpAny_pure ?_)
  refine wpAny_pure ?_
  refine wpAny_bind (wpAny_bind (wpAny_holding ?_))
  show wpAny _ _ (Builtin.SmallTypes.nextOf (.ref i2) >>= _) _ _ _
  refine wpAny_bind (wpAny_nextOf_list_item ((h2.extBut hs₁.extBut D.i2z).extBut hs₂.extBut D.i12.symm) ((hl2.extBut hs₁.extBut D.l2z).extBut hs₂.extBut D.l2i1) hy fun h₄ h2₄ hs₄ => wpAny_pure ?_)
  refine wpAny_pure (wpAny_pure ?_)
  show wpAny _ _ (newTuple [x, y] >>= _) _ _ _
  refine wpAny_bind (wpAny_newTuple ?_)
  have hsz : h₄.objs.size = s.heap.objs.size := by rw [hs₄.1, hs₂.1, hs₁.1]
  have hz₄ : IsZipK h₄ z TI TO (rawInt T) (.bool true) := hs₄.extBut _ _ D.i2z.symm (hs₂.extBut _ _ D.i1z.symm hz₁)
  have hk₄ : ∀ c o, c ≠ z → c ≠ i1 → c ≠ i2 → s.heap.get? c = some o → h₄.get? c = some o := fun c o c1 c3 c4 e => hs₄.extBut _ _ c4 (hs₂.extBut _ _ c3 (hs₁.extBut _ _ c1 e))
  have h1₄ : h₄.IsListIter i1 l1 (k1 + 1) := h1₂.extBut hs₄.extBut D.i12
  have up : ∀ c o, h₄.get? c = some o → (h₄.push { cls := .type "tuple", data := .seq [x, y].toArray }).get? c = some o := fun c o e => Heap.get?_push_of_some _ e
  refine wpAny_pure ⟨_, rfl, ?_⟩
  have hp : IsPair (h₄.push { cls := .type "tuple", data := .seq [x, y].toArray }) h₄.objs.size x y := Heap.get?_push_size _ rfl
  have hz8 : (h₄.push { cls := .type "tuple", data := .seq [x, y].toArray }).objs.size = h₄.objs.size + 1 := Heap.size_push ..
  show Q (.ref h₄.objs.size) _
  rw [hsz] at hp hz8 ⊢
  exact hQ _ (up _ _ hz₄) (h1₄.at fun o e => up _ o e) (h2₄.at fun o e => up _ o e) hp hz8 fun c o c1 c3 c4 e => up c o (hk₄ c o c1 c3 c4 e)
theorem zip_kept_end {z TI TO T i1 i2 l1 l2 : Addr} {f1 : Bool} {oT : Obj} {k1 k2 : Nat} {xs ys : Array Value} {Q : Fin → Shared → Prop} (hh : A.handled = none) (D : ZipApart z TI TO i1 i2 l1 l2)
    (hz : IsZipK s.heap z TI TO (rawInt T) (.bool f1)) (hTI : IsPair s.heap TI (.ref i1) (.ref i2)) (hT : s.heap.get? T = some oT)
    (h1 : s.heap.IsListIter i1 l1 k1) (h2 : s.heap.IsListIter i2 l2 k2) (hl1 : s.heap.IsList l1 xs) (hl2 : s.heap.IsList l2 ys) (hend : xs[k1]? = none ∨ ys[k2]? = none)
    (hE : ∀ h' e, (∀ c o, c ≠ z → c ≠ i1 → c ≠ i2 → s.heap.get? c = some o → h'.get? c = some o) → (∃ o, h'.get? e = some o ∧ o.cls = .type "StopIteration") → E (.ref e) { s with heap := h' }) :
    wpAny (model prog w) A (Builtin.«zip.__next__» ⟨[.ref z], []⟩) Q E s := by
  show wpAny _ _ (field (.ref z) 2 >>= _) _ _ _
  refine wpAny_bind (wpAny_field hz rfl (x := .bool false) rfl ?_)
  show wpAny _ _ (field (.ref z) 3 >>= _) _ _ _
  refine wpAny_bind (wpAny_field hz rfl (x := .ref TI) rfl ?_)
  refine wpAny_bind (wpAny_seqItems hTI rfl ?_)
  show wpAny _ _ (Builtin.SmallTypes.ownedTupleIsFree (.ref z) >>= _) _ _ _
  refine wpAny_bind (not_free hz hT fun h₁ hz₁ hs₁ => ?_)
  simp only [Bool.false_eq_true, if_false]
  simp only [List.forIn_toArray, List.forIn_cons, List.forIn_nil]
  refine wpAny_bind (wpAny_bind (wpAny_bind (wpAny_holding ?_)))
  show wpAny _ _ (Builtin.SmallTypes.nextOf (.ref i1) >>= _) _ _ _
  cases hx : xs[k1]? with
  | none =>
    refine wpAny_bind (wpAny_nextOf_list_end hh (h1.extBut hs₁.extBut D.i1z) (hl1.extBut hs₁.extBut D.l1z) hx fun h₂ e hs₂ he => ?_)
    exact hE h₂ e (fun c o c1 c3 _ x => hs₂ _ _ c3 (hs₁.extBut _ _ c1 x)) he
  | some x =>
    have hy : ys[k2]? = none := by rcases hend with h | h; rw [hx] at h; cases h; exact h
    refine wpAny_bind (wpAny_nextOf_list_item (h1.extBut hs₁.extBut D.i1z) (hl1.extBut hs₁.extBut D.l1z) hx fun h₂ h1₂ hs₂ => wpAny_pure ?_)
    refine wpAny_pure ?_
    refine wpAny_bind (wpAny_bind (wpAny_holding ?_))
    show wpAny _ _ (Builtin.SmallTypes.nextOf (.ref i2) >>= _) _ _ _
    refine wpAny_bind (wpAny_nextOf_list_end hh ((h2.extBut hs₁.extBut D.i2z).extBut hs₂.extBut D.i12.symm) ((hl2.extBut hs₁.extBut D.l2z).extBut hs₂.extBut D.l2i1) hy fun h₄ e hs₄ he => ?_)
    exact hE h₄ e (fun c o c1 c3 c4 x => hs₄ _ _ c4 (hs₂.extBut _ _ c3 (hs₁.extBut _ _ c1 x))) he
/-- where the walk stands: nothing handed out yet, or a kept tuple -/
def ZSt (z TI TO i1 i2 l1 l2 : Addr) (xs ys : Array Value) (i : Nat) (h : Heap) : Prop :=
  ((IsZip h z TI TO .none ∧ i = 0) ∨ ∃ (T : Addr) (b : Bool) (oT : Obj), IsZipK h z TI TO (rawInt T) (.bool b) ∧ h.get? T = some oT ∧ T ≠ z ∧ T ≠ TO ∧ T ≠ i1 ∧ T ≠ i2) ∧
  IsPair h TI (.ref i1) (.ref i2) ∧ (∃ a b, IsPair h TO a b) ∧ h.IsListIter i1 l1 i ∧ h.IsListIter i2 l2 i ∧ h.IsList l1 xs ∧ h.IsList l2 ys
theorem ZSt.at {z TI TO i1 i2 l1 l2 : Addr} {xs ys : Array Value} {i : Nat} {h h' : Heap} (q : ZSt z TI TO i1 i2 l1 l2 xs ys i h) (k : ∀ b o, (b = z ∨ b = TI ∨ b = TO ∨ b = i1 ∨ b = i2 ∨ b = l1 ∨ b = l2 ∨ (b ≠ z ∧ b ≠ TO ∧ b ≠ i1 ∧ b ≠ i2)) → h.get? b = some o → ∃ o', h'.get? b = some o' ∧ ((b = z ∨ b = TI ∨ b = TO ∨ b = i1 ∨ b = i2 ∨ b = l1 ∨ b = l2) → o' = o)) : ZSt z TI TO i1 i2 l1 l2 xs ys i h' := by
  have kk : ∀ b o, (b = z ∨ b = TI ∨ b = TO ∨ b = i1 ∨ b = i2 ∨ b = l1 ∨ b = l2) → h.get? b = some o → h'.get? b = some o := fun b o hb e => by
    obtain ⟨o', e', q⟩ := k b o (by rcases hb with h | h | h | h | h | h | h <;> simp [h]) e
    rw [q hb] at e'
    exact e'
  obtain ⟨q0, hTI, ⟨a, b, hTO⟩, h1, h2, hl1, hl2⟩ := q
  refine ⟨?_, kk _ _ (by simp) hTI, ⟨a, b, kk _ _ (by simp) hTO⟩, h1.at fun o e => kk _ o (by simp) e, h2.at fun o e => kk _ o (by simp) e, hl1.at fun o e => kk _ o (by simp) e, hl2.at fun o e => kk _ o (by simp) e⟩
  rcases q0 with ⟨hz, h0⟩ | ⟨T, b, oT, hz, hT, t1, t2, t3, t4⟩
  · exact .inl ⟨kk _ _ (by simp) hz, h0⟩
  · obtain ⟨o', e', _⟩ := k T oT (by simp [t1, t2, t3, t4]) hT
    exact .inr ⟨T, b, o', kk _ _ (by simp) hz, e', t1, t2, t3, t4⟩
theorem zst_item {z TI TO i1 i2 l1 l2 : Addr} {i : Nat} {xs ys : Array Value} {x y : Value} {Q : Option Value → Shared → Prop} (D : ZipApart z TI TO i1 i2 l1 l2) (hst : ZSt z TI TO i1 i2 l1 l2 xs ys i s.heap) (hx : xs[i]? = some x) (hy : ys[i]? = some y)
    (hQ : ∀ h', ZSt z TI TO i1 i2 l1 l2 xs ys (i + 1) h' → IsPair h' s.heap.objs.size x y → h'.objs.size = s.heap.objs.size + 1 →
      (∀ c o, c ≠ z → c ≠ TO → c ≠ i1 → c ≠ i2 → s.heap.get? c = some o → h'.get? c = some o) → Q (some (.ref s.heap.objs.size)) { s with heap := h' }) :
    wpAny (model prog w) A (pyNext (.ref z)) Q E s := by
  obtain ⟨q0, hTI, ⟨a, b, hTO⟩, h1, h2, hl1, hl2⟩ := hst
  have lt : ∀ {c o}, s.heap.get? c = some o → s.heap.objs.size ≠ c := fun e => Nat.ne_of_gt (Heap.lt_size e)
  rcases q0 with ⟨hz, h0⟩ | ⟨T, f1, oT, hz, hT, t1, t2, t3, t4⟩
  · refine wpAny_pyNext_zip_item D hz hTI hTO h1 h2 hl1 hl2 hx hy fun h' a1 a2 a3 a4 a5 a6 hk => hQ h' ⟨.inr ⟨_, false, _, a1, a5, lt hz, lt hTO, (by obtain ⟨_, e, _⟩ := h1; exact lt e), (by obtain ⟨_, e, _⟩ := h2; exact lt e)⟩, hk _ _ D.TIz D.TITO D.TIi1 D.TIi2 hTI, ⟨_, _, a2⟩, a3, a4, hl1.at fun o e => hk _ o D.l1z D.l1TO D.l1i1 D.l1i2 e, hl2.at fun o e => hk _ o D.l2z D.l2TO D.l2i1 D.l2i2 e⟩ a5 a6 hk
  · have hT' : s.TypeIs (.ref z) "zip" := ⟨_, hz, rfl⟩
    unfold pyNext
    refine wpAny_bind (wpAny_attempt (wpAny_callSpecial?_slot (name := Str.ofString "__next__") hT' F.slot_zip_next
      (wpAny_call_entry F.slot_zip_next hT' F.entry_zip_next
        (zip_kept_item D hz hTI hT h1 h2 hl1 hl2 hx hy fun h' a1 a3 a4 a5 a6 hk => wpAny_pure ?_) (F.args_zip_next_1 _))))
    exact hQ h' ⟨.inr ⟨T, true, oT, a1, hk _ _ t1 t3 t4 hT, t1, t2, t3, t4⟩, hk _ _ D.TIz D.TIi1 D.TIi2 hTI, ⟨_, _, hk _ _ D.TOz D.TOi1 D.TOi2 hTO⟩, a3, a4, hl1.at fun o e => hk _ o D.l1z D.l1i1 D.l1i2 e, hl2.at fun o e => hk _ o D.l2z D.l2i1 D.l2i2 e⟩ a5 a6 fun c o c1 _ c3 c4 e => hk c o c1 c3 c4 e
theorem zst_done {z TI TO i1 i2 l1 l2 : Addr} {i : Nat} {xs ys : Array Value} {Q : Option Value → Shared → Prop} (hh : A.handled = none) (D : ZipApart z TI TO i1 i2 l1 l2) (hst : ZSt z TI TO i1 i2 l1 l2 xs ys i s.heap) (hend : xs[i]? = none ∨ ys[i]? = none)
    (hQ : ∀ h', (∀ c o, c ≠ z → c ≠ TO → c ≠ i1 → c ≠ i2 → s.heap.get? c = some o → h'.get? c = some o) → Q none { s with heap := h' }) : wpAny (model prog w) A (pyNext (.ref z)) Q E s := by
  obtain ⟨q0, hTI, ⟨a, b, hTO⟩, h1, h2, hl1, hl2⟩ := hst
  rcases q0 with ⟨hz, h0⟩ | ⟨T, f1, oT, hz, hT, t1, t2, t3, t4⟩
  · exact wpAny_pyNext_zip_end hh D hz hTI hTO h1 h2 hl1 hl2 hend hQ
  · have hT' : s.TypeIs (.ref z) "zip" := ⟨_, hz, rfl⟩
    unfold pyNext
    refine wpAny_bind (wpAny_attempt (wpAny_callSpecial?_slot (name := Str.ofString "__next__") hT' F.slot_zip_next
      (wpAny_call_entry F.slot_zip_next hT' F.entry_zip_next (zip_kept_end hh D hz hTI hT h1 h2 hl1 hl2 hend fun h' e hk he => ?_) (F.args_zip_next_1 _))))
    obtain ⟨o, ho, hc⟩ := he
    refine wpAny_bind (wpAny_isInstance (T := "StopIteration") (b := true) ⟨o, ho, hc⟩ isSubtype_stop ?_)
    exact wpAny_pure (hQ _ fun c o c1 _ c3 c4 e => hk c o c1 c3 c4 e)
/-- the tuples made so far -/
def ZL (N : Nat) (S z TO i1 i2 : Addr) (h : Heap) (L : List (Addr × Value × Value)) : Prop := (∀ p ∈ L, N ≤ p.1 ∧ p.1 ≠ S ∧ p.1 ≠ z ∧ p.1 ≠ TO ∧ p.1 ≠ i1 ∧ p.1 ≠ i2 ∧ IsPair h p.1 p.2.1 p.2.2) ∧ (L.map (·.1)).Nodup
theorem ZL.at {N : Nat} {S z TO i1 i2 : Addr} {h h' : Heap} {L : List (Addr × Value × Value)} (q : ZL N S z TO i1 i2 h L) (k : ∀ b o, b ≠ S → b ≠ z → b ≠ TO → b ≠ i1 → b ≠ i2 → h.get? b = some o → h'.get? b = some o) : ZL N S z TO i1 i2 h' L := ⟨fun p hp => by
  obtain ⟨a0, a1, a2, a3, a4, a5, a6⟩ := q.1 p hp
  exact ⟨a0, a1, a2, a3, a4, a5, k _ _ a1 a2 a3 a4 a5 a6⟩, q.2⟩
theorem zip_loop {z TI TO i1 i2 l1 l2 S : Addr} {N : Nat} {xs ys : Array Value} {R : Result → Shared → Prop} (hh : A.handled = none) (D : ZipApart z TI TO i1 i2 l1 l2) (hS1 : S ≠ z) (hS2 : S ≠ TI) (hS3 : S ≠ TO) (hS4 : S ≠ i1) (hS5 : S ≠ i2) (hS6 : S ≠ l1) (hS7 : S ≠ l2) (hn : min xs.size ys.size ≤ sizeLine) (res : Value) :
    ∀ (k i : Nat) (s : Shared) (L : List (Addr × Value × Value)) (c : Nat), min xs.size ys.size - i = k → i ≤ min xs.size ys.size → N ≤ s.heap.objs.size → ZSt z TI TO i1 i2 l1 l2 xs ys i s.heap →
    s.heap.get? S = some { cls := .type "list", dict := none, data := .seq (L.map fun p => Value.ref p.1).toArray c, slots := #[] } → ZL N S z TO i1 i2 s.heap L → L.map (·.2) = (xs.toList.zip ys.toList).take i →
    (∀ h' L' c', (∀ b o, b ≠ S → b ≠ z → b ≠ TO → b ≠ i1 → b ≠ i2 → s.heap.get? b = some o → h'.get? b = some o) → h'.get? S = some { cls := .type "list", dict := none, data := .seq (L'.map fun p => Value.ref p.1).toArray c', slots := #[] } →
      ZL N S z TO i1 i2 h' L' → L'.map (·.2) = xs.toList.zip ys.toList → R (.ok (.ret res)) { s with heap := h' }) →
    codeAny (model prog w) A (.builtin "list.extend.loop" ⟨[.ref S, .ref z, res], []⟩) R s := by
  have hzl : (xs.toList.zip ys.toList).length = min xs.size ys.size := by rw [List.length_zip, Array.length_toList, Array.length_toList]
  intro k
  induction k with
  | zero =>
    intro i s L c hk hi hN hst hS hL hm hR
    have hin : i = min xs.size ys.size := by omega
    refine codeAny_builtin F.entry_extend_loop ?_
    rw [Around.under_plainId F.plain_extend_loop _]
    show wpAny _ A.in1 (pyNext (.ref z) >>= _) _ _ s
    have hend : xs[i]? = none ∨ ys[i]? = none := by
      rcases Nat.le_total xs.size ys.size with h | h
      · exact .inl (Array.getElem?_eq_none (by rw [hin, Nat.min_eq_left h]; exact Nat.le_refl _))
      · exact .inr (Array.getElem?_eq_none (by rw [hin, Nat.min_eq_right h]; exact Nat.le_refl _))
    refine wpAny_bind (zst_done (A := A.in1) hh D hst hend fun h' hk' => ?_)
    refine wpAny_pure (hR h' L c (fun b o _ b1 b2 b3 b4 e => hk' b o b1 b2 b3 b4 e) (hk' S _ hS1 hS3 hS4 hS5 hS) (hL.at fun b o _ b1 b2 b3 b4 e => hk' b o b1 b2 b3 b4 e) ?_)
    rw [hm, hin, ← hzl, List.take_length]
  | succ k ih =>
    intro i s L c hk hi hN hst hS hL hm hR
    have hlt : i < min xs.size ys.size := by omega
    have hix : i < xs.size := Nat.lt_of_lt_of_le hlt (Nat.min_le_left ..)
    have hiy : i < ys.size := Nat.lt_of_lt_of_le hlt (Nat.min_le_right ..)
    have hlen : L.length = i := by
      have := congrArg List.length hm
      rw [List.length_map, List.length_take, hzl] at this
      omega
    refine codeAny_builtin F.entry_extend_loop ?_
    rw [Around.under_plainId F.plain_extend_loop _]
    show wpAny _ A.in1 (pyNext (.ref z) >>= _) _ _ s
    refine wpAny_bind (zst_item (A := A.in1) D hst (Array.getElem?_eq_getElem hix) (Array.getElem?_eq_getElem hiy) fun h' hst' hp hsz hk' => ?_)
    have hS' := hk' S _ hS1 hS3 hS4 hS5 hS
    have lt : ∀ {c o}, s.heap.get? c = some o → s.heap.objs.size ≠ c := fun e => Nat.ne_of_gt (Heap.lt_size e)
    obtain ⟨q0, _, ⟨a, b, hTO⟩, ⟨_, g1, _⟩, ⟨_, g2, _⟩, _⟩ := id hst
    have hz0 : ∃ o, s.heap.get? z = some o := by
      rcases q0 with ⟨hz, _⟩ | ⟨T, b, oT, hz, _⟩
      · exact ⟨_, hz⟩
      · exact ⟨_, hz⟩
    obtain ⟨oz, hz0⟩ := hz0
    have hL' : ZL N S z TO i1 i2 h' (L ++ [(s.heap.objs.size, xs[i], ys[i])]) := by
      have h0 := hL.at (h' := h') fun b o _ b1 b2 b3 b4 e => hk' b o b1 b2 b3 b4 e
      refine ⟨fun p hp' => ?_, ?_⟩
      · rcases List.mem_append.mp hp' with e | e
        · exact h0.1 p e
        · rw [List.mem_singleton.mp e]
          exact ⟨hN, lt hS, lt hz0, lt hTO, lt g1, lt g2, hp⟩
      · rw [List.map_append, List.nodup_append]
        refine ⟨hL.2, by simp, fun a ha b hb => ?_⟩
        rw [List.mem_singleton.mp hb]
        obtain ⟨p, hp', rfl⟩ := List.mem_map.mp ha
        have := (hL.1 p hp').2.2.2.2.2.2
        exact (lt this).symm
    show wpAny _ A.in1 (updateSeq S (·.push (.ref s.heap.objs.size)) >>= _) _ _ _
    refine wpAny_bind ?_
    have eA : (L.map fun p => Value.ref p.1).toArray.push (.ref s.heap.objs.size) = ((L ++ [(s.heap.objs.size, xs[i], ys[i])]).map fun p => Value.ref p.1).toArray := by
      rw [List.map_append, List.push_toArray]
      rfl
    have hU := Heap.get?_update_self (Obj.mapSeq (·.push (Value.ref s.heap.objs.size))) hS' rfl
    simp only [Obj.mapSeq, eA] at hU
    refine wpAny_updateSeq hS' rfl (wpAny_pure ⟨plainId_quiet F.plain_extend_loop _, ih (i + 1) _ (L ++ [(s.heap.objs.size, xs[i], ys[i])]) _ (by omega) hlt ?_ (hst'.at fun b o hb e => ?_) hU (hL'.at fun b o b0 _ _ _ _ e => ?_) ?_ fun h'' L'' c'' hk'' hS'' hL'' hm'' => ?_⟩)
      (by rw [List.size_toArray, List.length_map]; omega) (by show ((L.map fun p => Value.ref p.1).toArray.push _).size ≤ sizeLine + 1; rw [Array.size_push, List.size_toArray, List.length_map]; omega)
    · show N ≤ (h'.update S _).objs.size
      rw [Heap.size_update, hsz]
      omega
    · by_cases hbS : b = S
      · subst hbS
        rw [e] at hS'
        refine ⟨_, Heap.get?_update_self _ e (by cases hS'; rfl), fun z => ?_⟩
        rcases z with z | z | z | z | z | z | z
        · exact absurd z hS1
        · exact absurd z hS2
        · exact absurd z hS3
        · exact absurd z hS4
        · exact absurd z hS5
        · exact absurd z hS6
        · exact absurd z hS7
      · exact ⟨o, (Heap.get?_update_other _ _ (Ne.symm hbS)).trans e, fun _ => rfl⟩
    · exact (Heap.get?_update_other _ _ (Ne.symm b0)).trans e
    · have hz9 : (xs.toList.zip ys.toList)[i]? = some (xs[i], ys[i]) := List.getElem?_zip_eq_some.mpr ⟨by rw [Array.getElem?_toList]; exact Array.getElem?_eq_getElem hix, by rw [Array.getElem?_toList]; exact Array.getElem?_eq_getElem hiy⟩
      rw [List.map_append, hm, List.take_succ, hz9]
      rfl
    · refine hR h'' L'' c'' (fun b o b0 b1 b2 b3 b4 e => hk'' b o b0 b1 b2 b3 b4 ((Heap.get?_update_other _ _ (Ne.symm b0)).trans (hk' b o b1 b2 b3 b4 e))) hS'' hL'' hm''
theorem zip_no_len : typeLookup (.type "zip") "__len__" = pure none := by rw [typeLookup_type, builtinLookup_eq_fast]; kernel_rfl
theorem zip_no_hint : typeLookup (.type "zip") "__length_hint__" = pure none := by rw [typeLookup_type, builtinLookup_eq_fast]; kernel_rfl
theorem extendZip {z TI TO i1 i2 l1 l2 S : Addr} {N c₀ : Nat} {xs ys : Array Value} {R : Result → Shared → Prop} (res : Value) (hh : A.handled = none) (D : ZipApart z TI TO i1 i2 l1 l2) (hS1 : S ≠ z) (hS2 : S ≠ TI) (hS3 : S ≠ TO) (hS4 : S ≠ i1) (hS5 : S ≠ i2) (hS6 : S ≠ l1) (hS7 : S ≠ l2) (hn : min xs.size ys.size ≤ sizeLine)
    (hN : N ≤ s.heap.objs.size) (hst : ZSt z TI TO i1 i2 l1 l2 xs ys 0 s.heap) (hz : IsZip s.heap z TI TO .none) (hS : s.heap.get? S = some { cls := .type "list", data := .seq #[] c₀ })
    (hR : ∀ h' L' c', (∀ b o, b ≠ S → b ≠ z → b ≠ TO → b ≠ i1 → b ≠ i2 → s.heap.get? b = some o → h'.get? b = some o) → h'.get? S = some { cls := .type "list", dict := none, data := .seq (L'.map fun p => Value.ref p.1).toArray c', slots := #[] } →
      ZL N S z TO i1 i2 h' L' → L'.map (·.2) = xs.toList.zip ys.toList → R (.ok (.ret res)) { s with heap := h' }) :
    wpAny (model prog w) A.in1 (Builtin.List.listExtendWith (.ref S) (.ref z) res) (fun fin s' => match fin with | .done f => R (.ok f) s' | .again c' => c'.quiet = true ∧ codeAny (model prog w) A c' R s') (fun e s' => R (.error e) s') s := by
  have kind : s.TypeIs (.ref z) "zip" := ⟨_, hz, rfl⟩
  have other : Builtin.List.listSameRef (.ref S) (.ref z) = false := by simp [Builtin.List.listSameRef, hS1]
  unfold Builtin.List.listExtendWith
  refine wpAny_bind (wpAny_typeOf kind ?_)
  rw [if_neg (by rw [other]; decide)]
  refine wpAny_bind (wpAny_pyIter_zip hz (wpAny_bind (wpAny_holding ?_)))
  unfold Builtin.List.listLengthHint
  refine wpAny_bind (wpAny_specialOf kind zip_no_len ?_)
  show wpAny _ A.in1 (specialOf (Value.ref z) (Str.ofString "__length_hint__") >>= _) _ _ _
  refine wpAny_bind (wpAny_specialOf kind zip_no_hint ?_)
  refine wpAny_pure ?_
  show wpAny _ A.in1 (rule "list.extend.makes-room" >>= fun _ => Builtin.List.listTouch (.ref S) >>= fun _ => again (.builtin "list.extend.loop" ⟨[.ref S, .ref z, res], []⟩)) _ _ _
  refine wpAny_bind (wpAny_rule ?_)
  refine wpAny_bind ?_
  show wpAny _ A.in1 (updateSeq S (·.push .none) >>= fun _ => updateSeq S (·.pop)) _ _ _
  refine wpAny_bind (wpAny_updateSeq hS rfl ?_)
  have hS₂ := Heap.get?_update_self (Obj.mapSeq (·.push Value.none)) hS rfl
  refine wpAny_updateSeq hS₂ rfl ?_
  have hS₃ := Heap.get?_update_self (Obj.mapSeq (·.pop)) hS₂ rfl
  have oth : ∀ b o, b ≠ S → s.heap.get? b = some o → ((s.heap.update S (Obj.mapSeq (·.push Value.none))).update S (Obj.mapSeq (·.pop))).get? b = some o :=
    fun b o hb e => (Heap.get?_update_other _ _ (Ne.symm hb)).trans ((Heap.get?_update_other _ _ (Ne.symm hb)).trans e)
  refine wpAny_pure ⟨plainId_quiet F.plain_extend_loop _, zip_loop (N := N) hh D hS1 hS2 hS3 hS4 hS5 hS6 hS7 hn res _ 0 _ [] _ rfl (Nat.zero_le _) ?_ (hst.at fun b o _ e => ?_) hS₃ ⟨by simp, by simp⟩ (by simp) fun h' L' c' hk hS' hL hm => hR h' L' c' (fun b o b0 b1 b2 b3 b4 e => hk b o b0 b1 b2 b3 b4 (oth b o b0 e)) hS' hL hm⟩
  · show N ≤ ((s.heap.update S _).update S _).objs.size
    rw [Heap.size_update, Heap.size_update]
    exact hN
  · by_cases hb : b = S
    · subst hb
      exact ⟨_, hS₃, fun z => by
        rcases z with z | z | z | z | z | z | z
        · exact absurd z hS1
        · exact absurd z hS2
        · exact absurd z hS3
        · exact absurd z hS4
        · exact absurd z hS5
        · exact absurd z hS6
        · exact absurd z hS7⟩
    · exact ⟨o, oth b o hb e, fun _ => rfl⟩
theorem listZip {z TI TO i1 i2 l1 l2 : Addr} {N : Nat} {xs ys : Array Value} {Q : Value → Shared → Prop} (hh : A.handled = none) (D : ZipApart z TI TO i1 i2 l1 l2) (hn : min xs.size ys.size ≤ sizeLine)
    (hN : N ≤ s.heap.objs.size) (hst : ZSt z TI TO i1 i2 l1 l2 xs ys 0 s.heap) (hz : IsZip s.heap z TI TO .none)
    (hQ : ∀ h' L' c', (∀ b o, b ≠ z → b ≠ TO → b ≠ i1 → b ≠ i2 → s.heap.get? b = some o → h'.get? b = some o) → h'.get? s.heap.objs.size = some { cls := .type "list", dict := none, data := .seq (L'.map fun p => Value.ref p.1).toArray c', slots := #[] } →
      ZL N s.heap.objs.size z TO i1 i2 h' L' → L'.map (·.2) = xs.toList.zip ys.toList → Q (.ref s.heap.objs.size) { s with heap := h' }) :
    wpAny (model prog w) A (call (.type "list") [.ref z]) Q E s := by
  refine callType_codes (Q₁ := fun obj t => obj = .ref s.heap.objs.size ∧ t = { s with heap := s.heap.push { cls := .type "list", data := .seq #[] } }) F.called_list (F.typeCall_list_1 _) F.entry_list_init (code_list_new _ ⟨rfl, rfl⟩) ?_
  rintro _ _ ⟨rfl, rfl⟩
  obtain ⟨_, hTI, ⟨a, b, hTO⟩, ⟨_, g1, _⟩, ⟨_, g2, _⟩, ⟨_, g3, _⟩, ⟨_, g4, _⟩⟩ := id hst
  have ne : ∀ {c o}, s.heap.get? c = some o → s.heap.objs.size ≠ c := fun e => Nat.ne_of_gt (Heap.lt_size e)
  have made : (s.heap.push { cls := .type "list", data := .seq #[] }).get? s.heap.objs.size = some { cls := .type "list", data := .seq #[] } := Heap.get?_push_size _ rfl
  refine ⟨⟨_, made, rfl⟩, F.args_list_init_2 _ _, ?_⟩
  show wpAny _ A.in1.in1 (do let old ← Builtin.List.listItems (.ref s.heap.objs.size); Builtin.List.listUpdate (.ref s.heap.objs.size) (fun _ => #[]); letGo old.toList.reverse; Builtin.List.listExtendWith (.ref s.heap.objs.size) (.ref z) .none) _ _ _
  refine wpAny_bind ?_
  unfold Builtin.List.listItems
  refine wpAny_bind (wpAny_seqItems made rfl (wpAny_pure ?_))
  show wpAny _ A.in1.in1 (updateSeq s.heap.objs.size (fun _ => #[]) >>= fun _ => letGo (#[] : Array Value).toList.reverse >>= fun _ => Builtin.List.listExtendWith (.ref s.heap.objs.size) (.ref z) .none) _ _ _
  refine wpAny_bind (wpAny_updateSeq made rfl ?_)
  have empty := Heap.get?_update_self (Obj.mapSeq (fun _ => (#[] : Array Value))) made rfl
  have oth : ∀ b o, b ≠ s.heap.objs.size → s.heap.get? b = some o → ((s.heap.push { cls := .type "list", data := .seq #[] }).update s.heap.objs.size (Obj.mapSeq (fun _ => (#[] : Array Value)))).get? b = some o :=
    fun b o hb e => (Heap.get?_update_other _ _ (Ne.symm hb)).trans (Heap.get?_push_of_some _ e)
  refine wpAny_bind (wpAny_letGo ?_)
  have oth' : ∀ b o, s.heap.get? b = some o → ((s.heap.push { cls := .type "list", data := .seq #[] }).update s.heap.objs.size (Obj.mapSeq (fun _ => (#[] : Array Value)))).get? b = some o := fun b o e => oth b o (ne e).symm e
  refine extendZip (A := A.in1) (N := N) .none hh D (ne hz) (ne hTI) (ne hTO) (ne g1) (ne g2) (ne g3) (ne g4) hn ?_ (hst.at fun b o _ e => ⟨o, oth' b o e, fun _ => rfl⟩) (oth' _ _ hz) empty fun h' L' c' hk hS' hL hm => ⟨rfl, hQ h' L' c' (fun b o b1 b2 b3 b4 e => hk b o (ne e).symm b1 b2 b3 b4 (oth' b o e)) hS' hL hm⟩
  show N ≤ ((s.heap.push _).update _ _).objs.size
  rw [Heap.size_update, Heap.size_push]
  omega
end
/-- list(zip(x, y)): a new list of new pairs -/
def tLstZip (K : PySem.W.Frag) (ta : TA) : TE := fun τ G Q => ta τ G fun vs G1 => ∃ (a b : Addr) (xs ys : List V), vs = [.ref a, .ref b] ∧ SqL K G1 a xs ∧ SqL K G1 b ys ∧
  ∀ (q : Addr) (L : List (Addr × V × V)) (G2 : Hp), G1 q = none → Ex G1 G2 → G2 q = some (.lst (L.map fun p => V.ref p.1)) → (∀ p ∈ L, G1 p.1 = none ∧ p.1 ≠ q ∧ G2 p.1 = some (.tup [p.2.1, p.2.2])) → L.map (·.2) = xs.zip ys → Q (.ref q) G2
def zipHp (q : Addr) (L : List (Addr × V × V)) (G : Hp) : Hp := fun c => if c = q then some (.lst (L.map fun p => V.ref p.1)) else match L.find? (fun p => decide (p.1 = c)) with
  | some p => some (.tup [p.2.1, p.2.2])
  | none => G c
theorem fst_inj {α : Type} : ∀ {L : List (Addr × α)} {p p' : Addr × α}, (L.map (·.1)).Nodup → p ∈ L → p' ∈ L → p.1 = p'.1 → p = p'
  | x :: L, p, p', hn, h, h', e => by
    rw [List.map_cons, List.nodup_cons] at hn
    rcases List.mem_cons.mp h with h | h
    · rcases List.mem_cons.mp h' with h' | h'
      · rw [h, h']
      · exact absurd (List.mem_map.mpr ⟨p', h', by rw [← e, h]⟩) hn.1
    · rcases List.mem_cons.mp h' with h' | h'
      · exact absurd (List.mem_map.mpr ⟨p, h, by rw [e, h']⟩) hn.1
      · exact fst_inj hn.2 h h' e
theorem zipHp_in {q : Addr} {L : List (Addr × V × V)} {G : Hp} (hn : (L.map (·.1)).Nodup) {p : Addr × V × V} (hp : p ∈ L) (hq : p.1 ≠ q) : zipHp q L G p.1 = some (.tup [p.2.1, p.2.2]) := by
  unfold zipHp
  rw [if_neg hq]
  cases e : L.find? (fun p' => decide (p'.1 = p.1)) with
  | none =>
    have := List.find?_eq_none.mp e p hp
    simp at this
  | some p' =>
    have h1 := List.find?_some e
    have h2 := List.mem_of_find?_eq_some e
    rw [fst_inj hn h2 hp (of_decide_eq_true h1)]
theorem zipHp_out {q : Addr} {L : List (Addr × V × V)} {G : Hp} {c : Addr} (hq : c ≠ q) (h : ∀ p ∈ L, p.1 ≠ c) : zipHp q L G c = G c := by
  unfold zipHp
  rw [if_neg hq, List.find?_eq_none.mpr fun p hp => by simpa using h p hp]
theorem zip_rel : ∀ {xs ys : List V} {its its2 : List Value}, Vals xs its → Vals ys its2 → ∀ {L' : List (Addr × Value × Value)}, L'.map (·.2) = its.zip its2 →
    ∃ L : List (Addr × V × V), L.map (·.1) = L'.map (·.1) ∧ L.map (·.2) = xs.zip ys ∧ ∀ p ∈ L, ∃ p' ∈ L', p'.1 = p.1 ∧ RelV p.2.1 p'.2.1 ∧ RelV p.2.2 p'.2.2
  | _, _, _, _, .nil, _, L', h => by
    rw [List.zip_nil_left] at h
    have : L' = [] := List.map_eq_nil_iff.mp h
    subst this
    exact ⟨[], rfl, rfl, fun p hp => by cases hp⟩
  | _, _, _, _, .cons _ _, .nil, L', h => by
    rw [List.zip_nil_right] at h
    have : L' = [] := List.map_eq_nil_iff.mp h
    subst this
    exact ⟨[], rfl, rfl, fun p hp => by cases hp⟩
  | _, _, _, _, .cons (a := x) (b := u) r rs, .cons (a := y) (b := v) r' rs', L', h => by
    cases L' with
    | nil => cases h
    | cons p' L' =>
      rw [List.map_cons, List.zip_cons_cons, List.cons.injEq] at h
      obtain ⟨L, h1, h2, h3⟩ := zip_rel rs rs' h.2
      refine ⟨(p'.1, x, y) :: L, by rw [List.map_cons, List.map_cons, h1], by rw [List.map_cons, List.zip_cons_cons, h2], fun p hp => ?_⟩
      rcases List.mem_cons.mp hp with e | e
      · subst e
        refine ⟨p', List.mem_cons_self .., rfl, ?_, ?_⟩
        · rw [h.1]; exact r
        · rw [h.1]; exact r'
      · obtain ⟨q, hq, r⟩ := h3 p e
        exact ⟨q, List.mem_cons_of_mem _ hq, r⟩
theorem zip_lay {X : Cx} {pins : List (Addr × Obj)} {τ : L2.St} {G1 : Hp} {t : Shared} {h' : Heap} {q z TO i1 i2 : Addr} {xs ys : List V} {its its2 : List Value} {L' : List (Addr × Value × Value)} {c' tk : Nat} (J : Inv X pins τ G1 t)
    (k : ∀ c o, t.heap.get? c = some o → h'.get? c = some o) (hq : t.heap.objs.size ≤ q) (made : h'.get? q = some { cls := .type "list", dict := none, data := .seq (L'.map fun p => Value.ref p.1).toArray c', slots := #[] })
    (hL : ZL t.heap.objs.size q z TO i1 i2 h' L') (rx : Vals xs its) (ry : Vals ys its2) (hm : L'.map (·.2) = its.zip its2) (z1 : xs.length ≤ sizeLine) :
    ∃ L : List (Addr × V × V), Inv X pins τ (zipHp q L G1) { t with heap := h', toks := tk } ∧ Ex G1 (zipHp q L G1) ∧ G1 q = none ∧ zipHp q L G1 q = some (.lst (L.map fun p => V.ref p.1)) ∧ (∀ p ∈ L, G1 p.1 = none ∧ p.1 ≠ q ∧ zipHp q L G1 p.1 = some (.tup [p.2.1, p.2.2])) ∧ L.map (·.2) = xs.zip ys := by
  obtain ⟨L, h1, h2, h3⟩ := zip_rel rx ry hm
  have hn : (L.map (·.1)).Nodup := by rw [h1]; exact hL.2
  have big : ∀ p ∈ L, t.heap.objs.size ≤ p.1 ∧ p.1 ≠ q := fun p hp => by
    obtain ⟨p', hp', e, _⟩ := h3 p hp
    rw [← e]
    exact ⟨(hL.1 p' hp').1, (hL.1 p' hp').2.1⟩
  have out : ∀ c, c < t.heap.objs.size → zipHp q L G1 c = G1 c := fun c hc => zipHp_out (Nat.ne_of_lt (Nat.lt_of_lt_of_le hc hq)) fun p hp e => by
    have := (big p hp).1
    rw [e] at this
    exact absurd hc (Nat.not_lt.mpr this)
  have ex : Ex G1 (zipHp q L G1) := fun c o e => by rw [out c (J.hok.lt e)]; exact e
  have gq : zipHp q L G1 q = some (.lst (L.map fun p => V.ref p.1)) := by
    unfold zipHp
    rw [if_pos rfl]
  have hin : ∀ p ∈ L, zipHp q L G1 p.1 = some (.tup [p.2.1, p.2.2]) := fun p hp => zipHp_in hn hp (big p hp).2
  have hlen : L.length ≤ sizeLine := by
    have := congrArg List.length h2
    rw [List.length_map, List.length_zip] at this
    omega
  refine ⟨L, J.un (h' := h') (t' := tk) ⟨fun b o e _ _ _ => k b o e, fun b o e _ _ _ => ⟨o.slots, k b o e⟩, fun b o e n _ => by rw [out b (Heap.lt_size e)]; exact n, fun b o e _ => ⟨o, k b o e⟩, fun b vs e => ex _ _ e, fun b o u e => ex _ _ e, fun b ps e => ⟨#[], by rw [ex _ _ e]; simp⟩⟩ ?_, ex, J.hok.fresh hq, gq, fun p hp => ⟨J.hok.fresh (big p hp).1, (big p hp).2, hin p hp⟩, h2⟩
  intro b u e
  by_cases hb : b < t.heap.objs.size
  · rw [out b hb] at e
    exact (J.hok b u e).stay (fun c v _ r => k c v r) (fun c r => ex _ _ r) fun c vs r => ex _ _ r
  · by_cases hbq : b = q
    · subst hbq
      rw [gq] at e
      cases e
      refine ⟨by rw [List.length_map]; exact hlen, L'.map fun p => Value.ref p.1, c', ?_, made⟩
      have hv : ∀ (l : List Addr), Vals (l.map V.ref) (l.map Value.ref) := fun l => by
        induction l with
        | nil => exact .nil
        | cons a l ih => exact .cons rfl ih
      have e1 : (L.map fun p => V.ref p.1) = (L.map (·.1)).map V.ref := by rw [List.map_map]; rfl
      have e2 : (L'.map fun p => Value.ref p.1) = (L'.map (·.1)).map Value.ref := by rw [List.map_map]; rfl
      rw [e1, e2, h1]
      exact hv _
    · have hex : ∃ p ∈ L, p.1 = b := Classical.byContradiction fun z => by
        rw [zipHp_out hbq fun p hp e => z ⟨p, hp, e⟩, J.hok.fresh (Nat.le_of_not_lt hb)] at e
        cases e
      obtain ⟨p, hp, rfl⟩ := hex
      rw [hin p hp] at e
      cases e
      obtain ⟨p', hp', e1, r1, r2⟩ := h3 p hp
      have := (hL.1 p' hp').2.2.2.2.2.2
      rw [e1] at this
      exact ⟨by show 2 ≤ sizeLine; decide, [p'.2.1, p'.2.2], .cons r1 (.cons r2 .nil), _, this, rfl, _, rfl⟩
theorem pe_lstZip {X : Cx} (K : PySem.W.Frag) (h : X.K = K) {e e2 : Expr} {ta : TA} {p p2 pos pos2 : Pos} (hc : X.calm = true) (hg : Gl X "list") (hm : X.mg "list" = none) (hg2 : Gl X "zip") (hm2 : X.mg "zip" = none) (ha : PA X [e, e2] ta)
    (hs : starEach [e, e2] X.env = (false, eval e X.env) :: starEach [e2] X.env := by rfl) (hpl : (backTo pos2 (starEach [e2] X.env)).any (·.1) = false := by rfl)
    (hs2 : starEach [.Call (.Name "zip" p2) [e, e2] [] pos2] X.env = (false, eval (.Call (.Name "zip" p2) [e, e2] [] pos2) X.env) :: starEach [] X.env := by rfl) :
    PE X (.Call (.Name "list" p) [.Call (.Name "zip" p2) [e, e2] [] pos2] [] pos) (tLstZip K ta) := by
  subst h
  constructor
  intro pins s τ G Q I h
  refine Call_ (ld_blt I hg hm boot_list (PyProof.Rows.callWith_type1 (args_cons (Call_ (ld_blt I hg2 hm2 PyProof.Rows.boot_zip (PyProof.Rows.callWith_type1 (thn (ha.run pos2 pins s τ G _ I h) fun us t ⟨vs, G1, J, rv, q1⟩ => ?_) hs hpl))) hs2) hs2 rfl))
  obtain ⟨a, b, xs, ys, ex, hqx, hqy, q⟩ := q1
  subst ex
  cases rv with
  | cons r rr =>
  cases rr with
  | cons r' rr =>
  cases rr
  cases r
  cases r'
  obtain ⟨its, rx, p1, z1⟩ := J.list hqx
  obtain ⟨its2, ry, p2, z2⟩ := J.list hqy
  have la : a < t.heap.objs.size := p1.lt
  have lb : b < t.heap.objs.size := p2.lt
  refine call_zip_2 p1.isList p2.isList fun h1 hz hTI hTO g1 g2 hsz hk => args_nil ?_
  have il1 : h1.IsList a its.toArray := p1.isList.at fun o e => hk _ o e
  have il2 : h1.IsList b its2.toArray := p2.isList.at fun o e => hk _ o e
  have e1 : its.length = xs.length := rx.length.symm
  have e2 : its2.length = ys.length := ry.length.symm
  have szl : t.heap.objs.size ≤ h1.objs.size := by rw [hsz]; omega
  have ne5 : ∀ {c o}, t.heap.get? c = some o → c ≠ t.heap.objs.size + 4 ∧ c ≠ t.heap.objs.size + 3 ∧ c ≠ t.heap.objs.size ∧ c ≠ t.heap.objs.size + 1 := fun {c o} e => by
    have := Heap.lt_size e
    exact ⟨Nat.ne_of_lt (Nat.lt_of_lt_of_le this (Nat.le_add_right _ _)), Nat.ne_of_lt (Nat.lt_of_lt_of_le this (Nat.le_add_right _ _)), Nat.ne_of_lt this, Nat.ne_of_lt (Nat.lt_of_lt_of_le this (Nat.le_add_right _ _))⟩
  refine listZip (s := { t with heap := h1 }) (N := t.heap.objs.size) (J.ok.hd hc) (PySem.W.ktu_apart t.heap.objs.size a b la lb) (xs := its.toArray) (ys := its2.toArray) (by rw [List.size_toArray, List.size_toArray]; omega) szl ⟨.inl ⟨hz, rfl⟩, hTI, ⟨_, _, hTO⟩, g1, g2, il1, il2⟩ hz fun h' L' c' keep made hL hm => ?_
  have keepT : ∀ c o, t.heap.get? c = some o → h'.get? c = some o := fun c o e => by
    obtain ⟨n1, n2, n3, n4⟩ := ne5 e
    exact keep c o n1 n2 n3 n4 (hk c o e)
  have hq : t.heap.objs.size ≤ h1.objs.size := szl
  have hm : L'.map (·.2) = its.zip its2 := hm
  obtain ⟨L, J2, ex, gq, gq2, hLs, hLm⟩ := zip_lay (tk := t.toks) J keepT hq (show h'.get? h1.objs.size = _ from made) hL rx ry hm z1
  exact ⟨.ref h1.objs.size, _, J2, rfl, q _ L _ gq ex gq2 hLs hLm⟩
end Tp

namespace Tp
open PySem PySem.Spec PyProof.Rows L2 Evl
/-! ### the text by places, the facts -/
def top (i : Nat) : Stmt := PySem.Challenge.pw_topiary_k21_whole_any_text_is_refused_or.main.body.getD i (.Pass ⟨0, 0, 0, 0⟩)
abbrev s_TextError_init : Stmt := inClass (top 2) 0
abbrev N_TextError_init : List Str := ["self", "line", "column", "reason"]
abbrev ps_TextError_init : List Str := ["self", "line", "column", "reason"]
abbrev at_TextError_init : Str × Option Str := ("TextError", some "__init__")
theorem sc_TextError_init : FnScope N_TextError_init ps_TextError_init (defScope s_TextError_init) := ⟨rfl, rfl, rfl, by decide +kernel, rfl, by decide +kernel, by decide +kernel⟩
def d_TextError_init : He.DefD := ⟨at_TextError_init, "__init__", "TextError.__init__", defArgs s_TextError_init, defBody s_TextError_init, defScope s_TextError_init, [], []⟩
abbrev s_TooLarge_init : Stmt := inClass (top 3) 0
abbrev N_TooLarge_init : List Str := ["self", "limit"]
abbrev ps_TooLarge_init : List Str := ["self", "limit"]
abbrev at_TooLarge_init : Str × Option Str := ("TooLarge", some "__init__")
theorem sc_TooLarge_init : FnScope N_TooLarge_init ps_TooLarge_init (defScope s_TooLarge_init) := ⟨rfl, rfl, rfl, by decide +kernel, rfl, by decide +kernel, by decide +kernel⟩
def d_TooLarge_init : He.DefD := ⟨at_TooLarge_init, "__init__", "TooLarge.__init__", defArgs s_TooLarge_init, defBody s_TooLarge_init, defScope s_TooLarge_init, [], []⟩
abbrev s_is_sign : Stmt := top 5
abbrev N_is_sign : List Str := ["character"]
abbrev ps_is_sign : List Str := ["character"]
abbrev at_is_sign : Str × Option Str := ("is_sign", none)
theorem sc_is_sign : FnScope N_is_sign ps_is_sign (defScope s_is_sign) := ⟨rfl, rfl, rfl, by decide +kernel, rfl, by decide +kernel, by decide +kernel⟩
def d_is_sign : He.DefD := ⟨at_is_sign, "is_sign", "is_sign", defArgs s_is_sign, defBody s_is_sign, defScope s_is_sign, [], []⟩
abbrev s_has_only_signs : Stmt := top 6
abbrev N_has_only_signs : List Str := ["string"]
abbrev ps_has_only_signs : List Str := ["string"]
abbrev at_has_only_signs : Str × Option Str := ("has_only_signs", none)
theorem sc_has_only_signs : FnScope N_has_only_signs ps_has_only_signs (defScope s_has_only_signs) := ⟨rfl, rfl, rfl, by decide +kernel, rfl, by decide +kernel, by decide +kernel⟩
def d_has_only_signs : He.DefD := ⟨at_has_only_signs, "has_only_signs", "has_only_signs", defArgs s_has_only_signs, defBody s_has_only_signs, defScope s_has_only_signs, [], []⟩
abbrev s_is_letter : Stmt := top 7
abbrev N_is_letter : List Str := ["character"]
abbrev ps_is_letter : List Str := ["character"]
abbrev at_is_letter : Str × Option Str := ("is_letter", none)
theorem sc_is_letter : FnScope N_is_letter ps_is_letter (defScope s_is_letter) := ⟨rfl, rfl, rfl, by decide +kernel, rfl, by decide +kernel, by decide +kernel⟩
def d_is_letter : He.DefD := ⟨at_is_letter, "is_letter", "is_letter", defArgs s_is_letter, defBody s_is_letter, defScope s_is_letter, [], []⟩
abbrev s_is_name : Stmt := top 13
abbrev N_is_name : List Str := ["word"]
abbrev ps_is_name : List Str := ["word"]
abbrev at_is_name : Str × Option Str := ("is_name", none)
theorem sc_is_name : FnScope N_is_name ps_is_name (defScope s_is_name) := ⟨rfl, rfl, rfl, by decide +kernel, rfl, by decide +kernel, by decide +kernel⟩
def d_is_name : He.DefD := ⟨at_is_name, "is_name", "is_name", defArgs s_is_name, defBody s_is_name, defScope s_is_name, [], []⟩
abbrev s_is_text : Stmt := top 14
abbrev N_is_text : List Str := ["string"]
abbrev ps_is_text : List Str := ["string"]
abbrev at_is_text : Str × Option Str := ("is_text", none)
theorem sc_is_text : FnScope N_is_text ps_is_text (defScope s_is_text) := ⟨rfl, rfl, rfl, by decide +kernel, rfl, by decide +kernel, by decide +kernel⟩
def d_is_text : He.DefD := ⟨at_is_text, "is_text", "is_text", defArgs s_is_text, defBody s_is_text, defScope s_is_text, [], []⟩
abbrev s__children : Stmt := top 15
abbrev N__children : List Str := ["tree"]
abbrev ps__children : List Str := ["tree"]
abbrev at__children : Str × Option Str := ("_children", none)
theorem sc__children : FnScope N__children ps__children (defScope s__children) := ⟨rfl, rfl, rfl, by decide +kernel, rfl, by decide +kernel, by decide +kernel⟩
def d__children : He.DefD := ⟨at__children, "_children", "_children", defArgs s__children, defBody s__children, defScope s__children, [], []⟩
abbrev s__has_texts_beside : Stmt := top 16
abbrev N__has_texts_beside : List Str := ["trees"]
abbrev ps__has_texts_beside : List Str := ["trees"]
abbrev at__has_texts_beside : Str × Option Str := ("_has_texts_beside", none)
theorem sc__has_texts_beside : FnScope N__has_texts_beside ps__has_texts_beside (defScope s__has_texts_beside) := ⟨rfl, rfl, rfl, by decide +kernel, rfl, by decide +kernel, by decide +kernel⟩
def d__has_texts_beside : He.DefD := ⟨at__has_texts_beside, "_has_texts_beside", "_has_texts_beside", defArgs s__has_texts_beside, defBody s__has_texts_beside, defScope s__has_texts_beside, [], []⟩
abbrev s__is_well_made : Stmt := top 17
abbrev N__is_well_made : List Str := ["tree"]
abbrev ps__is_well_made : List Str := ["tree"]
abbrev at__is_well_made : Str × Option Str := ("_is_well_made", none)
theorem sc__is_well_made : FnScope N__is_well_made ps__is_well_made (defScope s__is_well_made) := ⟨rfl, rfl, rfl, by decide +kernel, rfl, by decide +kernel, by decide +kernel⟩
def d__is_well_made : He.DefD := ⟨at__is_well_made, "_is_well_made", "_is_well_made", defArgs s__is_well_made, defBody s__is_well_made, defScope s__is_well_made, [], []⟩
abbrev s_is_document : Stmt := top 18
abbrev N_is_document : List Str := ["tree", "many", "waiting", "node", "depth", "child"]
abbrev ps_is_document : List Str := ["tree"]
abbrev at_is_document : Str × Option Str := ("is_document", none)
theorem sc_is_document : FnScope N_is_document ps_is_document (defScope s_is_document) := ⟨rfl, rfl, rfl, by decide +kernel, rfl, by decide +kernel, by decide +kernel⟩
def d_is_document : He.DefD := ⟨at_is_document, "is_document", "is_document", defArgs s_is_document, defBody s_is_document, defScope s_is_document, [], []⟩
abbrev s_same_tree : Stmt := top 19
abbrev N_same_tree : List Str := ["tree", "other", "waiting", "one", "two"]
abbrev ps_same_tree : List Str := ["tree", "other"]
abbrev at_same_tree : Str × Option Str := ("same_tree", none)
theorem sc_same_tree : FnScope N_same_tree ps_same_tree (defScope s_same_tree) := ⟨rfl, rfl, rfl, by decide +kernel, rfl, by decide +kernel, by decide +kernel⟩
def d_same_tree : He.DefD := ⟨at_same_tree, "same_tree", "same_tree", defArgs s_same_tree, defBody s_same_tree, defScope s_same_tree, [], []⟩
abbrev s__refuse : Stmt := top 23
abbrev N__refuse : List Str := ["text", "place", "reason", "line", "column"]
abbrev ps__refuse : List Str := ["text", "place", "reason"]
abbrev at__refuse : Str × Option Str := ("_refuse", none)
theorem sc__refuse : FnScope N__refuse ps__refuse (defScope s__refuse) := ⟨rfl, rfl, rfl, by decide +kernel, rfl, by decide +kernel, by decide +kernel⟩
def d__refuse : He.DefD := ⟨at__refuse, "_refuse", "_refuse", defArgs s__refuse, defBody s__refuse, defScope s__refuse, [], []⟩
abbrev s_Reading_init : Stmt := inClass (top 24) 0
abbrev N_Reading_init : List Str := ["self", "source"]
abbrev ps_Reading_init : List Str := ["self", "source"]
abbrev at_Reading_init : Str × Option Str := ("Reading", some "__init__")
theorem sc_Reading_init : FnScope N_Reading_init ps_Reading_init (defScope s_Reading_init) := ⟨rfl, rfl, rfl, by decide +kernel, rfl, by decide +kernel, by decide +kernel⟩
def d_Reading_init : He.DefD := ⟨at_Reading_init, "__init__", "Reading.__init__", defArgs s_Reading_init, defBody s_Reading_init, defScope s_Reading_init, [], []⟩
abbrev s_Reading_begins : Stmt := inClass (top 24) 1
abbrev N_Reading_begins : List Str := ["self", "word"]
abbrev ps_Reading_begins : List Str := ["self", "word"]
abbrev at_Reading_begins : Str × Option Str := ("Reading", some "begins")
theorem sc_Reading_begins : FnScope N_Reading_begins ps_Reading_begins (defScope s_Reading_begins) := ⟨rfl, rfl, rfl, by decide +kernel, rfl, by decide +kernel, by decide +kernel⟩
def d_Reading_begins : He.DefD := ⟨at_Reading_begins, "begins", "Reading.begins", defArgs s_Reading_begins, defBody s_Reading_begins, defScope s_Reading_begins, [], []⟩
abbrev s_Reading_read_root : Stmt := inClass (top 24) 2
abbrev N_Reading_read_root : List Str := ["self"]
abbrev ps_Reading_read_root : List Str := ["self"]
abbrev at_Reading_read_root : Str × Option Str := ("Reading", some "read_root")
theorem sc_Reading_read_root : FnScope N_Reading_read_root ps_Reading_read_root (defScope s_Reading_read_root) := ⟨rfl, rfl, rfl, by decide +kernel, rfl, by decide +kernel, by decide +kernel⟩
def d_Reading_read_root : He.DefD := ⟨at_Reading_read_root, "read_root", "Reading.read_root", defArgs s_Reading_read_root, defBody s_Reading_read_root, defScope s_Reading_read_root, [], []⟩
abbrev s_Reading_read_part : Stmt := inClass (top 24) 3
abbrev N_Reading_read_part : List Str := ["self"]
abbrev ps_Reading_read_part : List Str := ["self"]
abbrev at_Reading_read_part : Str × Option Str := ("Reading", some "read_part")
theorem sc_Reading_read_part : FnScope N_Reading_read_part ps_Reading_read_part (defScope s_Reading_read_part) := ⟨rfl, rfl, rfl, by decide +kernel, rfl, by decide +kernel, by decide +kernel⟩
def d_Reading_read_part : He.DefD := ⟨at_Reading_read_part, "read_part", "Reading.read_part", defArgs s_Reading_read_part, defBody s_Reading_read_part, defScope s_Reading_read_part, [], []⟩
abbrev s_Reading_read_begin_tag : Stmt := inClass (top 24) 4
abbrev N_Reading_read_begin_tag : List Str := ["self", "element"]
abbrev ps_Reading_read_begin_tag : List Str := ["self"]
abbrev at_Reading_read_begin_tag : Str × Option Str := ("Reading", some "read_begin_tag")
theorem sc_Reading_read_begin_tag : FnScope N_Reading_read_begin_tag ps_Reading_read_begin_tag (defScope s_Reading_read_begin_tag) := ⟨rfl, rfl, rfl, by decide +kernel, rfl, by decide +kernel, by decide +kernel⟩
def d_Reading_read_begin_tag : He.DefD := ⟨at_Reading_read_begin_tag, "read_begin_tag", "Reading.read_begin_tag", defArgs s_Reading_read_begin_tag, defBody s_Reading_read_begin_tag, defScope s_Reading_read_begin_tag, [], []⟩
abbrev s_Reading_read_end_tag : Stmt := inClass (top 24) 5
abbrev N_Reading_read_end_tag : List Str := ["self", "start", "name", "due", "is_cut"]
abbrev ps_Reading_read_end_tag : List Str := ["self"]
abbrev at_Reading_read_end_tag : Str × Option Str := ("Reading", some "read_end_tag")
theorem sc_Reading_read_end_tag : FnScope N_Reading_read_end_tag ps_Reading_read_end_tag (defScope s_Reading_read_end_tag) := ⟨rfl, rfl, rfl, by decide +kernel, rfl, by decide +kernel, by decide +kernel⟩
def d_Reading_read_end_tag : He.DefD := ⟨at_Reading_read_end_tag, "read_end_tag", "Reading.read_end_tag", defArgs s_Reading_read_end_tag, defBody s_Reading_read_end_tag, defScope s_Reading_read_end_tag, [], []⟩
abbrev s_Reading_read_name : Stmt := inClass (top 24) 6
abbrev N_Reading_read_name : List Str := ["self", "start", "place"]
abbrev ps_Reading_read_name : List Str := ["self", "start"]
abbrev at_Reading_read_name : Str × Option Str := ("Reading", some "read_name")
theorem sc_Reading_read_name : FnScope N_Reading_read_name ps_Reading_read_name (defScope s_Reading_read_name) := ⟨rfl, rfl, rfl, by decide +kernel, rfl, by decide +kernel, by decide +kernel⟩
def d_Reading_read_name : He.DefD := ⟨at_Reading_read_name, "read_name", "Reading.read_name", defArgs s_Reading_read_name, defBody s_Reading_read_name, defScope s_Reading_read_name, [], []⟩
abbrev s_Reading_read_tag_end : Stmt := inClass (top 24) 7
abbrev N_Reading_read_tag_end : List Str := ["self"]
abbrev ps_Reading_read_tag_end : List Str := ["self"]
abbrev at_Reading_read_tag_end : Str × Option Str := ("Reading", some "read_tag_end")
theorem sc_Reading_read_tag_end : FnScope N_Reading_read_tag_end ps_Reading_read_tag_end (defScope s_Reading_read_tag_end) := ⟨rfl, rfl, rfl, by decide +kernel, rfl, by decide +kernel, by decide +kernel⟩
def d_Reading_read_tag_end : He.DefD := ⟨at_Reading_read_tag_end, "read_tag_end", "Reading.read_tag_end", defArgs s_Reading_read_tag_end, defBody s_Reading_read_tag_end, defScope s_Reading_read_tag_end, [], []⟩
abbrev s_Reading_read_text : Stmt := inClass (top 24) 8
abbrev N_Reading_read_text : List Str := ["self", "signs", "written", "sign"]
abbrev ps_Reading_read_text : List Str := ["self"]
abbrev at_Reading_read_text : Str × Option Str := ("Reading", some "read_text")
theorem sc_Reading_read_text : FnScope N_Reading_read_text ps_Reading_read_text (defScope s_Reading_read_text) := ⟨rfl, rfl, rfl, by decide +kernel, rfl, by decide +kernel, by decide +kernel⟩
def d_Reading_read_text : He.DefD := ⟨at_Reading_read_text, "read_text", "Reading.read_text", defArgs s_Reading_read_text, defBody s_Reading_read_text, defScope s_Reading_read_text, [], []⟩
abbrev s_Reading_next_sign : Stmt := inClass (top 24) 9
abbrev N_Reading_next_sign : List Str := ["self", "written", "sign", "place"]
abbrev ps_Reading_next_sign : List Str := ["self"]
abbrev at_Reading_next_sign : Str × Option Str := ("Reading", some "next_sign")
theorem sc_Reading_next_sign : FnScope N_Reading_next_sign ps_Reading_next_sign (defScope s_Reading_next_sign) := ⟨rfl, rfl, rfl, by decide +kernel, rfl, by decide +kernel, by decide +kernel⟩
def d_Reading_next_sign : He.DefD := ⟨at_Reading_next_sign, "next_sign", "Reading.next_sign", defArgs s_Reading_next_sign, defBody s_Reading_next_sign, defScope s_Reading_next_sign, [], []⟩
abbrev s_Reading_count_node : Stmt := inClass (top 24) 10
abbrev N_Reading_count_node : List Str := ["self"]
abbrev ps_Reading_count_node : List Str := ["self"]
abbrev at_Reading_count_node : Str × Option Str := ("Reading", some "count_node")
theorem sc_Reading_count_node : FnScope N_Reading_count_node ps_Reading_count_node (defScope s_Reading_count_node) := ⟨rfl, rfl, rfl, by decide +kernel, rfl, by decide +kernel, by decide +kernel⟩
def d_Reading_count_node : He.DefD := ⟨at_Reading_count_node, "count_node", "Reading.count_node", defArgs s_Reading_count_node, defBody s_Reading_count_node, defScope s_Reading_count_node, [], []⟩
abbrev s_read_document : Stmt := top 25
abbrev N_read_document : List Str := ["text", "reading"]
abbrev ps_read_document : List Str := ["text"]
abbrev at_read_document : Str × Option Str := ("read_document", none)
theorem sc_read_document : FnScope N_read_document ps_read_document (defScope s_read_document) := ⟨rfl, rfl, rfl, by decide +kernel, rfl, by decide +kernel, by decide +kernel⟩
def d_read_document : He.DefD := ⟨at_read_document, "read_document", "read_document", defArgs s_read_document, defBody s_read_document, defScope s_read_document, [], []⟩
abbrev s__written : Stmt := top 27
abbrev N__written : List Str := ["text"]
abbrev ps__written : List Str := ["text"]
abbrev at__written : Str × Option Str := ("_written", none)
theorem sc__written : FnScope N__written ps__written (defScope s__written) := ⟨rfl, rfl, rfl, by decide +kernel, rfl, by decide +kernel, by decide +kernel⟩
def d__written : He.DefD := ⟨at__written, "_written", "_written", defArgs s__written, defBody s__written, defScope s__written, [], []⟩
abbrev s_write_document : Stmt := top 28
abbrev N_write_document : List Str := ["tree", "parts", "waiting", "node", "is_ending", "child"]
abbrev ps_write_document : List Str := ["tree"]
abbrev at_write_document : Str × Option Str := ("write_document", none)
theorem sc_write_document : FnScope N_write_document ps_write_document (defScope s_write_document) := ⟨rfl, rfl, rfl, by decide +kernel, rfl, by decide +kernel, by decide +kernel⟩
def d_write_document : He.DefD := ⟨at_write_document, "write_document", "write_document", defArgs s_write_document, defBody s_write_document, defScope s_write_document, [], []⟩
abbrev s__law_draws : Stmt := top 30
abbrev N__law_draws : List Str := ["script", "draws", "cell", "seed", "k", "number", "first"]
abbrev ps__law_draws : List Str := ["script"]
abbrev at__law_draws : Str × Option Str := ("_law_draws", none)
theorem sc__law_draws : FnScope N__law_draws ps__law_draws (defScope s__law_draws) := ⟨rfl, rfl, rfl, by decide +kernel, rfl, by decide +kernel, by decide +kernel⟩
def d__law_draws : He.DefD := ⟨at__law_draws, "_law_draws", "_law_draws", defArgs s__law_draws, defBody s__law_draws, defScope s__law_draws, [], []⟩
abbrev s__law_take : Stmt := top 31
abbrev N__law_take : List Str := ["draws", "bound"]
abbrev ps__law_take : List Str := ["draws", "bound"]
abbrev at__law_take : Str × Option Str := ("_law_take", none)
theorem sc__law_take : FnScope N__law_take ps__law_take (defScope s__law_take) := ⟨rfl, rfl, rfl, by decide +kernel, rfl, by decide +kernel, by decide +kernel⟩
def d__law_take : He.DefD := ⟨at__law_take, "_law_take", "_law_take", defArgs s__law_take, defBody s__law_take, defScope s__law_take, [], []⟩
abbrev s__law_string : Stmt := top 32
abbrev N__law_string : List Str := ["draws", "most", "signs", "string", "k"]
abbrev ps__law_string : List Str := ["draws", "most"]
abbrev at__law_string : Str × Option Str := ("_law_string", none)
theorem sc__law_string : FnScope N__law_string ps__law_string (defScope s__law_string) := ⟨rfl, rfl, rfl, by decide +kernel, rfl, by decide +kernel, by decide +kernel⟩
def d__law_string : He.DefD := ⟨at__law_string, "_law_string", "_law_string", defArgs s__law_string, defBody s__law_string, defScope s__law_string, [], []⟩
abbrev s__law_tree : Stmt := top 33
abbrev N__law_tree : List Str := ["draws", "depth", "names", "children", "many", "k", "beside"]
abbrev ps__law_tree : List Str := ["draws", "depth", "names"]
abbrev at__law_tree : Str × Option Str := ("_law_tree", none)
theorem sc__law_tree : FnScope N__law_tree ps__law_tree (defScope s__law_tree) := ⟨rfl, rfl, rfl, by decide +kernel, rfl, by decide +kernel, by decide +kernel⟩
def d__law_tree : He.DefD := ⟨at__law_tree, "_law_tree", "_law_tree", defArgs s__law_tree, defBody s__law_tree, defScope s__law_tree, [], []⟩
abbrev s__law_escaped : Stmt := top 34
abbrev N__law_escaped : List Str := ["string", "signs", "letter"]
abbrev ps__law_escaped : List Str := ["string"]
abbrev at__law_escaped : Str × Option Str := ("_law_escaped", none)
theorem sc__law_escaped : FnScope N__law_escaped ps__law_escaped (defScope s__law_escaped) := ⟨rfl, rfl, rfl, by decide +kernel, rfl, by decide +kernel, by decide +kernel⟩
def d__law_escaped : He.DefD := ⟨at__law_escaped, "_law_escaped", "_law_escaped", defArgs s__law_escaped, defBody s__law_escaped, defScope s__law_escaped, [], []⟩
abbrev s__law_written : Stmt := top 35
abbrev N__law_written : List Str := ["tree", "loose", "inner", "child"]
abbrev ps__law_written : List Str := ["tree", "loose"]
abbrev at__law_written : Str × Option Str := ("_law_written", none)
theorem sc__law_written : FnScope N__law_written ps__law_written (defScope s__law_written) := ⟨rfl, rfl, rfl, by decide +kernel, rfl, by decide +kernel, by decide +kernel⟩
def d__law_written : He.DefD := ⟨at__law_written, "_law_written", "_law_written", defArgs s__law_written, defBody s__law_written, defScope s__law_written, [], []⟩
abbrev s__law_read : Stmt := top 36
abbrev N__law_read : List Str := ["text", "e"]
abbrev ps__law_read : List Str := ["text"]
abbrev at__law_read : Str × Option Str := ("_law_read", none)
theorem sc__law_read : FnScope N__law_read ps__law_read (defScope s__law_read) := ⟨rfl, rfl, rfl, by decide +kernel, rfl, by decide +kernel, by decide +kernel⟩
def d__law_read : He.DefD := ⟨at__law_read, "_law_read", "_law_read", defArgs s__law_read, defBody s__law_read, defScope s__law_read, [], []⟩
abbrev s__law_changed : Stmt := top 37
abbrev N__law_changed : List Str := ["draws", "text", "at", "signs", "sign", "kind", "behind"]
abbrev ps__law_changed : List Str := ["draws", "text"]
abbrev at__law_changed : Str × Option Str := ("_law_changed", none)
theorem sc__law_changed : FnScope N__law_changed ps__law_changed (defScope s__law_changed) := ⟨rfl, rfl, rfl, by decide +kernel, rfl, by decide +kernel, by decide +kernel⟩
def d__law_changed : He.DefD := ⟨at__law_changed, "_law_changed", "_law_changed", defArgs s__law_changed, defBody s__law_changed, defScope s__law_changed, [], []⟩
abbrev s_law : Stmt := top 38
abbrev N_law : List Str := ["script", "draws", "text", "turn", "tree", "written", "again"]
abbrev ps_law : List Str := ["script"]
abbrev at_law : Str × Option Str := ("law", none)
theorem sc_law : FnScope N_law ps_law (defScope s_law) := ⟨rfl, rfl, rfl, by decide +kernel, rfl, by decide +kernel, by decide +kernel⟩
def d_law : He.DefD := ⟨at_law, "law", "law", defArgs s_law, defBody s_law, defScope s_law, [], []⟩
def fn : List He.DefD := [d_TextError_init, d_TooLarge_init, d_is_sign, d_has_only_signs, d_is_letter, d_is_name, d_is_text, d__children, d__has_texts_beside, d__is_well_made, d_is_document, d_same_tree, d__refuse, d_Reading_init, d_Reading_begins, d_Reading_read_root, d_Reading_read_part, d_Reading_read_begin_tag, d_Reading_read_end_tag, d_Reading_read_name, d_Reading_read_tag_end, d_Reading_read_text, d_Reading_next_sign, d_Reading_count_node, d_read_document, d__written, d_write_document, d__law_draws, d__law_take, d__law_string, d__law_tree, d__law_escaped, d__law_written, d__law_read, d__law_changed, d_law]
def fa : List He.Fa := [.free "len", .free "range", .free "int", .free "str", .free "list", .free "zip", .free "reversed", .free "isinstance", .free "abs", .free "any", .free "all", .free "ValueError", .glo "TopiaryError", .glo "TextError", .noat "TextError" "line", .noat "TextError" "column", .noat "TextError" "reason", .glo "TooLarge", .noat "TooLarge" "limit", .glo "Reading", .noat "Reading" "source", .noat "Reading" "reached", .noat "Reading" "nodes", .noat "Reading" "stack", .cls "Reading", .mkr "Reading", .meth "Reading" "begins", .meth "Reading" "read_root", .meth "Reading" "read_part", .meth "Reading" "read_begin_tag", .meth "Reading" "read_end_tag", .meth "Reading" "read_name", .meth "Reading" "read_tag_end", .meth "Reading" "read_text", .meth "Reading" "next_sign", .meth "Reading" "count_node", .int "NAME_LETTERS" 12, .int "TEXT_CHARACTERS" 200, .int "MOST_NODES" 5000, .int "MOST_DEPTH" 60, .int "MOST_CHARACTERS" 200000, .glo "WRITTEN_SIGNS", .glo "is_sign", .glo "has_only_signs", .glo "is_letter", .glo "is_name", .glo "is_text", .glo "_children", .glo "_has_texts_beside", .glo "_is_well_made", .glo "is_document", .glo "same_tree", .glo "_refuse", .glo "read_document", .glo "_written", .glo "write_document", .glo "_law_draws", .glo "_law_take", .glo "_law_string", .glo "_law_tree", .glo "_law_escaped", .glo "_law_written", .glo "_law_read", .glo "_law_changed", .glo "law"]
def fx : List Fx := [.exc "TextError", .ini "TextError", .exc "TooLarge", .ini "TooLarge", .xf "TextError", .sub "TextError" "TextError" true, .sub "TooLarge" "TextError" false, .tups "WRITTEN_SIGNS" [["&lt;", "<"], ["&gt;", ">"], ["&amp;", "&"]]]
def ts : List He.Tab := []
def tf : List He.Defn := [at_has_only_signs, at_is_name, at__has_texts_beside]
def genT (K : PySem.W.Frag) : List Addr := tf.map fun p => (He.cT K p).2
abbrev TX (K : PySem.W.Frag) (mg : Str → Option Value) : Prop := Txt fa fn fx K mg
theorem TX.n_len {K : PySem.W.Frag} {mg : Str → Option Value} (T : TX K mg) : mg "len" = none := T.no 0 _ rfl
theorem TX.n_range {K : PySem.W.Frag} {mg : Str → Option Value} (T : TX K mg) : mg "range" = none := T.no 1 _ rfl
theorem TX.n_int {K : PySem.W.Frag} {mg : Str → Option Value} (T : TX K mg) : mg "int" = none := T.no 2 _ rfl
theorem TX.n_str {K : PySem.W.Frag} {mg : Str → Option Value} (T : TX K mg) : mg "str" = none := T.no 3 _ rfl
theorem TX.n_list {K : PySem.W.Frag} {mg : Str → Option Value} (T : TX K mg) : mg "list" = none := T.no 4 _ rfl
theorem TX.n_zip {K : PySem.W.Frag} {mg : Str → Option Value} (T : TX K mg) : mg "zip" = none := T.no 5 _ rfl
theorem TX.n_reversed {K : PySem.W.Frag} {mg : Str → Option Value} (T : TX K mg) : mg "reversed" = none := T.no 6 _ rfl
theorem TX.n_isinstance {K : PySem.W.Frag} {mg : Str → Option Value} (T : TX K mg) : mg "isinstance" = none := T.no 7 _ rfl
theorem TX.n_abs {K : PySem.W.Frag} {mg : Str → Option Value} (T : TX K mg) : mg "abs" = none := T.no 8 _ rfl
theorem TX.n_any {K : PySem.W.Frag} {mg : Str → Option Value} (T : TX K mg) : mg "any" = none := T.no 9 _ rfl
theorem TX.n_all {K : PySem.W.Frag} {mg : Str → Option Value} (T : TX K mg) : mg "all" = none := T.no 10 _ rfl
theorem TX.n_ValueError {K : PySem.W.Frag} {mg : Str → Option Value} (T : TX K mg) : mg "ValueError" = none := T.no 11 _ rfl
theorem TX.g_TopiaryError {K : PySem.W.Frag} {mg : Str → Option Value} (T : TX K mg) : mg "TopiaryError" = some (.ref (He.ga K "TopiaryError")) := T.gl 12 _ rfl
theorem TX.g_TextError {K : PySem.W.Frag} {mg : Str → Option Value} (T : TX K mg) : mg "TextError" = some (.ref (He.ga K "TextError")) := T.gl 13 _ rfl
theorem TX.na_TextError_line {K : PySem.W.Frag} {mg : Str → Option Value} (T : TX K mg) : NoAttr K (He.ga K "TextError") "line" := He.noat_ok (T.f 14 _ rfl)
theorem TX.na_TextError_column {K : PySem.W.Frag} {mg : Str → Option Value} (T : TX K mg) : NoAttr K (He.ga K "TextError") "column" := He.noat_ok (T.f 15 _ rfl)
theorem TX.na_TextError_reason {K : PySem.W.Frag} {mg : Str → Option Value} (T : TX K mg) : NoAttr K (He.ga K "TextError") "reason" := He.noat_ok (T.f 16 _ rfl)
theorem TX.ox_TextError {K : PySem.W.Frag} {mg : Str → Option Value} (T : TX K mg) : OexC K (He.ga K "TextError") := excB_ok (T.x 0 _ rfl)
theorem TX.oi_TextError {K : PySem.W.Frag} {mg : Str → Option Value} (T : TX K mg) : PySem.W.findIn K (.ref (He.ga K "TextError")) "__init__" = some (some (.ref (He.ma K (He.ga K "TextError") "__init__"))) := (iniB_ok (T.x 1 _ rfl)).1
theorem TX.ot_TextError {K : PySem.W.Frag} {mg : Str → Option Value} (T : TX K mg) : PySem.W.typeIn K (.ref (He.ma K (He.ga K "TextError") "__init__")) = some (.type "function") := (iniB_ok (T.x 1 _ rfl)).2
theorem TX.g_TooLarge {K : PySem.W.Frag} {mg : Str → Option Value} (T : TX K mg) : mg "TooLarge" = some (.ref (He.ga K "TooLarge")) := T.gl 17 _ rfl
theorem TX.na_TooLarge_limit {K : PySem.W.Frag} {mg : Str → Option Value} (T : TX K mg) : NoAttr K (He.ga K "TooLarge") "limit" := He.noat_ok (T.f 18 _ rfl)
theorem TX.ox_TooLarge {K : PySem.W.Frag} {mg : Str → Option Value} (T : TX K mg) : OexC K (He.ga K "TooLarge") := excB_ok (T.x 2 _ rfl)
theorem TX.oi_TooLarge {K : PySem.W.Frag} {mg : Str → Option Value} (T : TX K mg) : PySem.W.findIn K (.ref (He.ga K "TooLarge")) "__init__" = some (some (.ref (He.ma K (He.ga K "TooLarge") "__init__"))) := (iniB_ok (T.x 3 _ rfl)).1
theorem TX.ot_TooLarge {K : PySem.W.Frag} {mg : Str → Option Value} (T : TX K mg) : PySem.W.typeIn K (.ref (He.ma K (He.ga K "TooLarge") "__init__")) = some (.type "function") := (iniB_ok (T.x 3 _ rfl)).2
theorem TX.g_Reading {K : PySem.W.Frag} {mg : Str → Option Value} (T : TX K mg) : mg "Reading" = some (.ref (He.ga K "Reading")) := T.gl 19 _ rfl
theorem TX.na_Reading_source {K : PySem.W.Frag} {mg : Str → Option Value} (T : TX K mg) : NoAttr K (He.ga K "Reading") "source" := He.noat_ok (T.f 20 _ rfl)
theorem TX.na_Reading_reached {K : PySem.W.Frag} {mg : Str → Option Value} (T : TX K mg) : NoAttr K (He.ga K "Reading") "reached" := He.noat_ok (T.f 21 _ rfl)
theorem TX.na_Reading_nodes {K : PySem.W.Frag} {mg : Str → Option Value} (T : TX K mg) : NoAttr K (He.ga K "Reading") "nodes" := He.noat_ok (T.f 22 _ rfl)
theorem TX.na_Reading_stack {K : PySem.W.Frag} {mg : Str → Option Value} (T : TX K mg) : NoAttr K (He.ga K "Reading") "stack" := He.noat_ok (T.f 23 _ rfl)
abbrev flds_Reading (a0 a1 a2 a3 : V) : List (Str × V) := [("source", a0), ("reached", a1), ("nodes", a2), ("stack", a3)]
theorem fl_Reading_source (a0 a1 a2 a3 : V) : (flds_Reading a0 a1 a2 a3).lookup ("source" : Str) = some a0 := fld_at (ks := ["source", "reached", "nodes", "stack"]) 0 rfl rfl (by decide +kernel)
theorem pf_Reading_reached (a0 x : V) : putF "reached" x ([("source", a0)] : List (Str × V)) = ([("source", a0), ("reached", x)] : List (Str × V)) := putF_app (ks := ["source"]) rfl (by decide +kernel)
theorem fl_Reading_reached (a0 a1 a2 a3 : V) : (flds_Reading a0 a1 a2 a3).lookup ("reached" : Str) = some a1 := fld_at (ks := ["source", "reached", "nodes", "stack"]) 1 rfl rfl (by decide +kernel)
theorem pf_Reading_nodes (a0 a1 x : V) : putF "nodes" x ([("source", a0), ("reached", a1)] : List (Str × V)) = ([("source", a0), ("reached", a1), ("nodes", x)] : List (Str × V)) := putF_app (ks := ["source", "reached"]) rfl (by decide +kernel)
theorem fl_Reading_nodes (a0 a1 a2 a3 : V) : (flds_Reading a0 a1 a2 a3).lookup ("nodes" : Str) = some a2 := fld_at (ks := ["source", "reached", "nodes", "stack"]) 2 rfl rfl (by decide +kernel)
theorem pf_Reading_stack (a0 a1 a2 x : V) : putF "stack" x ([("source", a0), ("reached", a1), ("nodes", a2)] : List (Str × V)) = ([("source", a0), ("reached", a1), ("nodes", a2), ("stack", x)] : List (Str × V)) := putF_app (ks := ["source", "reached", "nodes"]) rfl (by decide +kernel)
theorem fl_Reading_stack (a0 a1 a2 a3 : V) : (flds_Reading a0 a1 a2 a3).lookup ("stack" : Str) = some a3 := fld_at (ks := ["source", "reached", "nodes", "stack"]) 3 rfl rfl (by decide +kernel)
theorem fn_Reading_begins (a0 a1 a2 a3 : V) : (flds_Reading a0 a1 a2 a3).lookup ("begins" : Str) = none := fld_no (ks := ["source", "reached", "nodes", "stack"]) rfl (by decide +kernel)
theorem fn_Reading_read_root (a0 a1 a2 a3 : V) : (flds_Reading a0 a1 a2 a3).lookup ("read_root" : Str) = none := fld_no (ks := ["source", "reached", "nodes", "stack"]) rfl (by decide +kernel)
theorem fn_Reading_read_part (a0 a1 a2 a3 : V) : (flds_Reading a0 a1 a2 a3).lookup ("read_part" : Str) = none := fld_no (ks := ["source", "reached", "nodes", "stack"]) rfl (by decide +kernel)
theorem fn_Reading_read_begin_tag (a0 a1 a2 a3 : V) : (flds_Reading a0 a1 a2 a3).lookup ("read_begin_tag" : Str) = none := fld_no (ks := ["source", "reached", "nodes", "stack"]) rfl (by decide +kernel)
theorem fn_Reading_read_end_tag (a0 a1 a2 a3 : V) : (flds_Reading a0 a1 a2 a3).lookup ("read_end_tag" : Str) = none := fld_no (ks := ["source", "reached", "nodes", "stack"]) rfl (by decide +kernel)
theorem fn_Reading_read_name (a0 a1 a2 a3 : V) : (flds_Reading a0 a1 a2 a3).lookup ("read_name" : Str) = none := fld_no (ks := ["source", "reached", "nodes", "stack"]) rfl (by decide +kernel)
theorem fn_Reading_read_tag_end (a0 a1 a2 a3 : V) : (flds_Reading a0 a1 a2 a3).lookup ("read_tag_end" : Str) = none := fld_no (ks := ["source", "reached", "nodes", "stack"]) rfl (by decide +kernel)
theorem fn_Reading_read_text (a0 a1 a2 a3 : V) : (flds_Reading a0 a1 a2 a3).lookup ("read_text" : Str) = none := fld_no (ks := ["source", "reached", "nodes", "stack"]) rfl (by decide +kernel)
theorem fn_Reading_next_sign (a0 a1 a2 a3 : V) : (flds_Reading a0 a1 a2 a3).lookup ("next_sign" : Str) = none := fld_no (ks := ["source", "reached", "nodes", "stack"]) rfl (by decide +kernel)
theorem fn_Reading_count_node (a0 a1 a2 a3 : V) : (flds_Reading a0 a1 a2 a3).lookup ("count_node" : Str) = none := fld_no (ks := ["source", "reached", "nodes", "stack"]) rfl (by decide +kernel)
theorem TX.cl_Reading {K : PySem.W.Frag} {mg : Str → Option Value} (T : TX K mg) : Cls K (He.ga K "Reading") := He.cls_ok (T.f 24 _ rfl)
theorem TX.m_Reading {K : PySem.W.Frag} {mg : Str → Option Value} (T : TX K mg) : Mk K (He.ga K "Reading") (He.ma K (He.ga K "Reading") "__init__") := He.mkr_ok (T.f 25 _ rfl)
theorem TX.me_Reading_begins {K : PySem.W.Frag} {mg : Str → Option Value} (T : TX K mg) : Meth K (He.ga K "Reading") "begins" (He.ma K (He.ga K "Reading") "begins") := He.meth_ok (T.f 26 _ rfl)
theorem TX.me_Reading_read_root {K : PySem.W.Frag} {mg : Str → Option Value} (T : TX K mg) : Meth K (He.ga K "Reading") "read_root" (He.ma K (He.ga K "Reading") "read_root") := He.meth_ok (T.f 27 _ rfl)
theorem TX.me_Reading_read_part {K : PySem.W.Frag} {mg : Str → Option Value} (T : TX K mg) : Meth K (He.ga K "Reading") "read_part" (He.ma K (He.ga K "Reading") "read_part") := He.meth_ok (T.f 28 _ rfl)
theorem TX.me_Reading_read_begin_tag {K : PySem.W.Frag} {mg : Str → Option Value} (T : TX K mg) : Meth K (He.ga K "Reading") "read_begin_tag" (He.ma K (He.ga K "Reading") "read_begin_tag") := He.meth_ok (T.f 29 _ rfl)
theorem TX.me_Reading_read_end_tag {K : PySem.W.Frag} {mg : Str → Option Value} (T : TX K mg) : Meth K (He.ga K "Reading") "read_end_tag" (He.ma K (He.ga K "Reading") "read_end_tag") := He.meth_ok (T.f 30 _ rfl)
theorem TX.me_Reading_read_name {K : PySem.W.Frag} {mg : Str → Option Value} (T : TX K mg) : Meth K (He.ga K "Reading") "read_name" (He.ma K (He.ga K "Reading") "read_name") := He.meth_ok (T.f 31 _ rfl)
theorem TX.me_Reading_read_tag_end {K : PySem.W.Frag} {mg : Str → Option Value} (T : TX K mg) : Meth K (He.ga K "Reading") "read_tag_end" (He.ma K (He.ga K "Reading") "read_tag_end") := He.meth_ok (T.f 32 _ rfl)
theorem TX.me_Reading_read_text {K : PySem.W.Frag} {mg : Str → Option Value} (T : TX K mg) : Meth K (He.ga K "Reading") "read_text" (He.ma K (He.ga K "Reading") "read_text") := He.meth_ok (T.f 33 _ rfl)
theorem TX.me_Reading_next_sign {K : PySem.W.Frag} {mg : Str → Option Value} (T : TX K mg) : Meth K (He.ga K "Reading") "next_sign" (He.ma K (He.ga K "Reading") "next_sign") := He.meth_ok (T.f 34 _ rfl)
theorem TX.me_Reading_count_node {K : PySem.W.Frag} {mg : Str → Option Value} (T : TX K mg) : Meth K (He.ga K "Reading") "count_node" (He.ma K (He.ga K "Reading") "count_node") := He.meth_ok (T.f 35 _ rfl)
theorem TX.xf_TextError {K : PySem.W.Frag} {mg : Str → Option Value} (T : TX K mg) : XfC K (He.ga K "TextError") := xfB_ok (T.x 4 _ rfl)
theorem TX.ex_TextError_TextError {K : PySem.W.Frag} {mg : Str → Option Value} (T : TX K mg) : PySem.W.exmOne K (.ref (He.ga K "TextError")) (.ref (He.ga K "TextError")) = some true := of_decide_eq_true (T.x 5 _ rfl)
theorem TX.ex_TooLarge_TextError {K : PySem.W.Frag} {mg : Str → Option Value} (T : TX K mg) : PySem.W.exmOne K (.ref (He.ga K "TooLarge")) (.ref (He.ga K "TextError")) = some false := of_decide_eq_true (T.x 6 _ rfl)
theorem TX.c_NAME_LETTERS {K : PySem.W.Frag} {mg : Str → Option Value} (T : TX K mg) : ∃ t, mg "NAME_LETTERS" = some (.int 12 t) := T.int 36 _ _ rfl
theorem TX.c_TEXT_CHARACTERS {K : PySem.W.Frag} {mg : Str → Option Value} (T : TX K mg) : ∃ t, mg "TEXT_CHARACTERS" = some (.int 200 t) := T.int 37 _ _ rfl
theorem TX.c_MOST_NODES {K : PySem.W.Frag} {mg : Str → Option Value} (T : TX K mg) : ∃ t, mg "MOST_NODES" = some (.int 5000 t) := T.int 38 _ _ rfl
theorem TX.c_MOST_DEPTH {K : PySem.W.Frag} {mg : Str → Option Value} (T : TX K mg) : ∃ t, mg "MOST_DEPTH" = some (.int 60 t) := T.int 39 _ _ rfl
theorem TX.c_MOST_CHARACTERS {K : PySem.W.Frag} {mg : Str → Option Value} (T : TX K mg) : ∃ t, mg "MOST_CHARACTERS" = some (.int 200000 t) := T.int 40 _ _ rfl
theorem TX.g_WRITTEN_SIGNS {K : PySem.W.Frag} {mg : Str → Option Value} (T : TX K mg) : mg "WRITTEN_SIGNS" = some (.ref (He.ga K "WRITTEN_SIGNS")) := T.gl 41 _ rfl
theorem TX.tu_WRITTEN_SIGNS {K : PySem.W.Frag} {mg : Str → Option Value} (T : TX K mg) : TupsC K (He.ga K "WRITTEN_SIGNS") [["&lt;", "<"], ["&gt;", ">"], ["&amp;", "&"]] := tupsB_ok (T.x 7 _ rfl)
theorem TX.k_TextError_init {K : PySem.W.Frag} {mg : Str → Option Value} (T : TX K mg) : PySem.W.keepIn K (.ref (He.fAd K at_TextError_init)) = true := (T.d 0 _ rfl).choose_spec.kp
theorem TX.k_TooLarge_init {K : PySem.W.Frag} {mg : Str → Option Value} (T : TX K mg) : PySem.W.keepIn K (.ref (He.fAd K at_TooLarge_init)) = true := (T.d 1 _ rfl).choose_spec.kp
theorem TX.g_is_sign {K : PySem.W.Frag} {mg : Str → Option Value} (T : TX K mg) : mg "is_sign" = some (.ref (He.ga K "is_sign")) := T.gl 42 _ rfl
theorem TX.k_is_sign {K : PySem.W.Frag} {mg : Str → Option Value} (T : TX K mg) : PySem.W.keepIn K (.ref (He.fAd K at_is_sign)) = true := (T.d 2 _ rfl).choose_spec.kp
theorem TX.g_has_only_signs {K : PySem.W.Frag} {mg : Str → Option Value} (T : TX K mg) : mg "has_only_signs" = some (.ref (He.ga K "has_only_signs")) := T.gl 43 _ rfl
theorem TX.k_has_only_signs {K : PySem.W.Frag} {mg : Str → Option Value} (T : TX K mg) : PySem.W.keepIn K (.ref (He.fAd K at_has_only_signs)) = true := (T.d 3 _ rfl).choose_spec.kp
theorem TX.g_is_letter {K : PySem.W.Frag} {mg : Str → Option Value} (T : TX K mg) : mg "is_letter" = some (.ref (He.ga K "is_letter")) := T.gl 44 _ rfl
theorem TX.k_is_letter {K : PySem.W.Frag} {mg : Str → Option Value} (T : TX K mg) : PySem.W.keepIn K (.ref (He.fAd K at_is_letter)) = true := (T.d 4 _ rfl).choose_spec.kp
theorem TX.g_is_name {K : PySem.W.Frag} {mg : Str → Option Value} (T : TX K mg) : mg "is_name" = some (.ref (He.ga K "is_name")) := T.gl 45 _ rfl
theorem TX.k_is_name {K : PySem.W.Frag} {mg : Str → Option Value} (T : TX K mg) : PySem.W.keepIn K (.ref (He.fAd K at_is_name)) = true := (T.d 5 _ rfl).choose_spec.kp
theorem TX.g_is_text {K : PySem.W.Frag} {mg : Str → Option Value} (T : TX K mg) : mg "is_text" = some (.ref (He.ga K "is_text")) := T.gl 46 _ rfl
theorem TX.k_is_text {K : PySem.W.Frag} {mg : Str → Option Value} (T : TX K mg) : PySem.W.keepIn K (.ref (He.fAd K at_is_text)) = true := (T.d 6 _ rfl).choose_spec.kp
theorem TX.g__children {K : PySem.W.Frag} {mg : Str → Option Value} (T : TX K mg) : mg "_children" = some (.ref (He.ga K "_children")) := T.gl 47 _ rfl
theorem TX.k__children {K : PySem.W.Frag} {mg : Str → Option Value} (T : TX K mg) : PySem.W.keepIn K (.ref (He.fAd K at__children)) = true := (T.d 7 _ rfl).choose_spec.kp
theorem TX.g__has_texts_beside {K : PySem.W.Frag} {mg : Str → Option Value} (T : TX K mg) : mg "_has_texts_beside" = some (.ref (He.ga K "_has_texts_beside")) := T.gl 48 _ rfl
theorem TX.k__has_texts_beside {K : PySem.W.Frag} {mg : Str → Option Value} (T : TX K mg) : PySem.W.keepIn K (.ref (He.fAd K at__has_texts_beside)) = true := (T.d 8 _ rfl).choose_spec.kp
theorem TX.g__is_well_made {K : PySem.W.Frag} {mg : Str → Option Value} (T : TX K mg) : mg "_is_well_made" = some (.ref (He.ga K "_is_well_made")) := T.gl 49 _ rfl
theorem TX.k__is_well_made {K : PySem.W.Frag} {mg : Str → Option Value} (T : TX K mg) : PySem.W.keepIn K (.ref (He.fAd K at__is_well_made)) = true := (T.d 9 _ rfl).choose_spec.kp
theorem TX.g_is_document {K : PySem.W.Frag} {mg : Str → Option Value} (T : TX K mg) : mg "is_document" = some (.ref (He.ga K "is_document")) := T.gl 50 _ rfl
theorem TX.k_is_document {K : PySem.W.Frag} {mg : Str → Option Value} (T : TX K mg) : PySem.W.keepIn K (.ref (He.fAd K at_is_document)) = true := (T.d 10 _ rfl).choose_spec.kp
theorem TX.g_same_tree {K : PySem.W.Frag} {mg : Str → Option Value} (T : TX K mg) : mg "same_tree" = some (.ref (He.ga K "same_tree")) := T.gl 51 _ rfl
theorem TX.k_same_tree {K : PySem.W.Frag} {mg : Str → Option Value} (T : TX K mg) : PySem.W.keepIn K (.ref (He.fAd K at_same_tree)) = true := (T.d 11 _ rfl).choose_spec.kp
theorem TX.g__refuse {K : PySem.W.Frag} {mg : Str → Option Value} (T : TX K mg) : mg "_refuse" = some (.ref (He.ga K "_refuse")) := T.gl 52 _ rfl
theorem TX.k__refuse {K : PySem.W.Frag} {mg : Str → Option Value} (T : TX K mg) : PySem.W.keepIn K (.ref (He.fAd K at__refuse)) = true := (T.d 12 _ rfl).choose_spec.kp
theorem TX.k_Reading_init {K : PySem.W.Frag} {mg : Str → Option Value} (T : TX K mg) : PySem.W.keepIn K (.ref (He.fAd K at_Reading_init)) = true := (T.d 13 _ rfl).choose_spec.kp
theorem TX.k_Reading_begins {K : PySem.W.Frag} {mg : Str → Option Value} (T : TX K mg) : PySem.W.keepIn K (.ref (He.fAd K at_Reading_begins)) = true := (T.d 14 _ rfl).choose_spec.kp
theorem TX.k_Reading_read_root {K : PySem.W.Frag} {mg : Str → Option Value} (T : TX K mg) : PySem.W.keepIn K (.ref (He.fAd K at_Reading_read_root)) = true := (T.d 15 _ rfl).choose_spec.kp
theorem TX.k_Reading_read_part {K : PySem.W.Frag} {mg : Str → Option Value} (T : TX K mg) : PySem.W.keepIn K (.ref (He.fAd K at_Reading_read_part)) = true := (T.d 16 _ rfl).choose_spec.kp
theorem TX.k_Reading_read_begin_tag {K : PySem.W.Frag} {mg : Str → Option Value} (T : TX K mg) : PySem.W.keepIn K (.ref (He.fAd K at_Reading_read_begin_tag)) = true := (T.d 17 _ rfl).choose_spec.kp
theorem TX.k_Reading_read_end_tag {K : PySem.W.Frag} {mg : Str → Option Value} (T : TX K mg) : PySem.W.keepIn K (.ref (He.fAd K at_Reading_read_end_tag)) = true := (T.d 18 _ rfl).choose_spec.kp
theorem TX.k_Reading_read_name {K : PySem.W.Frag} {mg : Str → Option Value} (T : TX K mg) : PySem.W.keepIn K (.ref (He.fAd K at_Reading_read_name)) = true := (T.d 19 _ rfl).choose_spec.kp
theorem TX.k_Reading_read_tag_end {K : PySem.W.Frag} {mg : Str → Option Value} (T : TX K mg) : PySem.W.keepIn K (.ref (He.fAd K at_Reading_read_tag_end)) = true := (T.d 20 _ rfl).choose_spec.kp
theorem TX.k_Reading_read_text {K : PySem.W.Frag} {mg : Str → Option Value} (T : TX K mg) : PySem.W.keepIn K (.ref (He.fAd K at_Reading_read_text)) = true := (T.d 21 _ rfl).choose_spec.kp
theorem TX.k_Reading_next_sign {K : PySem.W.Frag} {mg : Str → Option Value} (T : TX K mg) : PySem.W.keepIn K (.ref (He.fAd K at_Reading_next_sign)) = true := (T.d 22 _ rfl).choose_spec.kp
theorem TX.k_Reading_count_node {K : PySem.W.Frag} {mg : Str → Option Value} (T : TX K mg) : PySem.W.keepIn K (.ref (He.fAd K at_Reading_count_node)) = true := (T.d 23 _ rfl).choose_spec.kp
theorem TX.g_read_document {K : PySem.W.Frag} {mg : Str → Option Value} (T : TX K mg) : mg "read_document" = some (.ref (He.ga K "read_document")) := T.gl 53 _ rfl
theorem TX.k_read_document {K : PySem.W.Frag} {mg : Str → Option Value} (T : TX K mg) : PySem.W.keepIn K (.ref (He.fAd K at_read_document)) = true := (T.d 24 _ rfl).choose_spec.kp
theorem TX.g__written {K : PySem.W.Frag} {mg : Str → Option Value} (T : TX K mg) : mg "_written" = some (.ref (He.ga K "_written")) := T.gl 54 _ rfl
theorem TX.k__written {K : PySem.W.Frag} {mg : Str → Option Value} (T : TX K mg) : PySem.W.keepIn K (.ref (He.fAd K at__written)) = true := (T.d 25 _ rfl).choose_spec.kp
theorem TX.g_write_document {K : PySem.W.Frag} {mg : Str → Option Value} (T : TX K mg) : mg "write_document" = some (.ref (He.ga K "write_document")) := T.gl 55 _ rfl
theorem TX.k_write_document {K : PySem.W.Frag} {mg : Str → Option Value} (T : TX K mg) : PySem.W.keepIn K (.ref (He.fAd K at_write_document)) = true := (T.d 26 _ rfl).choose_spec.kp
theorem TX.g__law_draws {K : PySem.W.Frag} {mg : Str → Option Value} (T : TX K mg) : mg "_law_draws" = some (.ref (He.ga K "_law_draws")) := T.gl 56 _ rfl
theorem TX.k__law_draws {K : PySem.W.Frag} {mg : Str → Option Value} (T : TX K mg) : PySem.W.keepIn K (.ref (He.fAd K at__law_draws)) = true := (T.d 27 _ rfl).choose_spec.kp
theorem TX.g__law_take {K : PySem.W.Frag} {mg : Str → Option Value} (T : TX K mg) : mg "_law_take" = some (.ref (He.ga K "_law_take")) := T.gl 57 _ rfl
theorem TX.k__law_take {K : PySem.W.Frag} {mg : Str → Option Value} (T : TX K mg) : PySem.W.keepIn K (.ref (He.fAd K at__law_take)) = true := (T.d 28 _ rfl).choose_spec.kp
theorem TX.g__law_string {K : PySem.W.Frag} {mg : Str → Option Value} (T : TX K mg) : mg "_law_string" = some (.ref (He.ga K "_law_string")) := T.gl 58 _ rfl
theorem TX.k__law_string {K : PySem.W.Frag} {mg : Str → Option Value} (T : TX K mg) : PySem.W.keepIn K (.ref (He.fAd K at__law_string)) = true := (T.d 29 _ rfl).choose_spec.kp
theorem TX.g__law_tree {K : PySem.W.Frag} {mg : Str → Option Value} (T : TX K mg) : mg "_law_tree" = some (.ref (He.ga K "_law_tree")) := T.gl 59 _ rfl
theorem TX.k__law_tree {K : PySem.W.Frag} {mg : Str → Option Value} (T : TX K mg) : PySem.W.keepIn K (.ref (He.fAd K at__law_tree)) = true := (T.d 30 _ rfl).choose_spec.kp
theorem TX.g__law_escaped {K : PySem.W.Frag} {mg : Str → Option Value} (T : TX K mg) : mg "_law_escaped" = some (.ref (He.ga K "_law_escaped")) := T.gl 60 _ rfl
theorem TX.k__law_escaped {K : PySem.W.Frag} {mg : Str → Option Value} (T : TX K mg) : PySem.W.keepIn K (.ref (He.fAd K at__law_escaped)) = true := (T.d 31 _ rfl).choose_spec.kp
theorem TX.g__law_written {K : PySem.W.Frag} {mg : Str → Option Value} (T : TX K mg) : mg "_law_written" = some (.ref (He.ga K "_law_written")) := T.gl 61 _ rfl
theorem TX.k__law_written {K : PySem.W.Frag} {mg : Str → Option Value} (T : TX K mg) : PySem.W.keepIn K (.ref (He.fAd K at__law_written)) = true := (T.d 32 _ rfl).choose_spec.kp
theorem TX.g__law_read {K : PySem.W.Frag} {mg : Str → Option Value} (T : TX K mg) : mg "_law_read" = some (.ref (He.ga K "_law_read")) := T.gl 62 _ rfl
theorem TX.k__law_read {K : PySem.W.Frag} {mg : Str → Option Value} (T : TX K mg) : PySem.W.keepIn K (.ref (He.fAd K at__law_read)) = true := (T.d 33 _ rfl).choose_spec.kp
theorem TX.g__law_changed {K : PySem.W.Frag} {mg : Str → Option Value} (T : TX K mg) : mg "_law_changed" = some (.ref (He.ga K "_law_changed")) := T.gl 63 _ rfl
theorem TX.k__law_changed {K : PySem.W.Frag} {mg : Str → Option Value} (T : TX K mg) : PySem.W.keepIn K (.ref (He.fAd K at__law_changed)) = true := (T.d 34 _ rfl).choose_spec.kp
theorem TX.g_law {K : PySem.W.Frag} {mg : Str → Option Value} (T : TX K mg) : mg "law" = some (.ref (He.ga K "law")) := T.gl 64 _ rfl
theorem TX.k_law {K : PySem.W.Frag} {mg : Str → Option Value} (T : TX K mg) : PySem.W.keepIn K (.ref (He.fAd K at_law)) = true := (T.d 35 _ rfl).choose_spec.kp
theorem mk_TextError_init {P : Program} {w : World} {K : PySem.W.Frag} {mg : Str → Option Value} {base : Heap} {CX : CXT} {k : Nat} {sp : Sp} (T : TX K mg) (h : ∀ fd, FunD K "__init__" "TextError.__init__" (defArgs s_TextError_init) (defBody s_TextError_init) (defScope s_TextError_init) [] [] (He.fAd K at_TextError_init) fd → FnOk P w K mg base CX k (He.fAd K at_TextError_init) fd ps_TextError_init sp) :
    Can P w K mg base CX k (He.fAd K at_TextError_init) ps_TextError_init [] sp := by
  obtain ⟨fd, F⟩ := T.d 0 _ rfl
  exact ⟨fd, h fd F, [], .nil, FunD.bindsN F fun _ _ _ _ _ _ us hl => match us, hl with | [_, _, _, _], _ => rfl⟩
theorem mk_TooLarge_init {P : Program} {w : World} {K : PySem.W.Frag} {mg : Str → Option Value} {base : Heap} {CX : CXT} {k : Nat} {sp : Sp} (T : TX K mg) (h : ∀ fd, FunD K "__init__" "TooLarge.__init__" (defArgs s_TooLarge_init) (defBody s_TooLarge_init) (defScope s_TooLarge_init) [] [] (He.fAd K at_TooLarge_init) fd → FnOk P w K mg base CX k (He.fAd K at_TooLarge_init) fd ps_TooLarge_init sp) :
    Can P w K mg base CX k (He.fAd K at_TooLarge_init) ps_TooLarge_init [] sp := by
  obtain ⟨fd, F⟩ := T.d 1 _ rfl
  exact ⟨fd, h fd F, [], .nil, FunD.bindsN F fun _ _ _ _ _ _ us hl => match us, hl with | [_, _], _ => rfl⟩
theorem mk_is_sign {P : Program} {w : World} {K : PySem.W.Frag} {mg : Str → Option Value} {base : Heap} {CX : CXT} {k : Nat} {sp : Sp} (T : TX K mg) (h : ∀ fd, FunD K "is_sign" "is_sign" (defArgs s_is_sign) (defBody s_is_sign) (defScope s_is_sign) [] [] (He.fAd K at_is_sign) fd → FnOk P w K mg base CX k (He.fAd K at_is_sign) fd ps_is_sign sp) :
    Can P w K mg base CX k (He.fAd K at_is_sign) ps_is_sign [] sp := by
  obtain ⟨fd, F⟩ := T.d 2 _ rfl
  exact ⟨fd, h fd F, [], .nil, FunD.bindsN F fun _ _ _ _ _ _ us hl => match us, hl with | [_], _ => rfl⟩
theorem mk_has_only_signs {P : Program} {w : World} {K : PySem.W.Frag} {mg : Str → Option Value} {base : Heap} {CX : CXT} {k : Nat} {sp : Sp} (T : TX K mg) (h : ∀ fd, FunD K "has_only_signs" "has_only_signs" (defArgs s_has_only_signs) (defBody s_has_only_signs) (defScope s_has_only_signs) [] [] (He.fAd K at_has_only_signs) fd → FnOk P w K mg base CX k (He.fAd K at_has_only_signs) fd ps_has_only_signs sp) :
    Can P w K mg base CX k (He.fAd K at_has_only_signs) ps_has_only_signs [] sp := by
  obtain ⟨fd, F⟩ := T.d 3 _ rfl
  exact ⟨fd, h fd F, [], .nil, FunD.bindsN F fun _ _ _ _ _ _ us hl => match us, hl with | [_], _ => rfl⟩
theorem mk_is_letter {P : Program} {w : World} {K : PySem.W.Frag} {mg : Str → Option Value} {base : Heap} {CX : CXT} {k : Nat} {sp : Sp} (T : TX K mg) (h : ∀ fd, FunD K "is_letter" "is_letter" (defArgs s_is_letter) (defBody s_is_letter) (defScope s_is_letter) [] [] (He.fAd K at_is_letter) fd → FnOk P w K mg base CX k (He.fAd K at_is_letter) fd ps_is_letter sp) :
    Can P w K mg base CX k (He.fAd K at_is_letter) ps_is_letter [] sp := by
  obtain ⟨fd, F⟩ := T.d 4 _ rfl
  exact ⟨fd, h fd F, [], .nil, FunD.bindsN F fun _ _ _ _ _ _ us hl => match us, hl with | [_], _ => rfl⟩
theorem mk_is_name {P : Program} {w : World} {K : PySem.W.Frag} {mg : Str → Option Value} {base : Heap} {CX : CXT} {k : Nat} {sp : Sp} (T : TX K mg) (h : ∀ fd, FunD K "is_name" "is_name" (defArgs s_is_name) (defBody s_is_name) (defScope s_is_name) [] [] (He.fAd K at_is_name) fd → FnOk P w K mg base CX k (He.fAd K at_is_name) fd ps_is_name sp) :
    Can P w K mg base CX k (He.fAd K at_is_name) ps_is_name [] sp := by
  obtain ⟨fd, F⟩ := T.d 5 _ rfl
  exact ⟨fd, h fd F, [], .nil, FunD.bindsN F fun _ _ _ _ _ _ us hl => match us, hl with | [_], _ => rfl⟩
theorem mk_is_text {P : Program} {w : World} {K : PySem.W.Frag} {mg : Str → Option Value} {base : Heap} {CX : CXT} {k : Nat} {sp : Sp} (T : TX K mg) (h : ∀ fd, FunD K "is_text" "is_text" (defArgs s_is_text) (defBody s_is_text) (defScope s_is_text) [] [] (He.fAd K at_is_text) fd → FnOk P w K mg base CX k (He.fAd K at_is_text) fd ps_is_text sp) :
    Can P w K mg base CX k (He.fAd K at_is_text) ps_is_text [] sp := by
  obtain ⟨fd, F⟩ := T.d 6 _ rfl
  exact ⟨fd, h fd F, [], .nil, FunD.bindsN F fun _ _ _ _ _ _ us hl => match us, hl with | [_], _ => rfl⟩
theorem mk__children {P : Program} {w : World} {K : PySem.W.Frag} {mg : Str → Option Value} {base : Heap} {CX : CXT} {k : Nat} {sp : Sp} (T : TX K mg) (h : ∀ fd, FunD K "_children" "_children" (defArgs s__children) (defBody s__children) (defScope s__children) [] [] (He.fAd K at__children) fd → FnOk P w K mg base CX k (He.fAd K at__children) fd ps__children sp) :
    Can P w K mg base CX k (He.fAd K at__children) ps__children [] sp := by
  obtain ⟨fd, F⟩ := T.d 7 _ rfl
  exact ⟨fd, h fd F, [], .nil, FunD.bindsN F fun _ _ _ _ _ _ us hl => match us, hl with | [_], _ => rfl⟩
theorem mk__has_texts_beside {P : Program} {w : World} {K : PySem.W.Frag} {mg : Str → Option Value} {base : Heap} {CX : CXT} {k : Nat} {sp : Sp} (T : TX K mg) (h : ∀ fd, FunD K "_has_texts_beside" "_has_texts_beside" (defArgs s__has_texts_beside) (defBody s__has_texts_beside) (defScope s__has_texts_beside) [] [] (He.fAd K at__has_texts_beside) fd → FnOk P w K mg base CX k (He.fAd K at__has_texts_beside) fd ps__has_texts_beside sp) :
    Can P w K mg base CX k (He.fAd K at__has_texts_beside) ps__has_texts_beside [] sp := by
  obtain ⟨fd, F⟩ := T.d 8 _ rfl
  exact ⟨fd, h fd F, [], .nil, FunD.bindsN F fun _ _ _ _ _ _ us hl => match us, hl with | [_], _ => rfl⟩
theorem mk__is_well_made {P : Program} {w : World} {K : PySem.W.Frag} {mg : Str → Option Value} {base : Heap} {CX : CXT} {k : Nat} {sp : Sp} (T : TX K mg) (h : ∀ fd, FunD K "_is_well_made" "_is_well_made" (defArgs s__is_well_made) (defBody s__is_well_made) (defScope s__is_well_made) [] [] (He.fAd K at__is_well_made) fd → FnOk P w K mg base CX k (He.fAd K at__is_well_made) fd ps__is_well_made sp) :
    Can P w K mg base CX k (He.fAd K at__is_well_made) ps__is_well_made [] sp := by
  obtain ⟨fd, F⟩ := T.d 9 _ rfl
  exact ⟨fd, h fd F, [], .nil, FunD.bindsN F fun _ _ _ _ _ _ us hl => match us, hl with | [_], _ => rfl⟩
theorem mk_is_document {P : Program} {w : World} {K : PySem.W.Frag} {mg : Str → Option Value} {base : Heap} {CX : CXT} {k : Nat} {sp : Sp} (T : TX K mg) (h : ∀ fd, FunD K "is_document" "is_document" (defArgs s_is_document) (defBody s_is_document) (defScope s_is_document) [] [] (He.fAd K at_is_document) fd → FnOk P w K mg base CX k (He.fAd K at_is_document) fd ps_is_document sp) :
    Can P w K mg base CX k (He.fAd K at_is_document) ps_is_document [] sp := by
  obtain ⟨fd, F⟩ := T.d 10 _ rfl
  exact ⟨fd, h fd F, [], .nil, FunD.bindsN F fun _ _ _ _ _ _ us hl => match us, hl with | [_], _ => rfl⟩
theorem mk_same_tree {P : Program} {w : World} {K : PySem.W.Frag} {mg : Str → Option Value} {base : Heap} {CX : CXT} {k : Nat} {sp : Sp} (T : TX K mg) (h : ∀ fd, FunD K "same_tree" "same_tree" (defArgs s_same_tree) (defBody s_same_tree) (defScope s_same_tree) [] [] (He.fAd K at_same_tree) fd → FnOk P w K mg base CX k (He.fAd K at_same_tree) fd ps_same_tree sp) :
    Can P w K mg base CX k (He.fAd K at_same_tree) ps_same_tree [] sp := by
  obtain ⟨fd, F⟩ := T.d 11 _ rfl
  exact ⟨fd, h fd F, [], .nil, FunD.bindsN F fun _ _ _ _ _ _ us hl => match us, hl with | [_, _], _ => rfl⟩
theorem mk__refuse {P : Program} {w : World} {K : PySem.W.Frag} {mg : Str → Option Value} {base : Heap} {CX : CXT} {k : Nat} {sp : Sp} (T : TX K mg) (h : ∀ fd, FunD K "_refuse" "_refuse" (defArgs s__refuse) (defBody s__refuse) (defScope s__refuse) [] [] (He.fAd K at__refuse) fd → FnOk P w K mg base CX k (He.fAd K at__refuse) fd ps__refuse sp) :
    Can P w K mg base CX k (He.fAd K at__refuse) ps__refuse [] sp := by
  obtain ⟨fd, F⟩ := T.d 12 _ rfl
  exact ⟨fd, h fd F, [], .nil, FunD.bindsN F fun _ _ _ _ _ _ us hl => match us, hl with | [_, _, _], _ => rfl⟩
theorem mk_Reading_init {P : Program} {w : World} {K : PySem.W.Frag} {mg : Str → Option Value} {base : Heap} {CX : CXT} {k : Nat} {sp : Sp} (T : TX K mg) (h : ∀ fd, FunD K "__init__" "Reading.__init__" (defArgs s_Reading_init) (defBody s_Reading_init) (defScope s_Reading_init) [] [] (He.fAd K at_Reading_init) fd → FnOk P w K mg base CX k (He.fAd K at_Reading_init) fd ps_Reading_init sp) :
    Can P w K mg base CX k (He.fAd K at_Reading_init) ps_Reading_init [] sp := by
  obtain ⟨fd, F⟩ := T.d 13 _ rfl
  exact ⟨fd, h fd F, [], .nil, FunD.bindsN F fun _ _ _ _ _ _ us hl => match us, hl with | [_, _], _ => rfl⟩
theorem mk_Reading_begins {P : Program} {w : World} {K : PySem.W.Frag} {mg : Str → Option Value} {base : Heap} {CX : CXT} {k : Nat} {sp : Sp} (T : TX K mg) (h : ∀ fd, FunD K "begins" "Reading.begins" (defArgs s_Reading_begins) (defBody s_Reading_begins) (defScope s_Reading_begins) [] [] (He.fAd K at_Reading_begins) fd → FnOk P w K mg base CX k (He.fAd K at_Reading_begins) fd ps_Reading_begins sp) :
    Can P w K mg base CX k (He.fAd K at_Reading_begins) ps_Reading_begins [] sp := by
  obtain ⟨fd, F⟩ := T.d 14 _ rfl
  exact ⟨fd, h fd F, [], .nil, FunD.bindsN F fun _ _ _ _ _ _ us hl => match us, hl with | [_, _], _ => rfl⟩
theorem mk_Reading_read_root {P : Program} {w : World} {K : PySem.W.Frag} {mg : Str → Option Value} {base : Heap} {CX : CXT} {k : Nat} {sp : Sp} (T : TX K mg) (h : ∀ fd, FunD K "read_root" "Reading.read_root" (defArgs s_Reading_read_root) (defBody s_Reading_read_root) (defScope s_Reading_read_root) [] [] (He.fAd K at_Reading_read_root) fd → FnOk P w K mg base CX k (He.fAd K at_Reading_read_root) fd ps_Reading_read_root sp) :
    Can P w K mg base CX k (He.fAd K at_Reading_read_root) ps_Reading_read_root [] sp := by
  obtain ⟨fd, F⟩ := T.d 15 _ rfl
  exact ⟨fd, h fd F, [], .nil, FunD.bindsN F fun _ _ _ _ _ _ us hl => match us, hl with | [_], _ => rfl⟩
theorem mk_Reading_read_part {P : Program} {w : World} {K : PySem.W.Frag} {mg : Str → Option Value} {base : Heap} {CX : CXT} {k : Nat} {sp : Sp} (T : TX K mg) (h : ∀ fd, FunD K "read_part" "Reading.read_part" (defArgs s_Reading_read_part) (defBody s_Reading_read_part) (defScope s_Reading_read_part) [] [] (He.fAd K at_Reading_read_part) fd → FnOk P w K mg base CX k (He.fAd K at_Reading_read_part) fd ps_Reading_read_part sp) :
    Can P w K mg base CX k (He.fAd K at_Reading_read_part) ps_Reading_read_part [] sp := by
  obtain ⟨fd, F⟩ := T.d 16 _ rfl
  exact ⟨fd, h fd F, [], .nil, FunD.bindsN F fun _ _ _ _ _ _ us hl => match us, hl with | [_], _ => rfl⟩
theorem mk_Reading_read_begin_tag {P : Program} {w : World} {K : PySem.W.Frag} {mg : Str → Option Value} {base : Heap} {CX : CXT} {k : Nat} {sp : Sp} (T : TX K mg) (h : ∀ fd, FunD K "read_begin_tag" "Reading.read_begin_tag" (defArgs s_Reading_read_begin_tag) (defBody s_Reading_read_begin_tag) (defScope s_Reading_read_begin_tag) [] [] (He.fAd K at_Reading_read_begin_tag) fd → FnOk P w K mg base CX k (He.fAd K at_Reading_read_begin_tag) fd ps_Reading_read_begin_tag sp) :
    Can P w K mg base CX k (He.fAd K at_Reading_read_begin_tag) ps_Reading_read_begin_tag [] sp := by
  obtain ⟨fd, F⟩ := T.d 17 _ rfl
  exact ⟨fd, h fd F, [], .nil, FunD.bindsN F fun _ _ _ _ _ _ us hl => match us, hl with | [_], _ => rfl⟩
theorem mk_Reading_read_end_tag {P : Program} {w : World} {K : PySem.W.Frag} {mg : Str → Option Value} {base : Heap} {CX : CXT} {k : Nat} {sp : Sp} (T : TX K mg) (h : ∀ fd, FunD K "read_end_tag" "Reading.read_end_tag" (defArgs s_Reading_read_end_tag) (defBody s_Reading_read_end_tag) (defScope s_Reading_read_end_tag) [] [] (He.fAd K at_Reading_read_end_tag) fd → FnOk P w K mg base CX k (He.fAd K at_Reading_read_end_tag) fd ps_Reading_read_end_tag sp) :
    Can P w K mg base CX k (He.fAd K at_Reading_read_end_tag) ps_Reading_read_end_tag [] sp := by
  obtain ⟨fd, F⟩ := T.d 18 _ rfl
  exact ⟨fd, h fd F, [], .nil, FunD.bindsN F fun _ _ _ _ _ _ us hl => match us, hl with | [_], _ => rfl⟩
theorem mk_Reading_read_name {P : Program} {w : World} {K : PySem.W.Frag} {mg : Str → Option Value} {base : Heap} {CX : CXT} {k : Nat} {sp : Sp} (T : TX K mg) (h : ∀ fd, FunD K "read_name" "Reading.read_name" (defArgs s_Reading_read_name) (defBody s_Reading_read_name) (defScope s_Reading_read_name) [] [] (He.fAd K at_Reading_read_name) fd → FnOk P w K mg base CX k (He.fAd K at_Reading_read_name) fd ps_Reading_read_name sp) :
    Can P w K mg base CX k (He.fAd K at_Reading_read_name) ps_Reading_read_name [] sp := by
  obtain ⟨fd, F⟩ := T.d 19 _ rfl
  exact ⟨fd, h fd F, [], .nil, FunD.bindsN F fun _ _ _ _ _ _ us hl => match us, hl with | [_, _], _ => rfl⟩
theorem mk_Reading_read_tag_end {P : Program} {w : World} {K : PySem.W.Frag} {mg : Str → Option Value} {base : Heap} {CX : CXT} {k : Nat} {sp : Sp} (T : TX K mg) (h : ∀ fd, FunD K "read_tag_end" "Reading.read_tag_end" (defArgs s_Reading_read_tag_end) (defBody s_Reading_read_tag_end) (defScope s_Reading_read_tag_end) [] [] (He.fAd K at_Reading_read_tag_end) fd → FnOk P w K mg base CX k (He.fAd K at_Reading_read_tag_end) fd ps_Reading_read_tag_end sp) :
    Can P w K mg base CX k (He.fAd K at_Reading_read_tag_end) ps_Reading_read_tag_end [] sp := by
  obtain ⟨fd, F⟩ := T.d 20 _ rfl
  exact ⟨fd, h fd F, [], .nil, FunD.bindsN F fun _ _ _ _ _ _ us hl => match us, hl with | [_], _ => rfl⟩
theorem mk_Reading_read_text {P : Program} {w : World} {K : PySem.W.Frag} {mg : Str → Option Value} {base : Heap} {CX : CXT} {k : Nat} {sp : Sp} (T : TX K mg) (h : ∀ fd, FunD K "read_text" "Reading.read_text" (defArgs s_Reading_read_text) (defBody s_Reading_read_text) (defScope s_Reading_read_text) [] [] (He.fAd K at_Reading_read_text) fd → FnOk P w K mg base CX k (He.fAd K at_Reading_read_text) fd ps_Reading_read_text sp) :
    Can P w K mg base CX k (He.fAd K at_Reading_read_text) ps_Reading_read_text [] sp := by
  obtain ⟨fd, F⟩ := T.d 21 _ rfl
  exact ⟨fd, h fd F, [], .nil, FunD.bindsN F fun _ _ _ _ _ _ us hl => match us, hl with | [_], _ => rfl⟩
theorem mk_Reading_next_sign {P : Program} {w : World} {K : PySem.W.Frag} {mg : Str → Option Value} {base : Heap} {CX : CXT} {k : Nat} {sp : Sp} (T : TX K mg) (h : ∀ fd, FunD K "next_sign" "Reading.next_sign" (defArgs s_Reading_next_sign) (defBody s_Reading_next_sign) (defScope s_Reading_next_sign) [] [] (He.fAd K at_Reading_next_sign) fd → FnOk P w K mg base CX k (He.fAd K at_Reading_next_sign) fd ps_Reading_next_sign sp) :
    Can P w K mg base CX k (He.fAd K at_Reading_next_sign) ps_Reading_next_sign [] sp := by
  obtain ⟨fd, F⟩ := T.d 22 _ rfl
  exact ⟨fd, h fd F, [], .nil, FunD.bindsN F fun _ _ _ _ _ _ us hl => match us, hl with | [_], _ => rfl⟩
theorem mk_Reading_count_node {P : Program} {w : World} {K : PySem.W.Frag} {mg : Str → Option Value} {base : Heap} {CX : CXT} {k : Nat} {sp : Sp} (T : TX K mg) (h : ∀ fd, FunD K "count_node" "Reading.count_node" (defArgs s_Reading_count_node) (defBody s_Reading_count_node) (defScope s_Reading_count_node) [] [] (He.fAd K at_Reading_count_node) fd → FnOk P w K mg base CX k (He.fAd K at_Reading_count_node) fd ps_Reading_count_node sp) :
    Can P w K mg base CX k (He.fAd K at_Reading_count_node) ps_Reading_count_node [] sp := by
  obtain ⟨fd, F⟩ := T.d 23 _ rfl
  exact ⟨fd, h fd F, [], .nil, FunD.bindsN F fun _ _ _ _ _ _ us hl => match us, hl with | [_], _ => rfl⟩
theorem mk_read_document {P : Program} {w : World} {K : PySem.W.Frag} {mg : Str → Option Value} {base : Heap} {CX : CXT} {k : Nat} {sp : Sp} (T : TX K mg) (h : ∀ fd, FunD K "read_document" "read_document" (defArgs s_read_document) (defBody s_read_document) (defScope s_read_document) [] [] (He.fAd K at_read_document) fd → FnOk P w K mg base CX k (He.fAd K at_read_document) fd ps_read_document sp) :
    Can P w K mg base CX k (He.fAd K at_read_document) ps_read_document [] sp := by
  obtain ⟨fd, F⟩ := T.d 24 _ rfl
  exact ⟨fd, h fd F, [], .nil, FunD.bindsN F fun _ _ _ _ _ _ us hl => match us, hl with | [_], _ => rfl⟩
theorem mk__written {P : Program} {w : World} {K : PySem.W.Frag} {mg : Str → Option Value} {base : Heap} {CX : CXT} {k : Nat} {sp : Sp} (T : TX K mg) (h : ∀ fd, FunD K "_written" "_written" (defArgs s__written) (defBody s__written) (defScope s__written) [] [] (He.fAd K at__written) fd → FnOk P w K mg base CX k (He.fAd K at__written) fd ps__written sp) :
    Can P w K mg base CX k (He.fAd K at__written) ps__written [] sp := by
  obtain ⟨fd, F⟩ := T.d 25 _ rfl
  exact ⟨fd, h fd F, [], .nil, FunD.bindsN F fun _ _ _ _ _ _ us hl => match us, hl with | [_], _ => rfl⟩
theorem mk_write_document {P : Program} {w : World} {K : PySem.W.Frag} {mg : Str → Option Value} {base : Heap} {CX : CXT} {k : Nat} {sp : Sp} (T : TX K mg) (h : ∀ fd, FunD K "write_document" "write_document" (defArgs s_write_document) (defBody s_write_document) (defScope s_write_document) [] [] (He.fAd K at_write_document) fd → FnOk P w K mg base CX k (He.fAd K at_write_document) fd ps_write_document sp) :
    Can P w K mg base CX k (He.fAd K at_write_document) ps_write_document [] sp := by
  obtain ⟨fd, F⟩ := T.d 26 _ rfl
  exact ⟨fd, h fd F, [], .nil, FunD.bindsN F fun _ _ _ _ _ _ us hl => match us, hl with | [_], _ => rfl⟩
theorem mk__law_draws {P : Program} {w : World} {K : PySem.W.Frag} {mg : Str → Option Value} {base : Heap} {CX : CXT} {k : Nat} {sp : Sp} (T : TX K mg) (h : ∀ fd, FunD K "_law_draws" "_law_draws" (defArgs s__law_draws) (defBody s__law_draws) (defScope s__law_draws) [] [] (He.fAd K at__law_draws) fd → FnOk P w K mg base CX k (He.fAd K at__law_draws) fd ps__law_draws sp) :
    Can P w K mg base CX k (He.fAd K at__law_draws) ps__law_draws [] sp := by
  obtain ⟨fd, F⟩ := T.d 27 _ rfl
  exact ⟨fd, h fd F, [], .nil, FunD.bindsN F fun _ _ _ _ _ _ us hl => match us, hl with | [_], _ => rfl⟩
theorem mk__law_take {P : Program} {w : World} {K : PySem.W.Frag} {mg : Str → Option Value} {base : Heap} {CX : CXT} {k : Nat} {sp : Sp} (T : TX K mg) (h : ∀ fd, FunD K "_law_take" "_law_take" (defArgs s__law_take) (defBody s__law_take) (defScope s__law_take) [] [] (He.fAd K at__law_take) fd → FnOk P w K mg base CX k (He.fAd K at__law_take) fd ps__law_take sp) :
    Can P w K mg base CX k (He.fAd K at__law_take) ps__law_take [] sp := by
  obtain ⟨fd, F⟩ := T.d 28 _ rfl
  exact ⟨fd, h fd F, [], .nil, FunD.bindsN F fun _ _ _ _ _ _ us hl => match us, hl with | [_, _], _ => rfl⟩
theorem mk__law_string {P : Program} {w : World} {K : PySem.W.Frag} {mg : Str → Option Value} {base : Heap} {CX : CXT} {k : Nat} {sp : Sp} (T : TX K mg) (h : ∀ fd, FunD K "_law_string" "_law_string" (defArgs s__law_string) (defBody s__law_string) (defScope s__law_string) [] [] (He.fAd K at__law_string) fd → FnOk P w K mg base CX k (He.fAd K at__law_string) fd ps__law_string sp) :
    Can P w K mg base CX k (He.fAd K at__law_string) ps__law_string [] sp := by
  obtain ⟨fd, F⟩ := T.d 29 _ rfl
  exact ⟨fd, h fd F, [], .nil, FunD.bindsN F fun _ _ _ _ _ _ us hl => match us, hl with | [_, _], _ => rfl⟩
theorem mk__law_tree {P : Program} {w : World} {K : PySem.W.Frag} {mg : Str → Option Value} {base : Heap} {CX : CXT} {k : Nat} {sp : Sp} (T : TX K mg) (h : ∀ fd, FunD K "_law_tree" "_law_tree" (defArgs s__law_tree) (defBody s__law_tree) (defScope s__law_tree) [] [] (He.fAd K at__law_tree) fd → FnOk P w K mg base CX k (He.fAd K at__law_tree) fd ps__law_tree sp) :
    Can P w K mg base CX k (He.fAd K at__law_tree) ps__law_tree [] sp := by
  obtain ⟨fd, F⟩ := T.d 30 _ rfl
  exact ⟨fd, h fd F, [], .nil, FunD.bindsN F fun _ _ _ _ _ _ us hl => match us, hl with | [_, _, _], _ => rfl⟩
theorem mk__law_escaped {P : Program} {w : World} {K : PySem.W.Frag} {mg : Str → Option Value} {base : Heap} {CX : CXT} {k : Nat} {sp : Sp} (T : TX K mg) (h : ∀ fd, FunD K "_law_escaped" "_law_escaped" (defArgs s__law_escaped) (defBody s__law_escaped) (defScope s__law_escaped) [] [] (He.fAd K at__law_escaped) fd → FnOk P w K mg base CX k (He.fAd K at__law_escaped) fd ps__law_escaped sp) :
    Can P w K mg base CX k (He.fAd K at__law_escaped) ps__law_escaped [] sp := by
  obtain ⟨fd, F⟩ := T.d 31 _ rfl
  exact ⟨fd, h fd F, [], .nil, FunD.bindsN F fun _ _ _ _ _ _ us hl => match us, hl with | [_], _ => rfl⟩
theorem mk__law_written {P : Program} {w : World} {K : PySem.W.Frag} {mg : Str → Option Value} {base : Heap} {CX : CXT} {k : Nat} {sp : Sp} (T : TX K mg) (h : ∀ fd, FunD K "_law_written" "_law_written" (defArgs s__law_written) (defBody s__law_written) (defScope s__law_written) [] [] (He.fAd K at__law_written) fd → FnOk P w K mg base CX k (He.fAd K at__law_written) fd ps__law_written sp) :
    Can P w K mg base CX k (He.fAd K at__law_written) ps__law_written [] sp := by
  obtain ⟨fd, F⟩ := T.d 32 _ rfl
  exact ⟨fd, h fd F, [], .nil, FunD.bindsN F fun _ _ _ _ _ _ us hl => match us, hl with | [_, _], _ => rfl⟩
theorem mk__law_read {P : Program} {w : World} {K : PySem.W.Frag} {mg : Str → Option Value} {base : Heap} {CX : CXT} {k : Nat} {sp : Sp} (T : TX K mg) (h : ∀ fd, FunD K "_law_read" "_law_read" (defArgs s__law_read) (defBody s__law_read) (defScope s__law_read) [] [] (He.fAd K at__law_read) fd → FnOk P w K mg base CX k (He.fAd K at__law_read) fd ps__law_read sp) :
    Can P w K mg base CX k (He.fAd K at__law_read) ps__law_read [] sp := by
  obtain ⟨fd, F⟩ := T.d 33 _ rfl
  exact ⟨fd, h fd F, [], .nil, FunD.bindsN F fun _ _ _ _ _ _ us hl => match us, hl with | [_], _ => rfl⟩
theorem mk__law_changed {P : Program} {w : World} {K : PySem.W.Frag} {mg : Str → Option Value} {base : Heap} {CX : CXT} {k : Nat} {sp : Sp} (T : TX K mg) (h : ∀ fd, FunD K "_law_changed" "_law_changed" (defArgs s__law_changed) (defBody s__law_changed) (defScope s__law_changed) [] [] (He.fAd K at__law_changed) fd → FnOk P w K mg base CX k (He.fAd K at__law_changed) fd ps__law_changed sp) :
    Can P w K mg base CX k (He.fAd K at__law_changed) ps__law_changed [] sp := by
  obtain ⟨fd, F⟩ := T.d 34 _ rfl
  exact ⟨fd, h fd F, [], .nil, FunD.bindsN F fun _ _ _ _ _ _ us hl => match us, hl with | [_, _], _ => rfl⟩
theorem mk_law {P : Program} {w : World} {K : PySem.W.Frag} {mg : Str → Option Value} {base : Heap} {CX : CXT} {k : Nat} {sp : Sp} (T : TX K mg) (h : ∀ fd, FunD K "law" "law" (defArgs s_law) (defBody s_law) (defScope s_law) [] [] (He.fAd K at_law) fd → FnOk P w K mg base CX k (He.fAd K at_law) fd ps_law sp) :
    Can P w K mg base CX k (He.fAd K at_law) ps_law [] sp := by
  obtain ⟨fd, F⟩ := T.d 35 _ rfl
  exact ⟨fd, h fd F, [], .nil, FunD.bindsN F fun _ _ _ _ _ _ us hl => match us, hl with | [_], _ => rfl⟩
/-! ### values that are data -/
theorem dp_ex {K : PySem.W.Frag} {H H' : Hp} (e : Ex H H') : ∀ {d : PyData} {v : V}, Dp K H v d → Dp K H' v d := by
  intro d v h
  refine Dp.rec (motive_1 := fun v d _ => Dp K H' v d) (motive_2 := fun vs ds _ => DpAll K H' vs ds) .non .bl .int .str (fun h _ ih => .lst (ex_l e h) ih) (fun h _ ih => .tup (ex_t e h) ih) .nil (fun _ _ a b => .cons a b) h
theorem dpAll_ex {K : PySem.W.Frag} {H H' : Hp} (e : Ex H H') : ∀ {ds : List PyData} {vs : List V}, DpAll K H vs ds → DpAll K H' vs ds
  | [], _, h => by
    cases h
    exact .nil
  | d :: ds, _, h => by
    cases h with
    | cons a b => exact .cons (dp_ex e a) (dpAll_ex e b)
theorem dpAll_snoc {K : PySem.W.Frag} {H : Hp} {v : V} {d : PyData} : ∀ {ds : List PyData} {vs : List V}, DpAll K H vs ds → Dp K H v d → DpAll K H (vs ++ [v]) (ds ++ [d])
  | [], _, h, h2 => by
    cases h
    exact .cons h2 .nil
  | c :: ds, _, h, h2 => by
    cases h with
    | cons a b => exact .cons a (dpAll_snoc b h2)
theorem dpa_at {K : PySem.W.Frag} {H : Hp} : ∀ {ds : List PyData} {xs : List V} {i : Nat} {x : V}, DpAll K H xs ds → xs[i]? = some x → ∃ d, ds[i]? = some d ∧ Dp K H x d
  | [], _, _, _, h, e => by
    cases h
    cases e
  | c :: ds, _, 0, _, h, e => by
    cases h with
    | cons a b =>
      cases e
      exact ⟨c, rfl, a⟩
  | c :: ds, _, i + 1, _, h, e => by
    cases h with
    | cons a b => exact dpa_at (i := i) b e
theorem dpa_len {K : PySem.W.Frag} {H : Hp} : ∀ {ds : List PyData} {xs : List V}, DpAll K H xs ds → xs.length = ds.length
  | [], _, h => by
    cases h
    rfl
  | c :: ds, _, h => by
    cases h with
    | cons a b => rw [List.length_cons, List.length_cons, dpa_len b]
/-! ### the draws -/
/-- a list of numbers stands at d -/
def Dr (H : Hp) (d : Addr) : Prop := ∃ ns : List Int, H d = some (.lst (ns.map V.int))
theorem Dr.kp {S : List Addr} {H H' : Hp} {d : Addr} (D : Dr H d) (e : Kp S H H') (h : d ∉ S) : Dr H' d := D.imp fun _ g => e.at g h
theorem Dr.keep {H H' : Hp} {d : Addr} (D : Dr H d) (e : Ex H H') : Dr H' d := D.imp fun _ g => e _ _ g
theorem Dr.on {H : Hp} {d : Addr} (D : Dr H d) : H d ≠ none := by
  obtain ⟨ns, h⟩ := D
  rw [h]
  intro z
  cases z
theorem Dr.ne {H : Hp} {d p : Addr} (D : Dr H d) (h : H p = none) : p ≠ d := fun e => D.on (e ▸ h)
theorem Dr.put {H : Hp} {d p : Addr} {o : HO} (D : Dr H d) (h : H p = none) : Dr (upd H p o) d := D.keep (Ex.new h)
theorem Dr.mut {H : Hp} {d p : Addr} {o : HO} (D : Dr H d) (h : p ≠ d) : Dr (upd H p o) d := D.kp (Kp.up (p := p)) fun z => h (List.mem_singleton.mp z).symm
def spTake : Sp := fun vs H Q _ => ∃ (d : Addr) (m : Int), vs = [.ref d, .int m] ∧ 0 < m ∧ Dr H d ∧ ∀ (v : Int) (H' : Hp), 0 ≤ v → v < m → Dr H' d → Kp [d] H H' → Q (.int v) H'
theorem fmod_in {i m : Int} (h : 0 < m) : 0 ≤ i.fmod m ∧ i.fmod m < m := by
  rw [Int.fmod_eq_emod_of_nonneg i (Int.le_of_lt h)]
  exact ⟨Int.emod_nonneg _ (by omega), Int.emod_lt_of_pos _ h⟩
theorem rd_take {σ : L2.St} {H : Hp} {i : Nat} {te : TE} {d : Addr} {m : Int} {Q : VK} {E : XK} (hσ : σ[i]? = some (some (.ref d))) (hm : Val te σ H (.int m)) (m0 : 0 < m) (D : Dr H d)
    (k : ∀ (v : Int) (H' : Hp), 0 ≤ v → v < m → Dr H' d → Kp [d] H H' → Q (.int v) H') : tCall spTake [] E (tCons (tVar i) (tCons te tNil)) σ H Q := ⟨_, hσ, hm _ ⟨d, m, rfl, m0, D, k⟩⟩
def spDraws (K : PySem.W.Frag) : Sp := fun vs H Q _ => ∃ (a : Addr) (ns : List Int), vs = [.ref a] ∧ SqL K H a (ns.map V.int) ∧ ns.length ≤ 63 ∧ ∀ (d : Addr) (H' : Hp), H d = none → Dr H' d → Ex H H' → Q (.ref d) H'
section
variable {P : Program} {w : World} {K : PySem.W.Frag} {mg : Str → Option Value} {base : Heap}
theorem ok__law_take (T : TX K mg) : Can P w K mg base CX0 1 (He.fAd K at__law_take) ps__law_take [] spTake := mk__law_take T fun fd F => def0 F sc__law_take (fun vs H Q E h => by
  obtain ⟨d, m, rfl, _⟩ := h
  rfl) fun cdv A outer s H vs Q E hr h => by
  obtain ⟨d, m, rfl, m0, ⟨ns, hd⟩, k⟩ := h
  refine ⟨_, (pss_cons (ps_if (pt_cmpR op_eq (pe_callB (cLen K rfl) (by rfl) T.n_len PySem.boot_len (pa_cons (pv 0) pa_nil)) pe_int (nomark _)) (pss_one (ps_ret pe_int)) pss_nil)
  (pss_one (ps_ret (pe_op op_modN (pe_callTy call_int1 (by rfl) T.n_int (by decide +kernel) (pa_cons (eBm0 K rfl PySem.F.plainAttrs_list PySem.F.slot_list_pop PySem.F.type_list_pop mt_pop (pv 0)) pa_nil)) (pv 1))))), ?_⟩
  refine st_seq (st_if (ans_v (val_eq (val_lenL (val_var rfl) (SqL.of hd)) val_c rfl)) (fun h0 => ?_) (fun h0 => ?_))
  · exact go_ret (k 0 H (Int.le_refl _) m0 ⟨ns, hd⟩ Kp.refl)
  · have hl : ns ≠ [] := fun z => by
      subst z
      simp at h0
    have hlast : (ns.map V.int)[(ns.map V.int).length - 1]? = some (.int (ns.getLast hl)) := by
      rw [List.length_map]
      refine at_int ?_
      rw [← List.getLast?_eq_getElem?, List.getLast?_eq_some_getLast hl]
    have hdrop : (ns.map V.int).dropLast = (ns.dropLast).map V.int := (List.map_dropLast ..).symm
    refine ⟨_, rfl, .inl ⟨rfl, _, SqL.of hd⟩, d, _, _, rfl, rfl, hd, hlast, .inl ⟨_, rfl, _, rfl, _, _, rfl, rfl, (by omega), ?_⟩⟩
    exact k _ _ (fmod_in m0).1 (fmod_in m0).2 ⟨ns.dropLast, by rw [upd_same, hdrop]⟩ (Kp.put (by simp))
theorem ok__law_draws (T : TX K mg) : Can P w K mg base CX0 1 (He.fAd K at__law_draws) ps__law_draws [] (spDraws K) := mk__law_draws T fun fd F => def0 F sc__law_draws (fun vs H Q E h => by
  obtain ⟨a, ns, rfl, _⟩ := h
  rfl) fun cdv A outer s H vs Q E hr h => by
  obtain ⟨a, ns, rfl, hS, hz, k⟩ := h
  refine ⟨_, (pss_cons (ps_set (i := 1) sc__law_draws.nd rfl (Or.inl rfl) (pe_lst pa_nil))
  (pss_cons (ps_for PassesOwn.never rfl (iLst K rfl (pv 0)) (pg_name (i := 2) sc__law_draws.nd rfl (Or.inl rfl))
  (pss_cons (ps_set (i := 5) sc__law_draws.nd rfl (Or.inl rfl) (pe_callB call_abs (by rfl) T.n_abs (by decide +kernel) (pa_cons (pv 2) pa_nil)))
  (Evl.pss_cut (ps_if (pt_cmpR op_lt (pv 5) (pe_op op_pow pe_int pe_int) (nomark _)) (pss_cons (ps_set (i := 6) sc__law_draws.nd rfl (Or.inl rfl) (pe_op op_modN (pe_callTy call_int1 (by rfl) T.n_int (by decide +kernel) (pa_cons (pe_op op_add (pe_op op_mul (pv 5) pe_int) pe_int) pa_nil)) pe_int))
  (pss_cons (ps_expr (eBm K rfl PySem.F.plainAttrs_list PySem.F.slot_list_append PySem.F.type_list_append mt_append (pv 1) (pa_cons (pe_op op_modN (pe_callTy call_int1 (by rfl) T.n_int (by decide +kernel) (pa_cons (pe_op op_add (pe_op op_mul (pv 6) pe_int) (pv 5)) pa_nil)) pe_int) pa_nil)))
  (pss_cons (ps_expr (eBm K rfl PySem.F.plainAttrs_list PySem.F.slot_list_append PySem.F.type_list_append mt_append (pv 1) (pa_cons (pe_op op_modN (pe_callTy call_int1 (by rfl) T.n_int (by decide +kernel) (pa_cons (pe_op op_add (pv 6) (pe_op op_fdivN (pv 5) pe_int)) pa_nil)) pe_int) pa_nil)))
  (pss_one (ps_set (i := 5) sc__law_draws.nd rfl (Or.inl rfl) pe_int))))) pss_nil)
  (pss_one (ps_for PassesOwn.never rfl (pi_range1 rfl T.n_range (pa_cons pe_int pa_nil)) (pg_name (i := 4) sc__law_draws.nd rfl (Or.inl rfl))
  (pss_one (ps_if (pt_cmpR op_gt (pv 5) pe_int (nomark _)) (pss_cons (ps_expr (eBm K rfl PySem.F.plainAttrs_list PySem.F.slot_list_append PySem.F.type_list_append mt_append (pv 1) (pa_cons (pe_op op_modN (pe_callTy call_int1 (by rfl) T.n_int (by decide +kernel) (pa_cons (pv 5) pa_nil)) pe_int) pa_nil)))
  (pss_one (ps_set (i := 5) sc__law_draws.nd rfl (Or.inl rfl) (pe_op op_fdivN (pv 5) pe_int)))) pss_nil)))))))
  (pss_cons (ps_set (i := 3) sc__law_draws.nd rfl (Or.inl rfl) pe_int)
  (Evl.pss_cut (ps_if (pt_cmpR op_gt (pe_callB (cLen K rfl) (by rfl) T.n_len PySem.boot_len (pa_cons (pv 0) pa_nil)) pe_int (nomark _)) (pss_one (ps_set (i := 3) sc__law_draws.nd rfl (Or.inl rfl) (pe_op op_add pe_int (pe_callB call_abs (by rfl) T.n_abs (by decide +kernel) (pa_cons (pe_ix (ixL K rfl) (pv 0) pe_int (fun _ _ => rfl)) pa_nil))))) pss_nil)
  (pss_cons (ps_for PassesOwn.never rfl (pi_range1 rfl T.n_range (pa_cons pe_int pa_nil)) (pg_name (i := 4) sc__law_draws.nd rfl (Or.inl rfl))
  (pss_cons (ps_set (i := 3) sc__law_draws.nd rfl (Or.inl rfl) (pe_op op_modN (pe_callTy call_int1 (by rfl) T.n_int (by decide +kernel) (pa_cons (pe_op op_add (pe_op op_mul (pv 3) pe_int) pe_int) pa_nil)) pe_int))
  (pss_one (ps_expr (eBm K rfl PySem.F.plainAttrs_list PySem.F.slot_list_append PySem.F.type_list_append mt_append (pv 1) (pa_cons (pe_op op_fdivN (pv 3) pe_int) pa_nil))))))
  (pss_one (ps_ret (pe_lstRev K rfl rfl (by rfl) T.n_list (by rfl) T.n_reversed (pv 1))))))))), ?_⟩
  refine ⟨by show 0 ≤ sizeLine; decide, fun p hp => ?_⟩
  dsimp only [gName]
  have vi : ∀ {te : TE} {σ : L2.St} {G : Hp} {i : Int}, Val te σ G (.int i) → Val (tCB (fun xs H Q => (∃ i, xs = [V.int i] ∧ Q (V.int i) H) ∨ ∃ k, xs = [V.bl k] ∧ Q (V.int (if k = true then 1 else 0)) H) (tCons te tNil)) σ G (.int i) := fun h => val_cb (va_one h) fun _ q => .inl ⟨_, rfl, q⟩
  have va : ∀ {te : TE} {σ : L2.St} {G : Hp} {i : Int}, Val te σ G (.int i) → Val (tCB (fun xs H Q => ∃ i, xs = [V.int i] ∧ Q (V.int (if i < 0 then -i else i)) H) (tCons te tNil)) σ G (.int (if i < 0 then -i else i)) := fun h => val_cb (va_one h) fun _ q => ⟨_, rfl, q⟩
  have app : ∀ {D : Ends} {σ : L2.St} {G : Hp} {te : TE} {ms : List Int} {v : Int}, σ[1]? = some (some (.ref p)) → G p = some (.lst (ms.map V.int)) → ms.length ≤ 10000 → Val te σ G (.int v) → D.nx σ (upd G p (.lst ((ms ++ [v]).map V.int))) → tDrop (tBM K "list" rAppend (tVar 1) (tCons te tNil)) D σ G := fun {D σ G te ms v} hσ hG hl hv k => st_app hG (val_var hσ) hv (small9 (by rw [List.length_map]; omega)) (by
    rw [List.map_append] at k
    exact k)
  refine st_seq (st_forL (val_var rfl) (ex_l (Ex.new hp) hS) (fun i σ G => ∃ v2 v4 v5 v6, ∃ ms : List Int, σ = [some (.ref a), some (.ref p), v2, none, v4, v5, v6] ∧ Ex H G ∧ G p = some (.lst (ms.map V.int)) ∧ ms.length ≤ 62 * i) ⟨_, _, _, _, [], rfl, Ex.new hp, upd_same, Nat.zero_le _⟩ (fun i σ G _ ⟨_, _, _, _, _, _, e, _⟩ => ex_l e hS) ?_ ?_)
  · rintro i x σ G hi ⟨v2, v4, v5, v6, ms, rfl, e, hG, hl⟩
    obtain ⟨z, hz', rfl⟩ := int_at hi
    have hi63 := lt_of_at hz'
    refine st_seq (go_asg (va (val_var rfl) _ ?_))
    generalize (if z < 0 then -z else z) = y
    dsimp only [gName]
    refine ⟨fun σ' G' => ∃ (y' : Int) (v6' : Option V) (ms' : List Int), σ' = [some (.ref a), some (.ref p), some (.int z), none, v4, some (.int y'), v6'] ∧ Ex H G' ∧ G' p = some (.lst (ms'.map V.int)) ∧ ms'.length ≤ 62 * i + 2, ?_, ?_⟩
    · refine st_if (ans_v (val_I (g := fun i j => .bl (decide (i < j))) (val_var rfl) (val_IC (g := fun i j => .int (i ^ j.toNat)) val_c val_c ⟨by decide, by decide, by decide⟩))) (fun _ => ?_) (fun _ => ⟨y, v6, ms, rfl, e, hG, by omega⟩)
      refine st_seq (go_asg (val_IC (g := fun i j => .int (i.fmod j)) (vi (val_I (g := fun i j => .int (i + j)) (val_IC (g := fun i j => .int (i * j)) (val_var rfl) val_c (.inr ⟨by decide, by decide⟩)) val_c)) val_c (by decide) _ ?_))
      dsimp only [gName]
      refine st_seq (app rfl hG (by omega) (val_IC (g := fun i j => .int (i.fmod j)) (vi (val_I (g := fun i j => .int (i + j)) (val_IC (g := fun i j => .int (i * j)) (val_var rfl) val_c (.inr ⟨by decide, by decide⟩)) (val_var rfl))) val_c (by decide)) ?_)
      refine st_seq (app rfl upd_same (by rw [List.length_append]; show _ + 1 ≤ _; omega) (val_IC (g := fun i j => .int (i.fmod j)) (vi (val_I (g := fun i j => .int (i + j)) (val_var rfl) (val_IC (g := fun i j => .int (i.fdiv j)) (val_var rfl) val_c ⟨by decide, by decide⟩))) val_c (by decide)) ?_)
      rw [upd_upd]
      exact ⟨0, _, _, rfl, e.mut hp, upd_same, by rw [List.length_append, List.length_append]; show _ + 1 + 1 ≤ _; omega⟩
    · rintro σ' G' ⟨y', v6', ms', rfl, e', hG', hl'⟩
      refine ⟨60, rfl, by decide, by decide, for_range (lo := 0) (n := 60) (fun k σ G => ∃ v4 v6, ∃ (y : Int) (ms : List Int), σ = [some (.ref a), some (.ref p), some (.int z), none, v4, some (.int y), v6] ∧ Ex H G ∧ G p = some (.lst (ms.map V.int)) ∧ ms.length ≤ 62 * i + 2 + k) ⟨_, _, y', ms', rfl, e', hG', hl'⟩ ?_ ?_⟩
      · rintro k σ G hk ⟨v4, v6, y, ms, rfl, e, hG, hl⟩
        refine st_if (ans_v (val_I (g := fun i j => .bl (decide (i > j))) (val_var rfl) val_c)) (fun _ => ?_) (fun _ => ⟨_, _, y, ms, rfl, e, hG, by omega⟩)
        refine st_seq (app rfl hG (by omega) (val_IC (g := fun i j => .int (i.fmod j)) (vi (val_var rfl)) val_c (by decide)) ?_)
        exact go_asg (val_IC (g := fun i j => .int (i.fdiv j)) (val_var rfl) val_c ⟨by decide, by decide⟩ _ ⟨_, _, _, _, rfl, e.mut hp, upd_same, by rw [List.length_append]; show _ + 1 ≤ _; omega⟩)
      · rintro σ G ⟨v4, v6, y, ms, rfl, e, hG, hl⟩
        exact ⟨_, _, _, _, ms, rfl, e, hG, by omega⟩
  · rintro σ G ⟨v2, v4, v5, v6, ms, rfl, e, hG, hl⟩
    rw [List.length_map] at hl
    dsimp only [gName]
    refine st_seq (go_asg ?_)
    dsimp only [gName]
    refine ⟨fun σ' G' => ∃ y : Int, σ' = [some (.ref a), some (.ref p), v2, some (.int y), v4, v5, v6] ∧ G' = G, ?_, ?_⟩
    · refine st_if (ans_v (val_I (g := fun i j => .bl (decide (i > j))) (val_lenL (val_var rfl) (ex_l e hS)) val_c)) (fun h0 => ?_) (fun _ => ⟨1, rfl, rfl⟩)
      cases ns with
      | nil => cases h0
      | cons z r => exact go_asg (val_I (g := fun i j => .int (i + j)) val_c (va (val_ixL (val_var rfl) val_c (ex_l e hS) (atI_nat (j := 0) rfl))) _ ⟨_, rfl, rfl⟩)
    · rintro σ' G' ⟨y, rfl, rfl⟩
      refine ⟨240, rfl, by decide, by decide, for_range (lo := 0) (n := 240) (fun k σ G => ∃ v4, ∃ (y : Int) (ms : List Int), σ = [some (.ref a), some (.ref p), v2, some (.int y), v4, v5, v6] ∧ Ex H G ∧ G p = some (.lst (ms.map V.int)) ∧ ms.length ≤ 62 * 63 + k) ⟨_, y, ms, rfl, e, hG, by omega⟩ ?_ ?_⟩
      · rintro k σ G hk ⟨v4, y, ms, rfl, e, hG, hl⟩
        refine st_seq (go_asg (val_IC (g := fun i j => .int (i.fmod j)) (vi (val_I (g := fun i j => .int (i + j)) (val_IC (g := fun i j => .int (i * j)) (val_var rfl) val_c (.inr ⟨by decide, by decide⟩)) val_c)) val_c (by decide) _ ?_))
        dsimp only [gName]
        exact app rfl hG (by omega) (val_IC (g := fun i j => .int (i.fdiv j)) (val_var rfl) val_c ⟨by decide, by decide⟩) ⟨_, _, _, rfl, e.mut hp, upd_same, by rw [List.length_append]; show _ + 1 ≤ _; omega⟩
      · rintro σ G ⟨v4, y, ms, rfl, e, hG, hl⟩
        exact ⟨_, rfl, p, _, rfl, SqL.of hG, fun q hq => k q _ (fresh_back e hq) ⟨ms.reverse, by rw [upd_same, List.map_reverse]⟩ (e.trans (Ex.new hq))⟩
end
/-! ### the same data -/
/-- a value's class, by the data that it is -/
def nameD : PyData → String
  | .none => "NoneType"
  | .bool _ => "bool"
  | .int _ => "int"
  | .str _ => "str"
  | .list _ => "list"
  | .tuple _ => "tuple"
  | .dict _ => "dict"
theorem ty_sqL {K : PySem.W.Frag} {H : Hp} {a : Addr} {xs : List V} (h : SqL K H a xs) : TyX K H (.ref a) (.type "list") := by
  rcases h with (h | ⟨o, h⟩) | ⟨o, its, n, hk, hc, _⟩
  · exact .base (.lst h)
  · exact .base (.frz h)
  · exact .kList hk hc
theorem ty_sqT {K : PySem.W.Frag} {H : Hp} {a : Addr} {xs : List V} (h : SqT K H a xs) : TyX K H (.ref a) (.type "tuple") := by
  rcases h with (h | ⟨o, h⟩) | ⟨o, its, n, hk, hc, _⟩
  · exact .base (.tup h)
  · exact .fTuple h
  · exact .kTuple hk hc
theorem ty_dp {K : PySem.W.Frag} {H : Hp} {x : V} {d : PyData} (h : Dp K H x d) : TyX K H x (.type (nameD d)) := by
  cases h with
  | non => exact .base .non
  | bl b => exact .base (.bl b)
  | int i => exact .base (.int i)
  | str z => exact .base (.str z)
  | lst h _ => exact ty_sqL h
  | tup h _ => exact ty_sqT h
theorem dpAll_len {K : PySem.W.Frag} {H : Hp} {xs : List V} {ds : List PyData} (h : DpAll K H xs ds) : xs.length = ds.length := by
  induction ds generalizing xs with
  | nil => cases h; rfl
  | cons d ds ih =>
    cases h with
    | cons a b => rw [List.length_cons, List.length_cons, ih b]
theorem dpAll_at {K : PySem.W.Frag} {H : Hp} {xs : List V} {ds : List PyData} (h : DpAll K H xs ds) {i : Nat} {d : PyData} (e : ds[i]? = some d) : ∃ x, xs[i]? = some x ∧ Dp K H x d := by
  induction ds generalizing xs i with
  | nil => cases e
  | cons c ds ih =>
    cases h with
    | cons a b =>
      cases i with
      | zero =>
        have e' : c = d := Option.some.inj e
        exact ⟨_, rfl, e' ▸ a⟩
      | succ i => exact ih b e
theorem depth_at {ds : List PyData} {i : Nat} {d : PyData} (e : ds[i]? = some d) : d.depth ≤ PyData.depthAll ds := by
  induction ds generalizing i with
  | nil => cases e
  | cons c ds ih =>
    rw [PyData.depthAll]
    cases i with
    | zero =>
      have e' : c = d := Option.some.inj e
      subst e'
      exact Nat.le_max_left _ _
    | succ i => exact Nat.le_trans (ih e) (Nat.le_max_right _ _)
theorem dpAll_ints {K : PySem.W.Frag} {H : Hp} : ∀ ns : List Int, DpAll K H (ns.map V.int) (ns.map PyData.int)
  | [] => .nil
  | n :: r => .cons (.int n) (dpAll_ints r)
theorem depth_ints : ∀ ns : List Int, PyData.depthAll (ns.map PyData.int) = 0
  | [] => rfl
  | n :: r => by rw [List.map_cons, PyData.depthAll, depth_ints r, PyData.depth]; rfl
mutual
def lenD : PyData → Nat
  | .list xs => lenAll xs
  | .tuple xs => lenAll xs
  | .dict _ => 0
  | .none => 0
  | .bool _ => 0
  | .int _ => 0
  | .str _ => 0
def lenAll : List PyData → Nat
  | [] => 0
  | x :: xs => lenD x + 1 + lenAll xs
end
theorem len_le : ∀ ds : List PyData, ds.length ≤ lenAll ds
  | [] => Nat.le_refl _
  | d :: ds => by
    have := len_le ds
    rw [lenAll, List.length_cons]
    omega
theorem len_at : ∀ {ds : List PyData} {i : Nat} {d : PyData}, ds[i]? = some d → lenD d ≤ lenAll ds
  | [], _, _, e => by cases e
  | c :: ds, 0, d, e => by
    have e' : c = d := Option.some.inj e
    subst e'
    rw [lenAll]
    omega
  | c :: ds, i + 1, d, e => by
    have := len_at (ds := ds) (i := i) e
    rw [lenAll]
    omega
theorem lenAll_ints : ∀ ns : List Int, lenAll (ns.map PyData.int) = ns.length
  | [] => rfl
  | n :: r => by rw [List.map_cons, lenAll, lenAll_ints r, lenD, List.length_cons]; omega
/-! ### the draws of trees -/
def spString : Sp := fun vs H Q _ => ∃ (d : Addr) (m : Nat), vs = [.ref d, .int (m : Int)] ∧ 1 ≤ m ∧ m ≤ 1000 ∧ Dr H d ∧ ∀ (z : Str) (H' : Hp), okText m z → Dr H' d → Kp [d] H H' → Q (.str z) H'
def spNames : Sp := fun vs H Q _ => ∃ d : Addr, vs = [.ref d] ∧ Dr H d ∧ ∀ (p : Addr) (ns : List Str) (H' : Hp), H p = none → ns ≠ [] → ns.length ≤ 4 → (∀ n ∈ ns, n ∈ fourNames) → Dr H' d → Kp [d] H H' → H' p = some (.lst (ns.map V.str)) → Q (.ref p) H'
section
variable {P : Program} {w : World} {K : PySem.W.Frag} {mg : Str → Option Value} {base : Heap}
theorem ok__law_string (T : TX K mg) : Can P w K mg base CX0 2 (He.fAd K at__law_string) ps__law_string [] spString := by
  obtain ⟨fd__law_take, G__law_take, ds__law_take, v__law_take, b__law_take⟩ := ok__law_take (P := P) (w := w) (base := base) T
  exact mk__law_string T fun fd F => def0 F sc__law_string (fun vs H Q E h => by
    obtain ⟨d, m, rfl, _⟩ := h
    rfl) fun cdv A outer s H vs Q E hr h => by
    obtain ⟨d, m, rfl, m0, m1, D, k⟩ := h
    refine ⟨_, (pss_cons (ps_set (i := 2) sc__law_string.nd rfl (Or.inl rfl) pe_str)
  (pss_cons (ps_set (i := 3) sc__law_string.nd rfl (Or.inl rfl) pe_str)
  (pss_cons (ps_for PassesOwn.never rfl (pi_range1 rfl T.n_range (pa_cons (pe_op op_add pe_int (pe_call G__law_take (hr.mono (by first | decide | omega)) rfl T.g__law_take T.k__law_take b__law_take v__law_take pass0 (pa_cons (pv 0) (pa_cons (pv 1) pa_nil)))) pa_nil)) (pg_name (i := 4) sc__law_string.nd rfl (Or.inl rfl))
  (pss_one (ps_set (i := 3) sc__law_string.nd rfl (Or.inl rfl) (pe_op op_add_str (pv 3) (pe_ix ix_str (pv 2) (pe_call G__law_take (hr.mono (by first | decide | omega)) rfl T.g__law_take T.k__law_take b__law_take v__law_take pass0 (pa_cons (pv 0) (pa_cons (pe_callB call_len_str (by rfl) T.n_len PySem.boot_len (pa_cons (pv 2) pa_nil)) pa_nil))) (fun _ _ => rfl))))))
  (pss_one (ps_ret (pv 3)))))), ?_⟩
    refine st_seq (go_asg ?_)
    dsimp only [gName]
    refine st_seq (go_asg ?_)
    dsimp only [gName]
    refine st_seq ?_
    refine rd_take rfl (val_var rfl) (by omega) D fun n H1 n0 n1 D1 e1 => ?_
    refine ⟨1, n, rfl, rfl, 1 + n, rfl, by omega, by omega, for_range (lo := 0) (n := (1 + n).toNat) (fun i σ G => ∃ (v4 : Option V) (z : Str), σ = [some (.ref d), some (.int (m : Int)), some (.str twelve), some (.str z), v4] ∧ Kp [d] H G ∧ Dr G d ∧ z.cps.size = i ∧ ∀ c ∈ z.cps.toList, c ∈ signCs) ⟨none, Str.ofString "", rfl, e1, D1, rfl, fun c hc => by cases hc⟩ ?_ ?_⟩
    · rintro i σ G hi ⟨v4, z, rfl, e, DG, hz, hc⟩
      refine go_asg ?_
      refine ⟨_, rfl, _, rfl, ?_⟩
      refine rd_take rfl (val_cb (va_one (val_var rfl)) fun Q q => ⟨twelve, rfl, by decide +kernel, q⟩) (by decide +kernel) DG fun v G2 v0 v1 D2 e2 => ?_
      have hv : v.toNat < signCs.length := by
        have : (twelve.length : Int) = 12 := by decide +kernel
        show v.toNat < 12
        omega
      have hcs : twelve.cps.toList = signCs := by decide +kernel
      have hat : atI twelve.cps.toList v = some signCs[v.toNat] := by
        have hn : (v.toNat : Int) = v := Int.toNat_of_nonneg v0
        have q := atI_nat (xs := twelve.cps.toList) (j := v.toNat) (v := signCs[v.toNat]) (by rw [hcs]; exact List.getElem?_eq_getElem hv)
        rwa [hn] at q
      refine ⟨twelve, v, signCs[v.toNat], rfl, rfl, by decide +kernel, hat, z, ⟨#[signCs[v.toNat]]⟩, rfl, rfl, sz_of (by show z.cps.size + 1 ≤ _; omega), ?_⟩
      have ec : (z ++ (⟨#[signCs[v.toNat]]⟩ : Str)).cps = z.cps ++ #[signCs[v.toNat]] := rfl
      refine ⟨_, _, rfl, e.trans e2, D2, by rw [ec, Array.size_append, hz] <;> rfl, fun c hc' => ?_⟩
      rw [ec, Array.toList_append, List.mem_append] at hc'
      rcases hc' with q | q
      · exact hc c q
      · have : c ∈ [signCs[v.toNat]] := q
        rw [List.mem_singleton.mp this]
        exact List.getElem_mem hv
    · rintro σ G ⟨v4, z, rfl, e, DG, hz, hc⟩
      exact st_ret (val_var rfl) (k z G ⟨by omega, by omega, hc⟩ DG e)
/-- new data: v is d by what is new in H' -/
def NewD (K : PySem.W.Frag) (H H' : Hp) (v : V) (d : PyData) : Prop := ∀ H'' : Hp, (∀ a o, H a = none → H' a = some o → H'' a = some o) → Dp K H'' v d
def NewC (K : PySem.W.Frag) (H G : Hp) (p : Addr) (acc : List V) (ds : List PyData) : Prop := ∀ H'' : Hp, (∀ a o, H a = none → a ≠ p → G a = some o → H'' a = some o) → DpAll K H'' acc ds
theorem NewC.snoc {H G G' : Hp} {d p : Addr} {acc : List V} {ds : List PyData} {v : V} {x : PyData} (N : NewC K H G p acc ds) (D : Dr H d) (DG : Dr G d) (hp : G p ≠ none) (e : Kp [d] H G) (e' : Kp [d] G G') (M : NewD K G G' v x) : NewC K H (upd G' p (.lst (acc ++ [v]))) p (acc ++ [v]) (ds ++ [x]) := fun H'' h =>
  dpAll_snoc (N H'' fun a o ha hne hG => h a o ha hne (by
    rw [upd_ne hne]
    exact e'.at hG (by simpa using D.ne ha))) (M H'' fun a o hGa hG' => by
    have hne : a ≠ p := fun z => hp (z ▸ hGa)
    refine h a o (e.back (fun b hb => by rw [List.mem_singleton.mp hb]; exact DG.on) hGa) hne ?_
    rw [upd_ne hne]
    exact hG')
theorem ds_snoc (cs : List Tr) (t : Tr) : Tr.ds (cs ++ [t]) = Tr.ds cs ++ [t.d] := by rw [ds_map, ds_map, List.map_append] <;> rfl
def lastT (cs : List Tr) : Bool := match cs.getLast? with
  | some t => t.isT
  | none => false
theorem apart_snoc : ∀ {cs : List Tr} {t : Tr}, apartT cs → ¬ (lastT cs = true ∧ t.isT = true) → apartT (cs ++ [t])
  | [], _, _, _ => trivial
  | [_], _, _, h => ⟨h, trivial⟩
  | _ :: b :: r, _, ⟨h1, h2⟩, h => ⟨h1, apart_snoc (cs := b :: r) h2 fun z => h ⟨by rw [lastT, List.getLast?_cons_cons]; exact z.1, z.2⟩⟩
theorem isT_type {H : Hp} {x : V} {t : Tr} (h : Dp K H x t.d) : ∃ c, TyX K H x (.type c) ∧ kitB c "str" = some t.isT := by
  cases t with
  | txt z => exact ⟨"str", ty_dp h, (by decide +kernel : kitB "str" "str" = some true)⟩
  | el n cs => exact ⟨"tuple", ty_dp h, (by decide +kernel : kitB "tuple" "str" = some false)⟩
theorem or_any {t u : TT} {σ : L2.St} {H : Hp} {Q : Bool → Hp → Prop} {a : Bool} {R : Bool → Hp → Prop} (h : Ans t σ H a) (hu : a = false → ∀ Q : Bool → Hp → Prop, (∀ b G, R b G → Q b G) → u σ H Q) (ha : a = true → R true H) (k : ∀ b G, R b G → Q b G) : tOr t u σ H Q := by
  refine h _ ?_
  cases a with
  | true => exact iteT (k _ _ (ha rfl))
  | false => exact iteF (hu rfl Q k)
def spTree (K : PySem.W.Frag) (n : Nat) : Sp := fun vs H Q _ => ∃ (d p : Addr) (k : Nat) (ns : List Str), vs = [.ref d, .int (k : Int), .ref p] ∧ k < n ∧ Dr H d ∧ p ≠ d ∧ H p = some (.lst (ns.map V.str)) ∧ ns ≠ [] ∧ ns.length ≤ 4 ∧ (∀ n ∈ ns, n ∈ fourNames) ∧ ∀ (v : V) (nm : Str) (cs : List Tr) (H' : Hp), okTr (k + 1) (.el nm cs) → Dr H' d → Kp [d] H H' → NewD K H H' v (Tr.el nm cs).d → Q v H'
theorem ok__law_tree (T : TX K mg) : ∀ n, Can P w K mg base CX0 (n + 3) (He.fAd K at__law_tree) ps__law_tree [] (spTree K n)
  | 0 => by
    obtain ⟨fd, _, b⟩ := mk__law_tree (P := P) (w := w) (base := base) (CX := CX0) (k := 0) (sp := fun _ _ _ _ => False) T fun fd F => ⟨fun _ _ _ _ h => h.elim, fun _ _ _ _ _ _ _ _ _ _ _ _ _ h => h.elim⟩
    exact ⟨fd, ⟨fun _ _ _ _ ⟨_, _, _, _, _, h, _⟩ => absurd h (Nat.not_lt_zero _), fun _ _ _ _ _ _ _ _ _ _ _ _ _ ⟨_, _, _, _, _, h, _⟩ => absurd h (Nat.not_lt_zero _)⟩, b⟩
  | n + 1 => by
    obtain ⟨fd_s, G__law_tree, ds_s, v__law_tree, b__law_tree⟩ := ok__law_tree T n
    obtain ⟨fd__law_take, G__law_take, ds__law_take, v__law_take, b__law_take⟩ := ok__law_take (P := P) (w := w) (base := base) T
    obtain ⟨fd__law_string, G__law_string, ds__law_string, v__law_string, b__law_string⟩ := ok__law_string (P := P) (w := w) (base := base) T
    exact mk__law_tree T fun fd F => def0 F sc__law_tree (fun vs H Q E h => by
      obtain ⟨d, p, k, ns, rfl, _⟩ := h
      rfl) fun cdv A outer s H vs Q E hr h => by
      obtain ⟨d, p, k, ns, rfl, hk, D, hpd, hp, hn0, hn4, hns, kk⟩ := h
      refine ⟨_, (pss_cons (ps_set (i := 3) sc__law_tree.nd rfl (Or.inl rfl) (pe_lst pa_nil))
  (pss_cons (ps_set (i := 4) sc__law_tree.nd rfl (Or.inl rfl) (pe_call G__law_take (hr.mono (by first | decide | omega)) rfl T.g__law_take T.k__law_take b__law_take v__law_take pass0 (pa_cons (pv 0) (pa_cons pe_int pa_nil))))
  (Evl.pss_cut (ps_if (pt_cmpR op_eq (pv 1) pe_int (nomark _)) (pss_one (ps_set (i := 4) sc__law_tree.nd rfl (Or.inl rfl) (pe_call G__law_take (hr.mono (by first | decide | omega)) rfl T.g__law_take T.k__law_take b__law_take v__law_take pass0 (pa_cons (pv 0) (pa_cons pe_int pa_nil))))) pss_nil)
  (pss_cons (ps_for PassesOwn.never rfl (pi_range1 rfl T.n_range (pa_cons (pv 4) pa_nil)) (pg_name (i := 5) sc__law_tree.nd rfl (Or.inl rfl))
  (pss_cons (ps_set (i := 6) sc__law_tree.nd rfl (Or.inl rfl) (pe_and (pe_cmpR op_gt (pe_callB (cLen K rfl) (by rfl) T.n_len PySem.boot_len (pa_cons (pv 3) pa_nil)) pe_int (nomark _)) (pe_one (pe_callB (cIsi K rfl) (by rfl) T.n_isinstance (by decide +kernel) (pa_cons (pe_ix (ixL K rfl) (pv 3) (pe_op op_sub (pe_callB (cLen K rfl) (by rfl) T.n_len PySem.boot_len (pa_cons (pv 3) pa_nil)) pe_int) (fun _ _ => rfl)) (pa_cons (pe_bltn (v := .ty "str") rfl T.n_str (by decide +kernel) rfl) pa_nil))))))
  (pss_one (ps_if (PW.pt (pw_or (pt_cmpR op_eq (pv 1) pe_int (nomark _)) (pw_or1 (pt_cmpR op_eq (pe_call G__law_take (hr.mono (by first | decide | omega)) rfl T.g__law_take T.k__law_take b__law_take v__law_take pass0 (pa_cons (pv 0) (pa_cons pe_int pa_nil))) pe_int (nomark _))))) (pss_one (ps_if (pt_not (pt_val (pv 6))) (pss_one (ps_expr (eBm K rfl PySem.F.plainAttrs_list PySem.F.slot_list_append PySem.F.type_list_append mt_append (pv 3) (pa_cons (pe_call G__law_string (hr.mono (by first | decide | omega)) rfl T.g__law_string T.k__law_string b__law_string v__law_string pass0 (pa_cons (pv 0) (pa_cons pe_int pa_nil))) pa_nil)))) pss_nil)) (pss_one (ps_expr (eBm K rfl PySem.F.plainAttrs_list PySem.F.slot_list_append PySem.F.type_list_append mt_append (pv 3) (pa_cons (pe_call G__law_tree (hr.mono (by first | decide | omega)) rfl T.g__law_tree T.k__law_tree b__law_tree v__law_tree pass0 (pa_cons (pv 0) (pa_cons (pe_op op_sub (pv 1) pe_int) (pa_cons (pv 2) pa_nil)))) pa_nil))))))))
  (pss_one (ps_ret (pe_tup (pa_cons (pe_ix (ixL K rfl) (pv 2) (pe_call G__law_take (hr.mono (by first | decide | omega)) rfl T.g__law_take T.k__law_take b__law_take v__law_take pass0 (pa_cons (pv 0) (pa_cons (pe_callB (cLen K rfl) (by rfl) T.n_len PySem.boot_len (pa_cons (pv 2) pa_nil)) pa_nil))) (fun _ _ => rfl)) (pa_cons (pv 3) pa_nil))))))))), ?_⟩
      refine st_seq ⟨by show 0 ≤ sizeLine; decide, fun c hc => ?_⟩
      dsimp only [gName]
      have ncd : c ≠ d := D.ne hc
      have ncp : c ≠ p := fun z => by rw [z, hp] at hc; cases hc
      refine st_seq (go_asg ?_)
      refine rd_take rfl val_c (by decide) (D.put hc) fun m1 H1 a0 a1 D1 e1 => ?_
      dsimp only [gName]
      have hc1 : H1 c = some (.lst []) := e1.at upd_same (by simpa using ncd)
      have k1 : Kp [d] H H1 := (Kp.new hc).trans e1
      refine ⟨fun σ G => ∃ m : Int, σ = [some (.ref d), some (.int (k : Int)), some (.ref p), some (.ref c), some (.int m), none, none] ∧ Kp [d] H G ∧ Dr G d ∧ G c = some (.lst []) ∧ 0 ≤ m ∧ m < 4, ?_, ?_⟩
      · refine st_if (ans_v (val_eq (val_var rfl) val_c rfl)) (fun _ => ?_) (fun _ => ⟨m1, rfl, k1, D1, hc1, a0, a1⟩)
        refine go_asg ?_
        refine rd_take rfl val_c (by decide) D1 fun m2 H2 b0 b1 D2 e2 => ?_
        exact ⟨m2, rfl, k1.trans e2, D2, e2.at hc1 (by simpa using ncd), b0, by omega⟩
      · rintro σ G ⟨m, rfl, eG, DG, hcG, m0, m4⟩
        refine st_seq ?_
        refine ⟨_, rfl, m, rfl, by omega, by omega, for_range (lo := 0) (n := m.toNat) (fun i σ G => ∃ (v5 v6 : Option V) (acc : List V) (cs : List Tr), σ = [some (.ref d), some (.int (k : Int)), some (.ref p), some (.ref c), some (.int m), v5, v6] ∧ Kp [d] H G ∧ Dr G d ∧ G c = some (.lst acc) ∧ NewC K H G c acc (Tr.ds cs) ∧ cs.length ≤ i ∧ apartT cs ∧ ∀ t ∈ cs, okTr k t) ⟨_, _, [], [], rfl, eG, DG, hcG, fun _ _ => .nil, Nat.le_refl _, trivial, fun t ht => by cases ht⟩ ?_ ?_⟩
        · rintro i σ G hi ⟨v5, v6, acc, cs, rfl, eG, DG, hcG, N, hl, hap, hok⟩
          have hdp := N G fun _ _ _ _ h => h
          have hlen : acc.length = cs.length := by rw [dpa_len hdp, ds_map, List.length_map]
          have hS : SqL K G c acc := SqL.of hcG
          have hbig : acc.length < sizeLine := by
            have : m.toNat < 4 := by omega
            exact sz_lt (by omega)
          have stp : ∀ (v : V) (t : Tr) (σ' : L2.St) (G2 : Hp) (v5' v6' : Option V), σ' = [some (.ref d), some (.int (k : Int)), some (.ref p), some (.ref c), some (.int m), v5', v6'] → Kp [d] G G2 → Dr G2 d → NewD K G G2 v t.d → okTr k t → ¬ (lastT cs = true ∧ t.isT = true) → ∃ (v5 v6 : Option V) (acc' : List V) (cs : List Tr), σ' = [some (.ref d), some (.int (k : Int)), some (.ref p), some (.ref c), some (.int m), v5, v6] ∧ Kp [d] H (upd G2 c (.lst (acc ++ [v]))) ∧ Dr (upd G2 c (.lst (acc ++ [v]))) d ∧ upd G2 c (.lst (acc ++ [v])) c = some (.lst acc') ∧ NewC K H (upd G2 c (.lst (acc ++ [v]))) c acc' (Tr.ds cs) ∧ cs.length ≤ i + 1 ∧ apartT cs ∧ ∀ t ∈ cs, okTr k t := fun v t σ' G2 v5' v6' hσ e2 D2 M ht hlast => ⟨v5', v6', acc ++ [v], cs ++ [t], hσ, (eG.trans e2).mut hc, D2.mut ncd, upd_same, by
              rw [ds_snoc]
              exact N.snoc D DG (by rw [hcG]; exact nofun) eG e2 M, by rw [List.length_append]; show _ + 1 ≤ _; omega, apart_snoc hap hlast, fun u hu => (List.mem_append.mp hu).elim (hok u) fun z => by rw [List.mem_singleton.mp z]; exact ht⟩
          have hb : Val (tAndV (tOp (rI0 fun i j => V.bl (decide (j < i))) (tCB (rLn K) (tCons (tVar 3) tNil)) (tC (V.int 0))) (tCB (rIsi K) (tCons (tOp (rIxL K) (tVar 3) (tOp (rI0 fun i j => V.int (i - j)) (tCB (rLn K) (tCons (tVar 3) tNil)) (tC (V.int 1)))) (tCons (tC (V.ty "str")) tNil)))) [some (.ref d), some (.int (k : Int)), some (.ref p), some (.ref c), some (.int m), some (.int (0 + (i : Int))), v6] G (.bl (lastT cs)) := by
            cases hq : cs.getLast? with
            | none =>
              have hnil : cs = [] := List.getLast?_eq_none_iff.mp hq
              rw [hnil] at hlen
              exact val_is (val_and (a := false) (b := false) (val_is (val_I (val_lenL (val_var rfl) hS) val_c) (by rw [hlen]; rfl)) nofun) (by rw [lastT, hq]; rfl)
            | some t =>
              have hpos : 0 < cs.length := by
                cases cs with
                | nil => cases hq
                | cons _ _ => exact Nat.succ_pos _
              obtain ⟨x, hx, hxd⟩ := dpAll_at hdp (i := cs.length - 1) (d := t.d) (by
                rw [ds_map, List.getElem?_map, ← List.getLast?_eq_getElem?, hq] <;> rfl)
              obtain ⟨ty, h1, h2⟩ := isT_type hxd
              have hat : atI acc ((acc.length : Int) - 1) = some x := by
                have e1 : (acc.length : Int) - 1 = ((cs.length - 1 : Nat) : Int) := by omega
                rw [e1]
                exact atI_nat hx
              exact val_is (val_and (a := true) (b := t.isT) (val_is (val_I (val_lenL (val_var rfl) hS) val_c) (by rw [decide_eq_true (by omega)])) fun _ => val_isi (val_ixL (val_var rfl) (val_I (val_lenL (val_var rfl) hS) val_c) hS hat) h1 h2) (by rw [lastT, hq]; rfl)
          refine st_seq (go_asg (hb _ ?_))
          dsimp only [gName]
          show tOr _ _ _ _ _
          refine or_any (R := fun b G2 => Kp [d] G G2 ∧ Dr G2 d ∧ (k = 0 → b = true)) (ans_v (val_eq (val_var rfl) val_c rfl)) (fun h0 Q' q' => ?_) (fun _ => ⟨Kp.refl, DG, fun _ => rfl⟩) ?_
          · refine rd_take rfl val_c (by decide) DG fun w G2 w0 w1 D2 e2 => ?_
            exact ⟨rfl, _, rfl, q' _ _ ⟨e2, D2, fun z => by subst z; simp at h0⟩⟩
          · rintro b G2 ⟨e2, D2, hb0⟩
            have hc2 : G2 c = some (.lst acc) := e2.at hcG (by simpa using ncd)
            cases b with
            | true =>
              refine iteT (st_if (ans_not (ans_val (val_var rfl))) (fun hn => ?_) (fun hn => ?_))
              · refine ⟨_, rfl, .inl ⟨rfl, acc, SqL.of hc2⟩, _, rfl, d, 5, rfl, by omega, by omega, D2, fun z G3 hz D3 e3 => ?_⟩
                refine ⟨c, acc, _, rfl, rfl, e3.at hc2 (by simpa using ncd), hbig, ?_⟩
                exact stp (.str z) (.txt z) _ G3 _ _ rfl (e2.trans e3) D3 (fun _ _ => .str z) (by cases k <;> exact hz) fun h => by
                  rw [h.1] at hn
                  cases hn
              · exact ⟨_, _, acc, cs, rfl, eG.trans e2, D2, hc2, fun H'' h => N H'' fun a o ha hne hG => h a o ha hne (e2.at hG (by simpa using D.ne ha)), by omega, hap, hok⟩
            | false =>
              refine iteF ?_
              obtain ⟨k', rfl⟩ : ∃ k', k = k' + 1 := ⟨k - 1, by
                have : k ≠ 0 := fun z => by cases hb0 z
                omega⟩
              refine ⟨_, rfl, .inl ⟨rfl, acc, SqL.of hc2⟩, _, rfl, _, rfl, _, 1, rfl, rfl, _, rfl, d, p, k', ns, ?_, by omega, D2, hpd, (eG.trans e2).at hp (by simpa using hpd), hn0, hn4, hns, fun v nm cs' G3 hok' D3 e3 M => ?_⟩
              · have e1 : ((k' + 1 : Nat) : Int) - 1 = (k' : Int) := by omega
                show [V.ref d, V.int (((k' + 1 : Nat) : Int) - 1), V.ref p] = _
                rw [e1]
              · refine ⟨c, acc, _, rfl, rfl, e3.at hc2 (by simpa using ncd), hbig, ?_⟩
                exact stp v (.el nm cs') _ G3 _ _ rfl (e2.trans e3) D3 (fun H'' h => M H'' fun a o hGa hG' => h a o (e2.back (fun b hb => by rw [List.mem_singleton.mp hb]; exact D2.on) hGa) hG') hok' fun h => by cases h.2
        · rintro σ G ⟨v5, v6, acc, cs, rfl, eG, DG, hcG, N, hl, hap, hok⟩
          have hSp : SqL K G p (ns.map V.str) := SqL.of (eG.at hp (by simpa using hpd))
          have hln : ((ns.map V.str).length : Int) = (ns.length : Int) := by rw [List.length_map]
          have hpos : 0 < ns.length := List.length_pos_iff.mpr hn0
          refine ⟨_, rfl, ?_⟩
          refine rd_take rfl (val_lenL (val_var rfl) hSp) (by omega) DG fun j G2 j0 j1 D2 e2 => ?_
          have hj : j.toNat < ns.length := by omega
          have hat : atI (ns.map V.str) j = some (.str ns[j.toNat]) := by
            have q := atI_nat (xs := ns.map V.str) (j := j.toNat) (v := .str ns[j.toNat]) (by rw [List.getElem?_map, List.getElem?_eq_getElem hj] <;> rfl)
            rwa [Int.toNat_of_nonneg j0] at q
          have hc2 : G2 c = some (.lst acc) := e2.at hcG (by simpa using ncd)
          refine ⟨p, _, j, _, rfl, rfl, SqL.of (e2.at (eG.at hp (by simpa using hpd)) (by simpa using hpd)), hat, _, rfl, by show 2 ≤ sizeLine; decide, fun q hq => ?_⟩
          have nqd : q ≠ d := D2.ne hq
          have hqH : H q = none := (eG.trans e2).back (fun b hb => by rw [List.mem_singleton.mp hb]; exact D2.on) hq
          refine kk (.ref q) ns[j.toNat] cs _ ⟨hns _ (List.getElem_mem hj), by omega, hap, hok⟩ (D2.put hq) ((eG.trans e2).trans (Kp.new hq)) fun H'' h => ?_
          refine .tup (SqT.of (h q _ hqH upd_same)) (.cons (.str _) (.cons (.lst (SqL.of (h c _ hc (by rw [upd_ne (fun z => by rw [z, hq] at hc2; cases hc2)]; exact hc2))) (N H'' fun a o ha hne hG => h a o ha ?_)) .nil))
          have h2 : G2 a = some o := e2.at hG (by simpa using D.ne ha)
          rw [upd_ne (fun z => by rw [z, hq] at h2; cases h2)]
          exact h2
end
section
variable {K : PySem.W.Frag}
/-- the parts of an element, as values -/
theorem el_parts {H : Hp} {x : V} {n : Str} {cs : List Tr} (h : Dp K H x (Tr.el n cs).d) : ∃ (a l : Addr) (ys : List V), x = .ref a ∧ SqT K H a [.str n, .ref l] ∧ SqL K H l ys ∧ DpAll K H ys (Tr.ds cs) := by
  cases h with
  | @tup a xs _ sx ax =>
    cases ax with
    | cons h1 r =>
      cases h1
      cases r with
      | cons h2 r2 =>
        cases r2
        cases h2 with
        | @lst l ys _ sl al => exact ⟨a, l, ys, rfl, sx, sl, al⟩
end
/-! ### documents as texts, by the law -/
theorem at_cons {x : V} {xs : List V} : atI (x :: xs) 0 = some x := atI_nat (j := 0) rfl
theorem at_one {x y : V} {xs : List V} : atI (x :: y :: xs) 1 = some y := atI_nat (j := 1) rfl
theorem sum_len : ∀ ys : List Str, (ys.map (·.length)).sum = (ys.map (·.cps.toList)).flatten.length
  | [] => rfl
  | y :: ys => by
    rw [List.map_cons, List.map_cons, List.flatten_cons, List.length_append, List.sum_cons, sum_len ys, Array.length_toList]
    rfl
theorem nosign : ("" : Str) = ⟨#[]⟩ := by decide +kernel
def sg : List (Key × V) := [(.inr "<", .str "&lt;"), (.inr ">", .str "&gt;"), (.inr "&", .str "&amp;")]
theorem sL_inj {a b : List Nat} (h : sL a = sL b) : a = b := by
  have := congrArg (fun z : Str => z.cps.toList) h
  exact this
theorem sg_get (c : Nat) : (valV sg (.inr (sL [c]))).getD (.str (sL [c])) = .str (sL (escC c)) := by
  have a1 : ("<" : Str) = sL [60] := by decide +kernel
  have a2 : (">" : Str) = sL [62] := by decide +kernel
  have a3 : ("&" : Str) = sL [38] := by decide +kernel
  have b1 : ("&lt;" : Str) = sL [38, 108, 116, 59] := by decide +kernel
  have b2 : ("&gt;" : Str) = sL [38, 103, 116, 59] := by decide +kernel
  have b3 : ("&amp;" : Str) = sL [38, 97, 109, 112, 59] := by decide +kernel
  have key : ∀ d : Nat, decide ((Sum.inr (sL [d]) : Key) = .inr (sL [c])) = decide (d = c) := fun d => by
    by_cases e : d = c
    · subst e
      simp
    · rw [decide_eq_false e, decide_eq_false fun z => e (by
        have := sL_inj (Sum.inr.inj z)
        exact (List.cons.inj this).1)]
  unfold sg valV escC
  rw [a1, a2, a3, b1, b2, b3]
  by_cases h1 : c = 60
  · subst h1
    simp
  by_cases h2 : c = 62
  · subst h2
    simp [sL]
  by_cases h3 : c = 38
  · subst h3
    simp [sL]
  rw [if_neg h1, if_neg h2, if_neg h3]
  simp only [List.find?, key]
  rw [decide_eq_false fun z => h1 z.symm, decide_eq_false fun z => h2 z.symm, decide_eq_false fun z => h3 z.symm]
  rfl
def spEscaped : Sp := fun vs H Q _ => ∃ z : Str, vs = [.str z] ∧ z.cps.size ≤ 1000 ∧ ∀ H', Ex H H' → Q (.str (esc z)) H'
theorem val_sL {σ : L2.St} {H : Hp} {ta tb : TE} {a b : List Nat} (h : Val ta σ H (.str (sL a))) (h' : Val tb σ H (.str (sL b))) (hz : a.length + b.length ≤ 100000) :
    Val (tOp (fun x y H Q => ∃ i j, x = .str i ∧ y = .str j ∧ i.length + j.length ≤ sizeLine ∧ Q (.str (i ++ j)) H) ta tb) σ H (.str (sL (a ++ b))) :=
  val_op h h' fun _ q => ⟨_, _, rfl, rfl, sz_of (by rw [sL_len, sL_len]; exact hz), by rw [sL_app]; exact q⟩
section
variable {P : Program} {w : World} {K : PySem.W.Frag} {mg : Str → Option Value} {base : Heap}
theorem ok__law_escaped (T : TX K mg) : Can P w K mg base CX0 1 (He.fAd K at__law_escaped) ps__law_escaped [] spEscaped := mk__law_escaped T fun fd F => def0 F sc__law_escaped (fun vs H Q E h => by
  obtain ⟨z, rfl, _⟩ := h
  rfl) fun cdv A outer s H vs Q E hr h => by
  obtain ⟨z, rfl, hz, k⟩ := h
  refine ⟨_, (pss_cons (ps_set (i := 1) sc__law_escaped.nd rfl (Or.inr rfl) (pe_disp (pps_cons pe_str pe_str (pps_cons pe_str pe_str (pps_cons pe_str pe_str pps_nil))) (by rfl) (by rfl) (fun z => by cases z) (by decide)))
  (pss_one (ps_ret (pe_join pe_str (by exact (pe_lc (own := [("letter", 2)]) (g := gName 2) (tt := tYes) rfl sc__law_escaped.nd (pi_str (pv 0)) (blkOk_by (own := [("letter", 2)]) (N := N__law_escaped) (sc := defScope s__law_escaped) (by decide +kernel)) (fun _ _ _ _ _ => by exact (pg_name (i := 2) sc__law_escaped.nd rfl (Or.inl rfl))) (fun _ _ _ _ _ => by exact pts_nil) (fun _ _ _ _ _ => by exact (pe_dget2 (hu_of hr) (pv 1) (pv 2) (pv 2) ⟨rfl, rfl, rfl, rfl⟩)))))))), ?_⟩
  refine st_seq fun p hp => ?_
  simp only [tPairs, tC]
  refine ⟨upd_same, sg, rfl, by decide, ?_⟩
  dsimp only [gName]
  rw [upd_upd, show mergeK [] sg = sg by decide +kernel]
  have e0 : Ex H (upd H p (.dK sg)) := Ex.new hp
  have h0 : upd H p (.dK sg) p = some (.dK sg) := upd_same
  revert e0 h0
  generalize upd H p (.dK sg) = H0
  intro e0 h0
  refine ⟨⟨_, rfl⟩, ?_⟩
  refine ⟨_, rfl, z, rfl, fun D hD => lc_it walk_str (fun i G => Ex H0 G ∧ ∃ ys : List Str, G D = some (.lst (ys.map V.str)) ∧ ys.length = i ∧ ys.map (·.cps.toList) = (z.cps.toList.take i).map escC) ⟨Ex.new hD, [], upd_same, rfl, rfl⟩ (fun _ _ _ _ => trivial) ?_ ?_⟩
  · rintro i x G G' hi ⟨e, ys, hG, hl, hm⟩ ⟨rfl, c, hc, rfl⟩
    refine ⟨rfl, ?_⟩
    refine ⟨_, rfl, p, rfl, .inl ⟨_, .inl (e _ _ h0)⟩, _, rfl, _, rfl, _, DGet.k (k := .inr ⟨#[c]⟩) (e _ _ h0), _, hG, sz_lt (by rw [List.length_map]; omega), e.mut hD, ys ++ [sL (escC c)], ?_, by rw [List.length_append, hl]; rfl, ?_⟩
    · rw [upd_same, List.map_append]
      show some (HO.lst (ys.map V.str ++ [(valV sg (.inr (sL [c]))).getD (.str (sL [c]))])) = _
      rw [sg_get]
      rfl
    · have hc' : z.cps.toList[i]? = some c := by rw [← hc, Array.getElem?_toList]
      rw [List.map_append, hm, List.take_succ, hc', List.map_append]
      rfl
  · rintro G ⟨e, ys, hG, hl, hm⟩
    rw [← Array.length_toList, List.take_length] at hm
    refine ⟨_, D, ys, rfl, rfl, .inl (SqL.of hG), ?_, ?_⟩
    · rw [sum_len, hm]
      have h5 := escL_len z.cps.toList
      have h6 : z.cps.toList.length = z.cps.size := Array.length_toList
      have h7 : (escL z.cps.toList) = (z.cps.toList.map escC).flatten := List.flatMap_def ..
      rw [h7] at h5
      show _ + ys.length * 0 ≤ _
      omega
    · rw [nosign, join0, hm, ← List.flatMap_def]
      exact k G (e0.trans e)
def spWritten (K : PySem.W.Frag) (n : Nat) : Sp := fun vs H Q _ => ∃ (x : V) (b : Bool) (t : Tr) (k : Nat), vs = [x, .bl b] ∧ k < n ∧ k ≤ 5 ∧ okTr k t ∧ Dp K H x t.d ∧ ∀ H', Ex H H' → Q (.str (sL (wr b t))) H'
theorem dsAt {H : Hp} {ys : List V} {cs : List Tr} {i : Nat} {x : V} (h : DpAll K H ys (Tr.ds cs)) (e : ys[i]? = some x) : ∃ c, cs[i]? = some c ∧ Dp K H x c.d := by
  obtain ⟨d, hd, hx⟩ := dpa_at h e
  rw [ds_map, List.getElem?_map] at hd
  cases hc : cs[i]? with
  | none => rw [hc] at hd; cases hd
  | some c =>
    rw [hc] at hd
    cases hd
    exact ⟨c, rfl, hx⟩
theorem ok__law_written (T : TX K mg) : ∀ n, Can P w K mg base CX0 (n + 2) (He.fAd K at__law_written) ps__law_written [] (spWritten K n)
  | 0 => by
    obtain ⟨fd, _, b⟩ := mk__law_written (P := P) (w := w) (base := base) (CX := CX0) (k := 0) (sp := fun _ _ _ _ => False) T fun fd F => ⟨fun _ _ _ _ h => h.elim, fun _ _ _ _ _ _ _ _ _ _ _ _ _ h => h.elim⟩
    exact ⟨fd, ⟨fun _ _ _ _ ⟨_, _, _, _, _, h, _⟩ => absurd h (Nat.not_lt_zero _), fun _ _ _ _ _ _ _ _ _ _ _ _ _ ⟨_, _, _, _, _, h, _⟩ => absurd h (Nat.not_lt_zero _)⟩, b⟩
  | n + 1 => by
    obtain ⟨fd_s, G__law_written, ds_s, v__law_written, b__law_written⟩ := ok__law_written T n
    obtain ⟨fd__law_escaped, G__law_escaped, ds__law_escaped, v__law_escaped, b__law_escaped⟩ := ok__law_escaped (P := P) (w := w) (base := base) T
    exact mk__law_written T fun fd F => def0 F sc__law_written (fun vs H Q E h => by
      obtain ⟨x, b, t, k, rfl, _⟩ := h
      rfl) fun cdv A outer s H vs Q E hr h => by
      obtain ⟨x, b, t, k, rfl, hk, h5, hok, hx, kk⟩ := h
      refine ⟨_, (pss_cons (ps_if (pt_val (pe_callB (cIsi K rfl) (by rfl) T.n_isinstance (by decide +kernel) (pa_cons (pv 0) (pa_cons (pe_bltn (v := .ty "str") rfl T.n_str (by decide +kernel) rfl) pa_nil)))) (pss_one (ps_ret (pe_call G__law_escaped (hr.mono (by first | decide | omega)) rfl T.g__law_escaped T.k__law_escaped b__law_escaped v__law_escaped pass0 (pa_cons (pv 0) pa_nil)))) pss_nil)
  (pss_cons (ps_if (PW.pt (pw_and (pt_cmpR op_eq (pe_callB (cLen K rfl) (by rfl) T.n_len PySem.boot_len (pa_cons (pe_ix (ixT K rfl) (pv 0) pe_int (fun _ _ => rfl)) pa_nil)) pe_int (nomark _)) (pw_and1 (pt_not (pt_val (pv 1)))))) (pss_one (ps_ret (pe_op op_add_str (pe_op op_add_str pe_str (pe_ix (ixT K rfl) (pv 0) pe_int (fun _ _ => rfl))) pe_str))) pss_nil)
  (pss_cons (ps_set (i := 2) sc__law_written.nd rfl (Or.inl rfl) (pe_join pe_str (by exact (pe_lc (own := [("child", 3)]) (g := gName 3) (tt := tYes) rfl sc__law_written.nd (iLst K rfl (pe_ix (ixT K rfl) (pv 0) pe_int (fun _ _ => rfl))) (blkOk_by (own := [("child", 3)]) (N := N__law_written) (sc := defScope s__law_written) (by decide +kernel)) (fun _ _ _ _ _ => by exact (pg_name (i := 3) sc__law_written.nd rfl (Or.inl rfl))) (fun _ _ _ _ _ => by exact pts_nil) (fun _ _ _ _ _ => by exact (pe_call G__law_written (hr.mono (by first | decide | omega)) rfl T.g__law_written T.k__law_written b__law_written v__law_written pass0 (pa_cons (pv 3) (pa_cons (pv 1) pa_nil))))))))
  (pss_one (ps_ret (pe_op op_add_str (pe_op op_add_str (pe_op op_add_str (pe_op op_add_str (pe_op op_add_str (pe_op op_add_str pe_str (pe_ix (ixT K rfl) (pv 0) pe_int (fun _ _ => rfl))) pe_str) (pv 2)) pe_str) (pe_ix (ixT K rfl) (pv 0) pe_int (fun _ _ => rfl))) pe_str)))))), ?_⟩
      have tx := ty_dp hx
      have hlen := wr_len b hok
      have hb5 := bnd_le h5
      cases t with
      | txt z =>
        have hz : okText 5 z := by cases k <;> exact hok
        cases hx
        replace tx : TyX K H (.str z) (.type "str") := tx
        refine st_seq (st_yes (ans_val (val_isi (b := true) (val_var rfl) tx (by decide +kernel))) ?_)
        refine go_ret ?_
        refine ⟨_, rfl, z, rfl, by have := hz.2.1; omega, fun H' e => ?_⟩
        have := kk H' e
        rw [wr] at this
        exact this
      | el nm cs =>
        obtain ⟨k', rfl⟩ : ∃ k', k = k' + 1 := by
          cases k with
          | zero => exact hok.elim
          | succ k' => exact ⟨k', rfl⟩
        obtain ⟨hn, hc3, _, hcs⟩ := hok
        replace tx : TyX K H x (.type "tuple") := tx
        obtain ⟨a, l, ys, rfl, sx, sl, al⟩ := el_parts hx
        have hyl : ys.length = cs.length := by rw [dpa_len al, ds_map, List.length_map]
        have hnl := name_len hn
        have nmv : ∀ {σ : L2.St} {G : Hp}, σ[0]? = some (some (.ref a)) → Ex H G → Val (tOp (rIxT K) (tVar 0) (tC (.int 0))) σ G (.str (sL nm.cps.toList)) := fun hσ e => val_is (val_ixT (val_var hσ) val_c (ex_t e sx) at_cons) (by rw [sL_of])
        have c1 : ∀ {σ : L2.St} {G : Hp} (z : Str) (q : List Nat), z.cps.toList = q → Val (tC (.str z)) σ G (.str (sL q)) := fun z q e => val_is val_c (by rw [← e, sL_of])
        refine st_seq (st_no (ans_val (val_isi (b := false) (val_var rfl) tx (by decide +kernel))) ?_)
        refine st_seq (st_if (ans_and3 (ans_v (val_eq (val_lenL (val_ixT (val_var rfl) val_c sx at_one) sl) val_c rfl)) fun _ => ans_not (ans_val (val_var rfl))) (fun h => ?_) (fun h => ?_))
        · have h0 : cs = [] ∧ b = false := by
            have h1 := Bool.and_eq_true_iff.mp h
            have h2 := V.int.inj (of_decide_eq_true h1.1)
            refine ⟨List.length_eq_zero_iff.mp (by omega), ?_⟩
            cases b with
            | true => cases h1.2
            | false => rfl
          obtain ⟨rfl, rfl⟩ := h0
          refine st_ret (val_is (val_sL (val_sL (c1 "<" [60] (by decide +kernel)) (nmv rfl (Ex.refl _)) (by simp only [List.length_append, List.length_cons, List.length_nil]; omega)) (c1 "/>" [47, 62] (by decide +kernel)) (by simp only [List.length_append, List.length_cons, List.length_nil]; omega)) ?_) (kk H (Ex.refl _))
          rw [wr]
          rfl
        · have hw : wr b (.el nm cs) = [60] ++ nm.cps.toList ++ [62] ++ wrs b cs ++ [60, 47] ++ nm.cps.toList ++ [62] := by
            rw [wr, if_neg]
            intro z
            rw [hyl] at h
            cases cs with
            | nil =>
              cases b with
              | true => cases z
              | false => cases h
            | cons _ _ => cases z
          dsimp only [tNext]
          refine st_seq (go_asg ?_)
          refine ⟨⟨_, rfl⟩, ?_⟩
          refine ⟨_, rfl, a, _, 1, _, rfl, rfl, sx, at_one, l, rfl, ⟨_, sl⟩, fun D hD => lc_list (xs := ys) (fun i G => Ex H G ∧ ∃ zs : List Str, G D = some (.lst (zs.map V.str)) ∧ zs.length = i ∧ zs.map (·.cps.toList) = (cs.take i).map (wr b)) ⟨Ex.new hD, [], upd_same, rfl, rfl⟩ (fun i G _ ⟨e, _⟩ => ex_l e sl) ?_ ?_⟩
          · rintro i y G hy ⟨e, zs, hG, hl, hm⟩
            obtain ⟨c, hc, hyc⟩ := dsAt al hy
            have hi := lt_of_at hc
            refine ⟨rfl, ?_⟩
            refine ⟨_, rfl, _, rfl, y, b, c, k', rfl, by omega, by omega, hcs c (List.mem_of_getElem? hc), dp_ex e hyc, fun G2 e2 => ?_⟩
            refine ⟨_, e2 _ _ hG, sz_lt (by rw [List.length_map]; omega), (e.trans e2).mut hD, zs ++ [sL (wr b c)], by rw [upd_same, List.map_append]; rfl, by rw [List.length_append, hl]; rfl, ?_⟩
            rw [List.map_append, hm, List.take_succ, hc, List.map_append]
            rfl
          · rintro G ⟨e, zs, hG, hl, hm⟩
            rw [hyl, List.take_length] at hm
            have hwl : (wrs b cs).length ≤ 10000 := by
              rw [hw] at hlen
              simp only [List.length_append] at hlen
              omega
            refine ⟨_, D, zs, rfl, rfl, .inl (SqL.of hG), ?_, ?_⟩
            · rw [sum_len]
              have : (zs.map (·.cps.toList)).flatten.length ≤ 10000 := by rw [hm, ← wrs_flat]; exact hwl
              show _ + zs.length * 0 ≤ _
              omega
            · rw [nosign, join0, hm, ← wrs_flat]
              dsimp only [gName]
              refine st_ret (val_is (val_sL (val_sL (val_sL (val_sL (val_sL (val_sL (c1 "<" [60] (by decide +kernel)) (nmv rfl e) (by simp only [List.length_append, List.length_cons, List.length_nil]; omega)) (c1 ">" [62] (by decide +kernel)) (by simp only [List.length_append, List.length_cons, List.length_nil]; omega)) (val_var rfl) (by simp only [List.length_append, List.length_cons, List.length_nil]; omega)) (c1 "</" [60, 47] (by decide +kernel)) (by simp only [List.length_append, List.length_cons, List.length_nil]; omega)) (nmv rfl e) (by simp only [List.length_append, List.length_cons, List.length_nil]; omega)) (c1 ">" [62] (by decide +kernel)) (by simp only [List.length_append, List.length_cons, List.length_nil]; omega)) ?_) (kk G e)
              rw [hw]
end
/-! ### the program's writer -/
theorem def0T {P : Program} {w : World} {K : PySem.W.Frag} {mg : Str → Option Value} {base : Heap} {x qual : Str} {params : Arguments} {body : List Stmt} {scope : Scope} {dvs : List V} {kws : List (Str × V)} {f : Addr} {fd : FuncData} {N ps : List Str} {k : Nat} {sp : Sp}
    (F : FunD K x qual params body scope dvs kws f fd) (S : FnScope N ps scope) (hnc : ∀ y ∈ scope.names, y.2 ≠ .cell) (hps : 1 ≤ ps.length) (len : ∀ vs H Q E, sp vs H Q E → vs.length = ps.length)
    (hb : ∀ (cdv : Value) (A : Around) (outer : List Env) (s : Shared) (H : Hp) (vs : List V) (Q : VK) (E : XK), Room k (A.deeper (envOfC qual scope s.heap.objs.size f cdv)) → sp vs H Q E →
      ∃ t, PSsT (cxOf CX0 P w K mg base N qual scope f cdv A outer s H E) body t ∧ t { nx := fun _ H' => Q .non H', rt := Q } (start N vs) H) : FnOk P w K mg base CX0 (k + 1) f fd ps sp := by
  obtain ⟨oc, od, dV, kV, doc, pm, an, cdv, ct, osl, rfl, lk, hcd, _, _⟩ := F.ex
  exact fn_ofT lk hcd S hnc hps len fun A outer s H vs Q E hr hsp => hb cdv A outer s H vs Q E hr hsp
structure Ent where
  a : Addr
  x : V
  t : Tr
  f : Bool
def outE (e : Ent) : List Nat := if e.f then (match e.t with
  | .el n _ => [60, 47] ++ n.cps.toList ++ [62]
  | .txt _ => []) else wr false e.t
mutual
def cost : Tr → Nat
  | .txt _ => 1
  | .el _ cs => 3 + costs cs
def costs : List Tr → Nat
  | [] => 0
  | c :: cs => cost c + costs cs
end
theorem cost_pos : ∀ t : Tr, 1 ≤ cost t
  | .txt _ => by rw [cost]; exact Nat.le_refl _
  | .el _ cs => by rw [cost]; omega
theorem costs_sum : ∀ cs : List Tr, costs cs = (cs.map cost).sum
  | [] => by rw [costs]; rfl
  | c :: cs => by rw [costs, costs_sum cs, List.map_cons, List.sum_cons]
def costE (e : Ent) : Nat := if e.f then 1 else cost e.t
/-- names and texts are short -/
def fitT : Nat → Tr → Prop
  | _, .txt z => z.cps.size ≤ 1000
  | 0, .el _ _ => False
  | k + 1, .el n cs => n.cps.toList.length ≤ 12 ∧ ∀ c ∈ cs, fitT k c
def okE (K : PySem.W.Frag) (H G : Hp) (e : Ent) : Prop := G e.a = some (.tup [e.x, .bl e.f]) ∧ Dp K H e.x e.t.d ∧ (∃ k, fitT k e.t) ∧ (e.f = true → e.t.isT = false)
theorem okE.up {K : PySem.W.Frag} {H G : Hp} {e : Ent} {q : Addr} {o : HO} {l : List V} (h : okE K H G e) (hq : G q = some (.lst l)) : okE K H (upd G q o) e := ⟨by
  rw [upd_ne fun z => by rw [← z, h.1] at hq; cases hq]
  exact h.1, h.2⟩
theorem okE.ex {K : PySem.W.Frag} {H G G' : Hp} {e : Ent} (h : okE K H G e) (x : Ex G G') : okE K H G' e := ⟨x _ _ h.1, h.2⟩
theorem L_le : ∀ L : List Ent, L.length ≤ (L.map costE).sum
  | [] => Nat.le_refl _
  | e :: L => by
    have h1 := L_le L
    have h2 : 1 ≤ costE e := by
      unfold costE
      split
      · exact Nat.le_refl _
      · exact cost_pos _
    rw [List.length_cons, List.map_cons, List.sum_cons]
    omega
theorem es_cost {es : List Ent} (h : ∀ e ∈ es, e.f = false) : (es.map costE).sum = costs (es.map Ent.t) := by
  rw [costs_sum, List.map_map]
  congr 1
  refine List.map_congr_left fun e he => ?_
  unfold costE
  rw [if_neg (by rw [h e he]; nofun)]
  rfl
theorem es_out {es : List Ent} (h : ∀ e ∈ es, e.f = false) : (es.map outE).flatten = wrs false (es.map Ent.t) := by
  rw [wrs_flat, List.map_map]
  congr 1
  refine List.map_congr_left fun e he => ?_
  unfold outE
  rw [if_neg (by rw [h e he]; nofun)]
  rfl
theorem len_costs : ∀ cs : List Tr, cs.length ≤ costs cs
  | [] => Nat.zero_le _
  | c :: cs => by
    have h1 := len_costs cs
    have h2 := cost_pos c
    rw [costs, List.length_cons]
    omega
def spWrite (K : PySem.W.Frag) : Sp := fun vs H Q _ => ∃ (x : V) (t : Tr) (k : Nat), vs = [x] ∧ Dp K H x t.d ∧ fitT k t ∧ cost t ≤ 10000 ∧ (wr false t).length ≤ 100000 ∧ ∀ H', Ex H H' → Q (.str (sL (wr false t))) H'
theorem val_fs3 {σ : L2.St} {H : Hp} {te : TE} {z1 z2 n : Str} {l1 l2 : List Nat} (h : Val te σ H (.str n)) (h1 : z1.cps.toList = l1) (h2 : z2.cps.toList = l2) (hz : l1.length + n.cps.toList.length + l2.length ≤ 1000) :
    Val (fun σ H Q => tJs [tC (.str z1), tFmt te, tC (.str z2)] Str.empty σ H fun out H1 => Q (.str out) H1) σ H (.str (sL (l1 ++ n.cps.toList ++ l2))) := fun Q q => by
  have e0 : Str.empty = sL [] := by decide +kernel
  have e1 : z1 = sL l1 := sL_ext h1
  have e2 : z2 = sL l2 := sL_ext h2
  have e3 : n = sL n.cps.toList := (sL_of n).symm
  have ln : n.length = n.cps.toList.length := Array.length_toList.symm
  refine ⟨z1, rfl, sz_of (by rw [e0, e1, sL_app, sL_len]; simp only [List.nil_append]; omega), h _ (.inl ⟨n, rfl, sz_of (by omega), n, rfl, sz_of ?_, z2, rfl, sz_of ?_, ?_⟩)⟩
  · rw [e0, e1, e3, sL_app, sL_app, sL_len]
    simp only [List.nil_append, List.length_append]
    omega
  · rw [e0, e1, e2, e3, sL_app, sL_app, sL_app, sL_len]
    simp only [List.nil_append, List.length_append]
    omega
  · have : Str.empty ++ z1 ++ n ++ z2 = sL (l1 ++ n.cps.toList ++ l2) := by
      rw [e0, e1, e2]
      conv => lhs; rw [e3]
      rw [sL_app, sL_app, sL_app]
      rfl
    show Q (.str (Str.empty ++ z1 ++ n ++ z2)) H
    rw [this]
    exact q
section
variable {P : Program} {w : World} {K : PySem.W.Frag} {mg : Str → Option Value} {base : Heap}
theorem ok__written (T : TX K mg) : Can P w K mg base CX0 1 (He.fAd K at__written) ps__written [] spEscaped := mk__written T fun fd F => def0T F sc__written (by decide +kernel) (by decide) (fun vs H Q E h => by
  obtain ⟨z, rfl, _⟩ := h
  rfl) fun cdv A outer s H vs Q E hr h => by
  obtain ⟨z, rfl, hz, k⟩ := h
  refine ⟨_, CwR.psst_one (CwR.pst_ret (CwR.pet_replT (CwR.pet_replT (CwR.pet_replC (pv 0))))), ?_⟩
  refine go_ret ?_
  have l1 : ∀ x : Str, (Txt.replace x "&" "&amp;").length ≤ 5 * x.length + x.length + 5 := fun x => Nat.le_trans (TK.replace_len x "&" "&amp;") (by rw [show ("&amp;" : Str).length = 5 by decide +kernel]; omega)
  have l2 : ∀ x : Str, (Txt.replace x "<" "&lt;").length ≤ 4 * x.length + x.length + 4 := fun x => Nat.le_trans (TK.replace_len x "<" "&lt;") (by rw [show ("&lt;" : Str).length = 4 by decide +kernel]; omega)
  have h1 := l1 z
  have h2 := l2 (Txt.replace z "&" "&amp;")
  have hz' : z.length ≤ 1000 := hz
  have n1 : ("&amp;" : Str).length = 5 := by decide +kernel
  have n2 : ("&lt;" : Str).length = 4 := by decide +kernel
  have n3 : ("&gt;" : Str).length = 4 := by decide +kernel
  refine ⟨_, rfl, z, rfl, by rw [n1]; omega, _, rfl, by rw [n2]; omega, _, rfl, by rw [n3]; omega, ?_⟩
  rw [esc_three]
  exact k H (Ex.refl _)
theorem ok_write_document (T : TX K mg) : Can P w K mg base CX0 2 (He.fAd K at_write_document) ps_write_document [] (spWrite K) := by
  obtain ⟨fd__written, G__written, ds__written, v__written, b__written⟩ := ok__written (P := P) (w := w) (base := base) T
  exact mk_write_document T fun fd F => def0 F sc_write_document (fun vs H Q E h => by
    obtain ⟨x, t, k, rfl, _⟩ := h
    rfl) fun cdv A outer s H vs Q E hr h => by
    obtain ⟨x, t, k, rfl, hx, hf, hc, hw, kk⟩ := h
    refine ⟨_, (pss_cons (ps_set (i := 1) sc_write_document.nd rfl (Or.inl rfl) (pe_lst pa_nil))
  (pss_cons (ps_set (i := 2) sc_write_document.nd rfl (Or.inl rfl) (pe_lst (pa_cons (pe_tup (pa_cons (pv 0) (pa_cons pe_bl pa_nil))) pa_nil)))
  (pss_cons (ps_while PassesOwn.never (tTruth K rfl (pv 2))
  (pss_cons (ps_asg (eBm0 K rfl PySem.F.plainAttrs_list PySem.F.slot_list_pop PySem.F.type_list_pop mt_pop (pv 2)) (pg_tup rfl (pgs_cons (pg_name (i := 3) sc_write_document.nd rfl (Or.inl rfl)) (pgs_cons (pg_name (i := 4) sc_write_document.nd rfl (Or.inl rfl)) pgs_nil))))
  (pss_one (ps_if (pt_val (pe_callB (cIsi K rfl) (by rfl) T.n_isinstance (by decide +kernel) (pa_cons (pv 3) (pa_cons (pe_bltn (v := .ty "str") rfl T.n_str (by decide +kernel) rfl) pa_nil)))) (pss_one (ps_expr (eBm K rfl PySem.F.plainAttrs_list PySem.F.slot_list_append PySem.F.type_list_append mt_append (pv 1) (pa_cons (pe_call G__written (hr.mono (by first | decide | omega)) rfl T.g__written T.k__written b__written v__written pass0 (pa_cons (pv 3) pa_nil)) pa_nil)))) (pss_one (ps_if (pt_val (pv 4)) (pss_one (ps_expr (eBm K rfl PySem.F.plainAttrs_list PySem.F.slot_list_append PySem.F.type_list_append mt_append (pv 1) (pa_cons (pe_joined (.cons pe_str (.cons (pe_fmt (pe_ix (ixT K rfl) (pv 3) pe_int (fun _ _ => rfl))) (.cons pe_str .nil)))) pa_nil)))) (pss_one (ps_if (pt_not (tTruth K rfl (pe_ix (ixT K rfl) (pv 3) pe_int (fun _ _ => rfl)))) (pss_one (ps_expr (eBm K rfl PySem.F.plainAttrs_list PySem.F.slot_list_append PySem.F.type_list_append mt_append (pv 1) (pa_cons (pe_joined (.cons pe_str (.cons (pe_fmt (pe_ix (ixT K rfl) (pv 3) pe_int (fun _ _ => rfl))) (.cons pe_str .nil)))) pa_nil)))) (pss_cons (ps_expr (eBm K rfl PySem.F.plainAttrs_list PySem.F.slot_list_append PySem.F.type_list_append mt_append (pv 1) (pa_cons (pe_joined (.cons pe_str (.cons (pe_fmt (pe_ix (ixT K rfl) (pv 3) pe_int (fun _ _ => rfl))) (.cons pe_str .nil)))) pa_nil)))
  (pss_cons (ps_expr (eBm K rfl PySem.F.plainAttrs_list PySem.F.slot_list_append PySem.F.type_list_append mt_append (pv 2) (pa_cons (pe_tup (pa_cons (pv 3) (pa_cons pe_bl pa_nil))) pa_nil)))
  (pss_one (ps_for PassesOwn.never rfl (iRvs K rfl (by rfl) T.n_reversed (pa_cons (pe_ix (ixT K rfl) (pv 3) pe_int (fun _ _ => rfl)) pa_nil)) (pg_name (i := 5) sc_write_document.nd rfl (Or.inl rfl))
  (pss_one (ps_expr (eBm K rfl PySem.F.plainAttrs_list PySem.F.slot_list_append PySem.F.type_list_append mt_append (pv 2) (pa_cons (pe_tup (pa_cons (pv 5) (pa_cons pe_bl pa_nil))) pa_nil))))))))))))))))
  (pss_one (ps_ret (pe_join pe_str (pv 1))))))), ?_⟩
    refine st_seq ⟨by show 0 ≤ sizeLine; decide, fun p hp => ?_⟩
    dsimp only [gName]
    refine st_seq ⟨_, rfl, by show 2 ≤ sizeLine; decide, fun a ha => ⟨by show 1 ≤ sizeLine; decide, fun q hq => ?_⟩⟩
    dsimp only [gName]
    have hpa : p ≠ a := fun z => by rw [← z, upd_same] at ha; cases ha
    have hqa : q ≠ a := fun z => by rw [z, upd_same] at hq; cases hq
    have hpq : p ≠ q := fun z => by rw [← z, upd_ne hpa, upd_same] at hq; cases hq
    have hqH : H q = none := by
      rw [upd_ne hqa, upd_ne hpq.symm] at hq
      exact hq
    have haH : H a = none := by
      rw [upd_ne hpa.symm] at ha
      exact ha
    refine st_seq ⟨fun m σ G => ∃ (v3 v4 v5 : Option V) (ps : List Str) (L : List Ent), σ = [some x, some (.ref p), some (.ref q), v3, v4, v5] ∧ m = (L.map costE).sum ∧ Ex H G ∧ G p = some (.lst (ps.map V.str)) ∧ G q = some (.lst (L.map fun e => V.ref e.a).reverse) ∧ (∀ e ∈ L, okE K H G e) ∧ (ps.map (·.cps.toList)).flatten ++ (L.map outE).flatten = wr false t ∧ ps.length + m ≤ cost t, ⟨cost t, _, _, _, [], [⟨a, x, t, false⟩], rfl, ?_, ?_, ?_, ?_, ?_, ?_, ?_⟩, ?_⟩
    · show cost t = cost t + 0
      rw [Nat.add_zero]
    · exact ((Ex.new hp).mut haH).mut hqH
    · show (upd _ q _) p = _
      rw [upd_ne hpq, upd_ne hpa, upd_same]
      rfl
    · exact upd_same
    · intro e he
      rw [List.mem_singleton.mp he]
      refine ⟨?_, hx, ⟨k, hf⟩, nofun⟩
      show (upd _ q _) a = _
      rw [upd_ne hqa.symm, upd_same]
    · show [] ++ (wr false t ++ []) = _
      rw [List.nil_append, List.append_nil]
    · show 0 + cost t ≤ cost t
      omega
    rintro m σ G ⟨v3, v4, v5, ps, L, rfl, rfl, eG, hGp, hGq, hL, hout, hcost⟩
    refine ⟨_, rfl, _, .inl ⟨_, SqL.of hGq, rfl⟩, ?_⟩
    cases L with
    | nil =>
      refine iteF ?_
      refine ⟨⟨_, rfl⟩, ?_⟩
      have e1 : (ps.map (·.cps.toList)).flatten = wr false t := by
        rw [← hout]
        simp
      refine ⟨_, rfl, _, p, ps, rfl, rfl, .inl (SqL.of hGp), ?_, ?_⟩
      · rw [sum_len, e1]
        show _ + ps.length * 0 ≤ _
        omega
      · rw [nosign, join0, e1]
        exact kk G eG
    | cons e r =>
      have hne : (!((List.map (fun e => V.ref e.a) (e :: r)).reverse).isEmpty) = true := by simp
      rw [hne]
      refine iteT ⟨fun σ' G' => ∃ m', m' < ((e :: r).map costE).sum ∧ ∃ (v3 v4 v5 : Option V) (ps : List Str) (L : List Ent), σ' = [some x, some (.ref p), some (.ref q), v3, v4, v5] ∧ m' = (L.map costE).sum ∧ Ex H G' ∧ G' p = some (.lst (ps.map V.str)) ∧ G' q = some (.lst (L.map fun e => V.ref e.a).reverse) ∧ (∀ e ∈ L, okE K H G' e) ∧ (ps.map (·.cps.toList)).flatten ++ (L.map outE).flatten = wr false t ∧ ps.length + m' ≤ cost t, fun _ _ h => h, ?_⟩
      obtain ⟨ea, ex, et, ef⟩ := e
      obtain ⟨he1, he2, ⟨ke, he3⟩, he4⟩ := hL _ (List.mem_cons_self ..)
      have hxs : (List.map (fun e => V.ref e.a) (⟨ea, ex, et, ef⟩ :: r)).reverse = (List.map (fun e : Ent => V.ref e.a) r).reverse ++ [V.ref ea] := by rw [List.map_cons, List.reverse_cons]
      rw [hxs] at hGq
      have hsum : (List.map costE (⟨ea, ex, et, ef⟩ :: r)).sum = costE ⟨ea, ex, et, ef⟩ + (r.map costE).sum := by rw [List.map_cons, List.sum_cons]
      rw [hsum] at hcost ⊢
      rw [List.map_cons, List.flatten_cons] at hout
      refine st_seq ⟨_, rfl, .inl ⟨rfl, _, SqL.of hGq⟩, q, _, V.ref ea, rfl, rfl, hGq, by simp, ea, _, rfl, SqT.of ((hL _ (List.mem_cons_self ..)).up hGq).1, rfl, _, _, rfl, _, _, rfl, rfl, ?_⟩
      have e1 : Ex H (upd G q (.lst ((List.map (fun e : Ent => V.ref e.a) r).reverse ++ [V.ref ea]).dropLast)) := eG.mut hqH
      have G1p : upd G q (.lst ((List.map (fun e : Ent => V.ref e.a) r).reverse ++ [V.ref ea]).dropLast) p = some (.lst (ps.map V.str)) := by
        rw [upd_ne hpq]
        exact hGp
      have G1q : upd G q (.lst ((List.map (fun e : Ent => V.ref e.a) r).reverse ++ [V.ref ea]).dropLast) q = some (.lst (List.map (fun e : Ent => V.ref e.a) r).reverse) := by rw [upd_same, List.dropLast_concat]
      have okr : ∀ e ∈ r, okE K H (upd G q (.lst ((List.map (fun e : Ent => V.ref e.a) r).reverse ++ [V.ref ea]).dropLast)) e := fun e he => (hL e (List.mem_cons_of_mem _ he)).up hGq
      generalize upd G q (.lst ((List.map (fun e : Ent => V.ref e.a) r).reverse ++ [V.ref ea]).dropLast) = G1 at e1 G1p G1q okr ⊢
      have hrl := L_le r
      have hps : (ps.map V.str).length < sizeLine := sz_lt (by rw [List.length_map]; omega)
      have fin : ∀ (G2 : Hp) (v3 v4 v5 : Option V) (o : List Nat), Ex G1 G2 → outE ⟨ea, ex, et, ef⟩ = o → ∃ m', m' < costE ⟨ea, ex, et, ef⟩ + (r.map costE).sum ∧ ∃ (w3 w4 w5 : Option V) (ps' : List Str) (L : List Ent), [some x, some (.ref p), some (.ref q), v3, v4, v5] = [some x, some (.ref p), some (.ref q), w3, w4, w5] ∧ m' = (L.map costE).sum ∧ Ex H (upd G2 p (.lst (ps.map V.str ++ [V.str (sL o)]))) ∧ upd G2 p (.lst (ps.map V.str ++ [V.str (sL o)])) p = some (.lst (ps'.map V.str)) ∧ upd G2 p (.lst (ps.map V.str ++ [V.str (sL o)])) q = some (.lst (L.map fun e => V.ref e.a).reverse) ∧ (∀ e ∈ L, okE K H (upd G2 p (.lst (ps.map V.str ++ [V.str (sL o)]))) e) ∧ (ps'.map (·.cps.toList)).flatten ++ (L.map outE).flatten = wr false t ∧ ps'.length + m' ≤ cost t := fun G2 v3 v4 v5 o e2 ho => by
        have hc1 : 1 ≤ costE ⟨ea, ex, et, ef⟩ := by
          unfold costE
          split
          · exact Nat.le_refl _
          · exact cost_pos _
        refine ⟨_, by omega, v3, v4, v5, ps ++ [sL o], r, rfl, rfl, (e1.trans e2).mut hp, ?_, ?_, fun e he => ((okr e he).ex e2).up (e2 _ _ G1p), ?_, ?_⟩
        · rw [upd_same, List.map_append]
          rfl
        · rw [upd_ne hpq.symm]
          exact e2 _ _ G1q
        · rw [← hout, ← ho, List.map_append, List.flatten_append, List.append_assoc]
          congr 1
          show (outE _ ++ []) ++ _ = _
          rw [List.append_nil]
        · rw [List.length_append]
          show ps.length + 1 + _ ≤ _
          omega
      have tx : TyX K G1 ex (.type (nameD et.d)) := ty_dp (dp_ex e1 he2)
      cases et with
      | txt z =>
        have hef : ef = false := by
          cases ef with
          | false => rfl
          | true => cases he4 rfl
        subst hef
        replace tx : TyX K G1 ex (.type "str") := tx
        cases he2
        have hz : z.cps.size ≤ 1000 := by cases ke <;> exact he3
        refine st_yes (ans_val (val_isi (b := true) (val_var rfl) tx (by decide +kernel))) ?_
        refine ⟨_, rfl, .inl ⟨rfl, _, SqL.of G1p⟩, _, rfl, z, rfl, hz, fun G2 e2 => ⟨p, _, _, rfl, rfl, e2 _ _ G1p, hps, ?_⟩⟩
        exact fin G2 _ _ _ _ e2 (by show wr false (.txt z) = escL z.cps.toList; rw [wr])
      | el nm cs =>
        replace tx : TyX K G1 ex (.type "tuple") := tx
        obtain ⟨a', l, ys, rfl, sx, sl, al⟩ := el_parts he2
        have hyl : ys.length = cs.length := by rw [dpa_len al, ds_map, List.length_map]
        obtain ⟨ke, rfl⟩ : ∃ k', ke = k' + 1 := by
          cases ke with
          | zero => exact he3.elim
          | succ k' => exact ⟨k', rfl⟩
        obtain ⟨hn, hcs⟩ := he3
        refine st_no (ans_val (val_isi (b := false) (val_var rfl) tx (by decide +kernel))) ?_
        have nmv : Val (tOp (rIxT K) (tVar 3) (tC (.int 0))) [some x, some (.ref p), some (.ref q), some (.ref a'), some (.bl ef), v5] G1 (.str nm) := val_ixT (val_var rfl) val_c (ex_t e1 sx) at_cons
        cases ef with
        | true =>
          refine st_yes (ans_val (val_var rfl)) ?_
          refine st_app G1p (val_var rfl) (val_fs3 nmv (l1 := [60, 47]) (l2 := [62]) (by decide +kernel) (by decide +kernel) (by simp only [List.length_cons, List.length_nil]; omega)) hps ?_
          exact fin G1 _ _ _ _ (Ex.refl _) rfl
        | false =>
          refine st_no (ans_val (val_var rfl)) ?_
          refine st_if (ans_not (b := !ys.isEmpty) fun Q q => (val_ixT (val_var rfl) val_c (ex_t e1 sx) at_one) _ ⟨_, .inl ⟨ys, ex_l e1 sl, rfl⟩, q⟩) (fun hy => ?_) (fun hy => ?_)
          · have h0 : cs = [] := by
              cases cs with
              | nil => rfl
              | cons c r =>
                cases ys with
                | nil => cases hyl
                | cons _ _ => cases hy
            subst h0
            refine st_app G1p (val_var rfl) (val_fs3 nmv (l1 := [60]) (l2 := [47, 62]) (by decide +kernel) (by decide +kernel) (by simp only [List.length_cons, List.length_nil]; omega)) hps ?_
            exact fin G1 _ _ _ _ (Ex.refl _) (by
              show wr false (.el nm []) = _
              rw [wr]
              rfl)
          · have hcs0 : cs.isEmpty = false := by
              cases cs with
              | nil =>
                cases ys with
                | nil => cases hy
                | cons _ _ => cases hyl
              | cons _ _ => rfl
            have hct : costE ⟨ea, .ref a', .el nm cs, false⟩ = 3 + costs cs := by
              show cost (.el nm cs) = _
              rw [cost]
            rw [hct] at hcost ⊢
            have hcl := len_costs cs
            refine st_seq (st_app G1p (val_var rfl) (val_fs3 nmv (l1 := [60]) (l2 := [62]) (by decide +kernel) (by decide +kernel) (by simp only [List.length_cons, List.length_nil]; omega)) hps ?_)
            have okr2 : ∀ e ∈ r, okE K H (upd G1 p (.lst (ps.map V.str ++ [V.str (sL ([60] ++ nm.cps.toList ++ [62]))]))) e := fun e he => (okr e he).up G1p
            have e2 : Ex H (upd G1 p (.lst (ps.map V.str ++ [V.str (sL ([60] ++ nm.cps.toList ++ [62]))]))) := e1.mut hp
            have G2p : upd G1 p (.lst (ps.map V.str ++ [V.str (sL ([60] ++ nm.cps.toList ++ [62]))])) p = some (.lst ((ps ++ [sL ([60] ++ nm.cps.toList ++ [62])]).map V.str)) := by
              rw [upd_same, List.map_append]
              rfl
            have G2q : upd G1 p (.lst (ps.map V.str ++ [V.str (sL ([60] ++ nm.cps.toList ++ [62]))])) q = some (.lst (List.map (fun e : Ent => V.ref e.a) r).reverse) := by
              rw [upd_ne hpq.symm]
              exact G1q
            generalize upd G1 p (.lst (ps.map V.str ++ [V.str (sL ([60] ++ nm.cps.toList ++ [62]))])) = G2 at okr2 e2 G2p G2q ⊢
            refine st_seq ⟨_, rfl, .inl ⟨rfl, _, SqL.of G2q⟩, _, rfl, by show 2 ≤ sizeLine; decide, fun b hb => ⟨q, _, _, rfl, rfl, by rw [upd_ne (ne_of_none G2q hb)]; exact G2q, sz_lt (by rw [List.length_reverse, List.length_map]; omega), ?_⟩⟩
            have nbq : b ≠ q := (ne_of_none G2q hb).symm
            have nbp : b ≠ p := (ne_of_none G2p hb).symm
            refine ⟨_, rfl, a', _, 1, _, rfl, rfl, ex_t (((e2.trans (Ex.new hb)).mut hqH)) sx, at_one, l, ys, rfl, ex_l (((e2.trans (Ex.new hb)).mut hqH)) sl, for_it walk_rev (fun i σ G => ∃ (v5 : Option V) (es : List Ent), σ = [some x, some (.ref p), some (.ref q), some (.ref a'), some (.bl false), v5] ∧ Ex H G ∧ G p = some (.lst ((ps ++ [sL ([60] ++ nm.cps.toList ++ [62])]).map V.str)) ∧ es.map Ent.t = cs.drop (cs.length - i) ∧ (∀ e ∈ es, e.f = false) ∧ G q = some (.lst (List.map (fun e : Ent => V.ref e.a) (es ++ ⟨b, .ref a', .el nm cs, true⟩ :: r)).reverse) ∧ ∀ e ∈ es ++ ⟨b, .ref a', .el nm cs, true⟩ :: r, okE K H G e) ⟨_, [], rfl, (e2.trans (Ex.new hb)).mut hqH, ?_, ?_, nofun, ?_, ?_⟩ (fun i σ G _ ⟨_, _, _, e, _⟩ => ex_l e sl) ?_ ?_⟩
            · rw [upd_ne hpq, upd_ne nbp.symm]
              exact G2p
            · rw [Nat.sub_zero, List.drop_length]
              rfl
            · rw [upd_same, List.nil_append, List.map_cons, List.reverse_cons]
            · intro e he
              have hbq : upd G2 b (.tup [V.ref a', .bl true]) q = some (.lst (List.map (fun e : Ent => V.ref e.a) r).reverse) := by
                rw [upd_ne nbq.symm]
                exact G2q
              rcases List.mem_cons.mp he with z | he
              · rw [z]
                exact okE.up ⟨upd_same, he2, ⟨ke + 1, hn, hcs⟩, fun _ => rfl⟩ hbq
              · exact ((okr2 e he).ex (Ex.new hb)).up hbq
            · rintro i y σ G G' hi ⟨v5, es, rfl, eG, hp3, hes, hesf, hq3, hok⟩ ⟨rfl, hy⟩
              obtain ⟨c, hc, hyc⟩ := dsAt al hy
              have hesl : es.length ≤ cs.length := by
                have := congrArg List.length hes
                rw [List.length_map, List.length_drop] at this
                omega
              refine ⟨_, rfl, .inl ⟨rfl, _, SqL.of hq3⟩, _, rfl, by show 2 ≤ sizeLine; decide, fun b2 hb2 => ⟨q, _, _, rfl, rfl, by rw [upd_ne (ne_of_none hq3 hb2)]; exact hq3, sz_lt (by rw [List.length_reverse, List.length_map, List.length_append, List.length_cons]; omega), ?_⟩⟩
              have n2q : b2 ≠ q := (ne_of_none hq3 hb2).symm
              have n2p : b2 ≠ p := (ne_of_none hp3 hb2).symm
              have hq4 : upd G' b2 (.tup [y, .bl false]) q = some (.lst (List.map (fun e : Ent => V.ref e.a) (es ++ ⟨b, .ref a', .el nm cs, true⟩ :: r)).reverse) := by
                rw [upd_ne n2q.symm]
                exact hq3
              refine ⟨_, ⟨b2, y, c, false⟩ :: es, rfl, (eG.trans (Ex.new hb2)).mut hqH, ?_, ?_, ?_, ?_, ?_⟩
              · rw [upd_ne hpq, upd_ne n2p.symm]
                exact hp3
              · rw [List.map_cons, hes]
                have hi' : i < cs.length := by omega
                have hlt : cs.length - (i + 1) < cs.length := by omega
                rw [List.drop_eq_getElem_cons hlt, show cs.length - (i + 1) + 1 = cs.length - i by omega]
                have : cs.length - (i + 1) = ys.length - 1 - i := by omega
                rw [← this, List.getElem?_eq_getElem hlt] at hc
                rw [Option.some.inj hc]
              · intro e he
                rcases List.mem_cons.mp he with z | he
                · rw [z]
                · exact hesf e he
              · rw [upd_same, List.cons_append, List.map_cons, List.reverse_cons]
              · intro e he
                rcases List.mem_cons.mp he with z | he
                · rw [z]
                  exact okE.up ⟨upd_same, hyc, ⟨ke, hcs c (List.mem_of_getElem? hc)⟩, nofun⟩ hq4
                · exact ((hok e he).ex (Ex.new hb2)).up hq4
            · rintro σ G ⟨v5, es, rfl, eG, hp3, hes, hesf, hq3, hok⟩
              rw [hyl, Nat.sub_self, List.drop_zero] at hes
              refine ⟨_, ?_, _, _, _, ps ++ [sL ([60] ++ nm.cps.toList ++ [62])], es ++ ⟨b, .ref a', .el nm cs, true⟩ :: r, rfl, rfl, eG, hp3, hq3, hok, ?_, ?_⟩
              · rw [List.map_append, List.sum_append, List.map_cons, List.sum_cons, es_cost hesf, hes]
                show costs cs + (1 + _) < _
                omega
              · rw [← hout, List.map_append, List.flatten_append, List.map_append, List.flatten_append, es_out hesf, hes]
                have ho : outE ⟨ea, .ref a', .el nm cs, false⟩ = [60] ++ nm.cps.toList ++ [62] ++ wrs false cs ++ [60, 47] ++ nm.cps.toList ++ [62] := by
                  show wr false (.el nm cs) = _
                  rw [wr, hcs0]
                  rfl
                rw [ho]
                have ho2 : outE ⟨b, .ref a', .el nm cs, true⟩ = [60, 47] ++ nm.cps.toList ++ [62] := rfl
                have ho3 : (List.map (fun z : Str => z.cps.toList) [sL ([60] ++ nm.cps.toList ++ [62])]).flatten = [60] ++ nm.cps.toList ++ [62] := by
                  show ([60] ++ nm.cps.toList ++ [62]) ++ [] = _
                  rw [List.append_nil]
                have ho4 : (List.map outE (⟨b, .ref a', .el nm cs, true⟩ :: r)).flatten = [60, 47] ++ nm.cps.toList ++ [62] ++ (List.map outE r).flatten := by rw [List.map_cons, List.flatten_cons, ho2]
                rw [ho4, ho3]
                simp only [List.append_assoc]
              · rw [List.length_append, List.map_append, List.sum_append, List.map_cons, List.sum_cons, es_cost hesf, hes]
                show ps.length + 1 + (costs cs + (1 + _)) ≤ _
                omega
end
/-! ### letters and signs -/
def spSign2 : Sp := fun vs H Q _ => ∃ c : Nat, vs = [.str (sL [c])] ∧ Q (.bl (sgB c)) H
def spLetter2 : Sp := fun vs H Q _ => ∃ c : Nat, vs = [.str (sL [c])] ∧ Q (.bl (letB c)) H
section
variable {P : Program} {w : World} {K : PySem.W.Frag} {mg : Str → Option Value} {base : Heap}
theorem chain_le {a b c : Nat} : (decide (a ≤ c) && decide (c ≤ b)) = (Nat.ble a c && Nat.ble c b) := by
  have e : ∀ x y : Nat, decide (x ≤ y) = Nat.ble x y := fun x y => by
    cases q : Nat.ble x y with
    | true => exact decide_eq_true (Nat.le_of_ble_eq_true q)
    | false => exact decide_eq_false fun z => by rw [Nat.ble_eq_true_of_le z] at q; cases q
  rw [e, e]
theorem ok_is_sign (T : TX K mg) : Can P w K mg base CX0 1 (He.fAd K at_is_sign) ps_is_sign [] spSign2 := mk_is_sign T fun fd F => def0 F sc_is_sign (fun vs H Q E h => by
  obtain ⟨c, rfl, _⟩ := h
  rfl) fun cdv A outer s H vs Q E hr h => by
  obtain ⟨c, rfl, k⟩ := h
  refine ⟨_, (pss_one (ps_ret (pe_or (pe_cmpR op_eq (pv 0) pe_str (nomark _)) (pe_one (pe_chain op_le_str op_le_str pe_str (pv 0) pe_str))))), ?_⟩
  refine go_ret ?_
  refine ⟨_, rfl, rfl, decide (c = 10), by
    by_cases e : c = 10
    · subst e
      rfl
    · rw [decide_eq_false e, decide_eq_false fun z => e (by
        have h1 : ("\n" : Str) = sL [10] := by decide +kernel
        have h2 := V.str.inj z
        rw [h1] at h2
        exact (List.cons.inj (sL_inj h2)).1)], ?_⟩
  unfold sgB at k
  by_cases e : c = 10
  · subst e
    rw [decide_eq_true rfl]
    exact iteT k
  · rw [decide_eq_false e]
    refine iteF (val_chS (a := 32) (b := 126) (val_var rfl) (by decide +kernel) (by decide +kernel) _ ?_)
    have : Nat.beq c 10 = false := by
      cases q : Nat.beq c 10 with
      | false => rfl
      | true => exact absurd (Nat.eq_of_beq_eq_true q) e
    rw [this, Bool.false_or] at k
    rw [chain_le]
    exact k
theorem ok_is_letter (T : TX K mg) : Can P w K mg base CX0 1 (He.fAd K at_is_letter) ps_is_letter [] spLetter2 := mk_is_letter T fun fd F => def0 F sc_is_letter (fun vs H Q E h => by
  obtain ⟨c, rfl, _⟩ := h
  rfl) fun cdv A outer s H vs Q E hr h => by
  obtain ⟨c, rfl, k⟩ := h
  refine ⟨_, (pss_one (ps_ret (pe_chain op_le_str op_le_str pe_str (pv 0) pe_str))), ?_⟩
  refine go_ret (val_chS (a := 97) (b := 122) (val_var rfl) (by decide +kernel) (by decide +kernel) _ ?_)
  rw [chain_le]
  exact k
end
/-! ### the program's reader, on every text -/
section
variable {P : Program} {w : World} {K : PySem.W.Frag} {mg : Str → Option Value} {base : Heap}
theorem ok_TextError_init (T : TX K mg) : Can P w K mg base CX0 1 (He.fAd K at_TextError_init) ps_TextError_init [] (spX3 K (He.ga K "TextError") "line" "column" "reason") := mk_TextError_init T fun fd F => def0 F sc_TextError_init (fun vs H Q E h => by
  obtain ⟨a, y, z, u, rfl, _⟩ := h
  rfl) fun cdv A outer s H vs Q E hr h => by
  obtain ⟨a, y, z, u, rfl, O, hf, hg, hh, ha, k⟩ := h
  refine ⟨_, (pss_cons (ps_ost (pv 0) (pv 1))
  (pss_cons (ps_ost (pv 0) (pv 2))
  (pss_one (ps_ost (pv 0) (pv 3))))), ?_⟩
  refine ⟨_, rfl, _, rfl, a, _, rfl, O, hf, .inl ⟨ha, fun dx n1 n2 => ⟨_, rfl, _, rfl, a, _, rfl, O, hg, .inr ⟨dx, _, upd_same, by rw [upd_ne n2, upd_same], by show 1 ≤ 900; decide, ⟨_, rfl, _, rfl, a, _, rfl, O, hh, .inr ⟨dx, _, by rw [upd_ne (Ne.symm n2), upd_same], upd_same, by show 2 ≤ 900; decide, ?_⟩⟩⟩⟩⟩⟩
  rw [upd_upd]
  exact k dx n1 n2
theorem ok_TooLarge_init (T : TX K mg) : Can P w K mg base CX0 1 (He.fAd K at_TooLarge_init) ps_TooLarge_init [] (spX1 K (He.ga K "TooLarge") "limit") := mk_TooLarge_init T fun fd F => def0 F sc_TooLarge_init (fun vs H Q E h => by
  obtain ⟨a, y, rfl, _⟩ := h
  rfl) fun cdv A outer s H vs Q E hr h => by
  obtain ⟨a, y, rfl, O, hno, ha, k⟩ := h
  refine ⟨_, (pss_one (ps_ost (pv 0) (pv 1))), ?_⟩
  exact ⟨_, rfl, _, rfl, a, _, rfl, O, hno, .inl ⟨ha, fun dx n1 n2 => k dx n1 n2⟩⟩
end
theorem szB {n : Nat} (h : n ≤ 200001) : n ≤ sizeLine := Nat.le_trans h (by decide)
/-- the reading at o: its text, where it is, how many nodes, the stack -/
def RdO (K : PySem.W.Frag) (H : Hp) (o : Addr) (z : Str) (i n : Nat) (st : Addr) : Prop := ∃ dx, H o = some (.ins (He.ga K "Reading") dx (flds_Reading (.str z) (.int (i : Int)) (.int (n : Int)) (.ref st)))
theorem RdO.on {K : PySem.W.Frag} {H : Hp} {o : Addr} {z : Str} {i n : Nat} {st : Addr} (h : RdO K H o z i n st) : H o ≠ none := by
  obtain ⟨dx, h⟩ := h
  rw [h]
  nofun
theorem RdO.ex {K : PySem.W.Frag} {H H' : Hp} {o : Addr} {z : Str} {i n : Nat} {st : Addr} (h : RdO K H o z i n st) (e : Ex H H') : RdO K H' o z i n st := h.imp fun _ g => e _ _ g
theorem RdO.kp {K : PySem.W.Frag} {S : List Addr} {H H' : Hp} {o : Addr} {z : Str} {i n : Nat} {st : Addr} (h : RdO K H o z i n st) (e : Kp S H H') (ho : o ∉ S) : RdO K H' o z i n st := h.imp fun _ g => e.at g ho
theorem pu_reached (a0 a1 a2 a3 x : V) : putF "reached" x (flds_Reading a0 a1 a2 a3) = flds_Reading a0 x a2 a3 := by
  show putF "reached" x [("source", a0), ("reached", a1), ("nodes", a2), ("stack", a3)] = _
  rw [putF, if_neg (by decide +kernel), putF, if_pos rfl]
theorem pu_nodes (a0 a1 a2 a3 x : V) : putF "nodes" x (flds_Reading a0 a1 a2 a3) = flds_Reading a0 a1 x a3 := by
  show putF "nodes" x [("source", a0), ("reached", a1), ("nodes", a2), ("stack", a3)] = _
  rw [putF, if_neg (by decide +kernel), putF, if_neg (by decide +kernel), putF, if_pos rfl]
theorem fn_len (a0 a1 a2 a3 : V) : (flds_Reading a0 a1 a2 a3).length < 1000 := by show 4 < 1000; decide
theorem ex_kp {S : List Addr} {H0 G G' : Hp} (e : Ex H0 G) (k : Kp S G G') (h : ∀ a ∈ S, H0 a = none) : Ex H0 G' := fun a o ha => k a o (fun z => by rw [h a z] at ha; cases ha) (e a o ha)
theorem ex_none {H0 H : Hp} {a : Addr} (e : Ex H0 H) (h : H a = none) : H0 a = none := by
  cases q : H0 a with
  | none => rfl
  | some u =>
    have := e _ _ q
    rw [h] at this
    cases this
/-- the line and the column of a place -/
def lineZ (z : Str) (i : Nat) : Int := Txt.countIn z "\n" 0 (i : Int) + 1
def colZ (z : Str) (i : Nat) : Int := (i : Int) - Txt.rfindIn z "\n" 0 (i : Int)
/-- a TextError of this place and reason is let out -/
def BadR (K : PySem.W.Frag) (H0 : Hp) (E : XK) (z : Str) (i : Nat) (r : Str) : Prop := ∀ (d : Addr) (H' : Hp), H0 d = none → Ex H0 H' → H' d = some (.xd [("reason", .str r), ("column", .int (colZ z i)), ("line", .int (lineZ z i))]) → E (.ref (He.ga K "TextError")) (some d) H'
def spBegins (K : PySem.W.Frag) : Sp := fun vs H Q _ => ∃ (o : Addr) (wd z : Str) (i n : Nat) (st : Addr) (l : List Nat), vs = [.ref o, .str wd] ∧ RdO K H o z i n st ∧ remS z i l ∧ Q (.bl (decide (l.take wd.cps.toList.length = wd.cps.toList))) H
def spRefuse (K : PySem.W.Frag) : Sp := fun vs H Q E => ∃ (H0 : Hp) (z : Str) (i : Nat) (l : List Nat) (r : Str), vs = [.str z, .int (i : Int), .str r] ∧ Ex H0 H ∧ remS z i l ∧ z.cps.size ≤ 200000 ∧ BadR K H0 E z i (why l r)
def spNext (K : PySem.W.Frag) : Sp := fun vs H Q E => ∃ (H0 : Hp) (o : Addr) (z : Str) (i n : Nat) (st : Addr) (l : List Nat), vs = [.ref o] ∧ RdO K H o z i n st ∧ remS z i l ∧ z.cps.size ≤ 200000 ∧ Ex H0 H ∧ (rdNext l = none → BadR K H0 E z i (why l "sign")) ∧
  ∀ (r : List Nat) (k s : Nat), rdNext l = some (r, k, s) → ∀ (p : Addr) (H' : Hp), H p = none → Ex H H' → H' p = some (.tup [.str (sL (l.take k)), .str (sL [s])]) → Q (.ref p) H'
def spCount (K : PySem.W.Frag) : Sp := fun vs H Q E => ∃ (H0 : Hp) (o : Addr) (z : Str) (i n : Nat) (st : Addr) (xs : List V) (l : List Nat), vs = [.ref o] ∧ RdO K H o z i n st ∧ remS z i l ∧ z.cps.size ≤ 200000 ∧ Ex H0 H ∧ SqL K H st xs ∧ xs.length ≤ 100 ∧
  (∀ y, cntR xs.length l n = some y → BadR K H0 E z i y) ∧ (cntR xs.length l n = none → ∀ H', RdO K H' o z i (n + 1) st → Kp [o] H H' → Q .non H')
def spTagEnd (K : PySem.W.Frag) : Sp := fun vs H Q E => ∃ (H0 : Hp) (o : Addr) (z : Str) (i n : Nat) (st : Addr) (l : List Nat), vs = [.ref o] ∧ RdO K H o z i n st ∧ remS z i l ∧ z.cps.size ≤ 200000 ∧ Ex H0 H ∧ (l.head? ≠ some 62 → BadR K H0 E z i (why l "tag")) ∧
  (l.head? = some 62 → ∀ H', RdO K H' o z (i + 1) n st → Kp [o] H H' → Q .non H')
def spName (K : PySem.W.Frag) : Sp := fun vs H Q E => ∃ (H0 : Hp) (o : Addr) (z : Str) (i n : Nat) (st : Addr) (a : Nat) (l : List Nat), vs = [.ref o, .int (a : Int)] ∧ RdO K H o z i n st ∧ remS z a l ∧ z.cps.size ≤ 200000 ∧ Ex H0 H ∧ (nameOk l = false → BadR K H0 E z a (why l "name")) ∧
  (nameOk l = true → ∀ H', RdO K H' o z (a + runL letB l) n st → Kp [o] H H' → Q (.str (sL (l.take (runL letB l)))) H')
def spText (K : PySem.W.Frag) : Sp := fun vs H Q E => ∃ (H0 : Hp) (o : Addr) (z : Str) (i n : Nat) (st t lp : Addr) (pre vs' : List V) (nv : V) (l : List Nat), vs = [.ref o] ∧ RdO K H o z i n st ∧ remS z i l ∧ z.cps.size ≤ 200000 ∧ Ex H0 H ∧ H0 o = none ∧
  H st = some (.lst (pre ++ [.ref t])) ∧ H t = some (.tup [nv, .ref lp]) ∧ H lp = some (.lst vs') ∧ vs'.length ≤ 10000 ∧ pre.length ≤ 60 ∧
  (∀ j r, rdText (pre.length + 1) (l.length + 1) [] l i n = .no j r → BadR K H0 E z j r) ∧
  ∀ y l' i' n', rdText (pre.length + 1) (l.length + 1) [] l i n = .ok y l' i' n' → remS z i' l' → ∀ H', RdO K H' o z i' n' st → H' lp = some (.lst (vs' ++ [.str (sL y)])) → Kp [o, lp] H H' → Q .non H'
def spBegin (K : PySem.W.Frag) : Sp := fun vs H Q E => ∃ (H0 : Hp) (o : Addr) (z : Str) (i n : Nat) (st t lp : Addr) (pre vs' : List V) (nv : V) (l : List Nat) (F : List Fram), vs = [.ref o] ∧ RdO K H o z i n st ∧ remS z i (60 :: l) ∧ z.cps.size ≤ 200000 ∧ Ex H0 H ∧ H0 o = none ∧ H0 st = none ∧ H0 lp = none ∧
  H st = some (.lst (pre ++ [.ref t])) ∧ H t = some (.tup [nv, .ref lp]) ∧ H lp = some (.lst vs') ∧ lp ≠ st ∧ vs'.length ≤ 10000 ∧ pre.length ≤ 60 ∧ F.length = pre.length + 1 ∧
  (∀ j r, rdBegin F (60 :: l) i n = .no j r → BadR K H0 E z j r) ∧
  ∀ (nm : Str) (b : Bool) (l' : List Nat) (i' : Nat), rdBegin F (60 :: l) i n = .ok (if b then addK F (.el nm []) else (nm, []) :: F) l' i' (n + 1) → n ≠ 5000 → pre.length < 60 → i < i' → remS z i' l' →
    ∀ (H' : Hp) (t' lq : Addr), H t' = none → H lq = none → t' ≠ lq → RdO K H' o z i' (n + 1) st → H' t' = some (.tup [.str nm, .ref lq]) → H' lq = some (.lst []) → H' lp = some (.lst (vs' ++ [.ref t'])) →
    H' st = some (.lst (if b then pre ++ [.ref t] else pre ++ [.ref t] ++ [.ref t'])) → Kp [o, lp, st] H H' → Q .non H'
def spEnd (K : PySem.W.Frag) : Sp := fun vs H Q E => ∃ (H0 : Hp) (o : Addr) (z : Str) (i n : Nat) (st t lp : Addr) (pre : List V) (l : List Nat) (F : List Fram), vs = [.ref o] ∧ RdO K H o z i n st ∧ remS z i (60 :: 47 :: l) ∧ z.cps.size ≤ 200000 ∧ Ex H0 H ∧ H0 o = none ∧
  H st = some (.lst (pre ++ [.ref t])) ∧ H t = some (.tup [.str (topN F), .ref lp]) ∧
  (∀ j r, rdEnd F (60 :: 47 :: l) i n = .no j r → BadR K H0 E z j r) ∧
  ∀ l' i', rdEnd F (60 :: 47 :: l) i n = .ok (popK F) l' i' n → i < i' → remS z i' l' → ∀ H', RdO K H' o z i' n st → H' st = some (.lst pre) → Kp [o, st] H H' → Q .non H'
def spPart (K : PySem.W.Frag) : Sp := fun vs H Q E => ∃ (o : Addr) (z : Str) (i n : Nat) (st : Addr) (l : List Nat), vs = [.ref o] ∧ RdO K H o z i n st ∧ remS z i l ∧ (l.take 2 = [60, 47] → spEnd K vs H Q E) ∧ (l.take 2 ≠ [60, 47] → l.head? = some 60 → spBegin K vs H Q E) ∧ (l.take 2 ≠ [60, 47] → l.head? ≠ some 60 → spText K vs H Q E)
def spRoot (K : PySem.W.Frag) : Sp := fun vs H Q E => ∃ (H0 : Hp) (o : Addr) (z : Str) (i n : Nat) (st : Addr) (l : List Nat), vs = [.ref o] ∧ RdO K H o z i n st ∧ remS z i l ∧ z.cps.size ≤ 200000 ∧ Ex H0 H ∧ (l.head? = some 60 → spBegin K vs H Q E) ∧ (l.head? ≠ some 60 → BadR K H0 E z i (why l "element"))
def spInit (K : PySem.W.Frag) : Sp := fun vs H Q _ => ∃ (o dx : Addr) (z : Str), vs = [.ref o, .str z] ∧ H o = some (.ins (He.ga K "Reading") dx []) ∧
  ∀ (H' : Hp) (st t l : Addr), H st = none → H t = none → H l = none → st ≠ t → st ≠ l → t ≠ l → RdO K H' o z 0 0 st → H' st = some (.lst [.ref t]) → H' t = some (.tup [.str "", .ref l]) → H' l = some (.lst []) → Kp [o] H H' → Q .non H'
section
variable {P : Program} {w : World} {K : PySem.W.Frag} {mg : Str → Option Value} {base : Heap}
theorem rd_fld (T : TX K mg) {σ : L2.St} {H : Hp} {o : Addr} {z : Str} {i n : Nat} {st : Addr} (h : RdO K H o z i n st) (hσ : σ[0]? = some (some (.ref o))) :
    Val (tFld K (tVar 0) "source") σ H (.str z) ∧ Val (tFld K (tVar 0) "reached") σ H (.int (i : Int)) ∧ Val (tFld K (tVar 0) "nodes") σ H (.int (n : Int)) ∧ Val (tFld K (tVar 0) "stack") σ H (.ref st) := by
  obtain ⟨dx, h⟩ := h
  exact ⟨fun Q q => ⟨_, hσ, o, _, dx, _, _, rfl, h, T.cl_Reading, T.na_Reading_source, fl_Reading_source .., q⟩, fun Q q => ⟨_, hσ, o, _, dx, _, _, rfl, h, T.cl_Reading, T.na_Reading_reached, fl_Reading_reached .., q⟩,
    fun Q q => ⟨_, hσ, o, _, dx, _, _, rfl, h, T.cl_Reading, T.na_Reading_nodes, fl_Reading_nodes .., q⟩, fun Q q => ⟨_, hσ, o, _, dx, _, _, rfl, h, T.cl_Reading, T.na_Reading_stack, fl_Reading_stack .., q⟩⟩
theorem ok__refuse (T : TX K mg) : Can P w K mg base (L2.CX P w) 4 (He.fAd K at__refuse) ps__refuse [] (spRefuse K) := by
  obtain ⟨fd_is_sign, G_is_sign, ds_is_sign, v_is_sign, b_is_sign⟩ := ok_is_sign (P := P) (w := w) (base := base) T
  obtain ⟨fd_TextError_init, G_TextError_init, ds_TextError_init, v_TextError_init, b_TextError_init⟩ := ok_TextError_init (P := P) (w := w) (base := base) T
  exact mk__refuse T fun fd F => defX F sc__refuse (fun vs H Q E h => by
    obtain ⟨H0, z, i, l, r, rfl, _⟩ := h
    rfl) fun cdv A outer s H vs Q E hr h => by
    obtain ⟨H0, z, i, l, r, rfl, hx, hl, hz, k⟩ := h
    refine ⟨_, (Evl.pss_cut (ps_if (pt_cmpR op_eq (pv 1) (pe_callB call_len_str (by rfl) T.n_len PySem.boot_len (pa_cons (pv 0) pa_nil)) (nomark _)) (pss_one (ps_set (i := 2) sc__refuse.nd rfl (Or.inl rfl) pe_str)) (pss_one (ps_if (pt_not (pt_val (pe_call G_is_sign (hr.mono (by first | decide | omega)) rfl T.g_is_sign T.k_is_sign b_is_sign v_is_sign pass0 (pa_cons (pe_ix ix_str (pv 0) (pv 1) (fun _ _ => rfl)) pa_nil)))) (pss_one (ps_set (i := 2) sc__refuse.nd rfl (Or.inl rfl) pe_str)) pss_nil)))
  (pss_cons (ps_set (i := 3) sc__refuse.nd rfl (Or.inl rfl) (pe_op op_add (eBm K rfl PySem.F.plainAttrs_str PySem.F.slot_str_count PySem.F.type_str_count mt_count4 (pv 0) (pa_cons pe_str (pa_cons pe_int (pa_cons (pv 1) pa_nil)))) pe_int))
  (pss_cons (ps_set (i := 4) sc__refuse.nd rfl (Or.inl rfl) (pe_op op_sub (pv 1) (eBm K rfl PySem.F.plainAttrs_str PySem.F.slot_str_rfind PySem.F.type_str_rfind mt_rfind4 (pv 0) (pa_cons pe_str (pa_cons pe_int (pa_cons (pv 1) pa_nil))))))
  (pss_one (ps_raise rfl (takes_of rfl rfl rfl rfl) (pmk_oex T.ox_TextError T.oi_TextError T.ot_TextError G_TextError_init (hr.mono (by first | decide | omega)) b_TextError_init v_TextError_init pass0 rfl T.g_TextError (pa_cons (pv 3) (pa_cons (pv 4) (pa_cons (pv 2) pa_nil))))))))), ?_⟩
    have hlen := hl.len
    have hzl : z.length = z.cps.size := rfl
    refine ⟨fun σ' G => σ' = [some (.str z), some (.int (i : Int)), some (.str (why l r)), none, none] ∧ G = H, ?_, ?_⟩
    · refine st_if (b := decide (l = [])) (ans_v (val_is (val_eq (val_var rfl) (val_cb (va_one (val_var rfl)) fun Q q => ⟨z, rfl, szB (Nat.le_succ_of_le hz), q⟩) rfl) (by
        congr 1
        rw [decide_eq_decide]
        exact ⟨fun h => by
          have := V.int.inj h
          exact List.eq_nil_of_length_eq_zero (by omega), fun h => by
          subst h
          rw [List.length_nil] at hlen
          congr 1
          omega⟩))) (fun hb => ?_) (fun hb => ?_)
      · obtain rfl := of_decide_eq_true hb
        exact go_asg ⟨rfl, rfl⟩
      · obtain ⟨c, r', rfl⟩ : ∃ c r', l = c :: r' := by
          cases l with
          | nil => cases hb
          | cons c r' => exact ⟨_, _, rfl⟩
        have chV : Val (tOp rIxS (tVar 0) (tVar 1)) [some (.str z), some (.int (i : Int)), some (.str r), none, none] H (.str (sL [c])) := val_op (val_var rfl) (val_var rfl) fun Q q => ⟨z, i, c, rfl, rfl, szB (Nat.le_succ_of_le hz), atI_nat hl.ne.2, q⟩
        refine st_if (b := !sgB c) (ans_not (ans_val (val_call (va_one chV) fun Q q => ⟨c, rfl, q⟩))) (fun hb => ?_) (fun hb => ?_)
        · have hs : sgB c = false := by cases q : sgB c with | false => rfl | true => rw [q] at hb; cases hb
          refine go_asg ⟨?_, rfl⟩
          show _ = [_, _, some (V.str (bif sgB c then r else "character")), _, _]
          rw [hs]
          rfl
        · have hs : sgB c = true := by cases q : sgB c with | true => rfl | false => rw [q] at hb; cases hb
          refine ⟨?_, rfl⟩
          show _ = [_, _, some (V.str (bif sgB c then r else "character")), _, _]
          rw [hs]
          rfl
    · rintro σ' G ⟨rfl, rfl⟩
      refine st_seq (go_asg (val_I (i := Txt.countIn z "\n" 0 (i : Int)) (fun Q q => ⟨_, rfl, rfl, _, rfl, z, "\n", 0, i, rfl, rfl, q⟩) val_c _ ?_))
      dsimp only [gName]
      refine st_seq (go_asg (val_I (j := Txt.rfindIn z "\n" 0 (i : Int)) (val_var rfl) (fun Q q => ⟨_, rfl, rfl, _, rfl, z, "\n", 0, i, rfl, rfl, q⟩) _ ?_))
      dsimp only [gName]
      refine st_raise3 (W := fun cls d _ H => E cls d H) T.ox_TextError T.na_TextError_line T.na_TextError_column T.na_TextError_reason (val_var rfl) (val_var rfl) (val_var rfl) fun d hd => ?_
      exact k d _ (ex_none hx hd) (hx.trans (Ex.new hd)) upd_same
/-- _refuse(text, place, reason) -/
theorem rd_refuse {D : Ends} {σ : L2.St} {H H0 : Hp} {E : XK} {ta tb : TE} {z r : Str} {i : Nat} {l : List Nat} (h1 : Val ta σ H (.str z)) (h2 : Val tb σ H (.int (i : Int))) (hx : Ex H0 H) (hl : remS z i l) (hz : z.cps.size ≤ 200000) (hb : BadR K H0 E z i (why l r)) :
    tDrop (tCall (spRefuse K) [] E (tCons ta (tCons tb (tCons (tC (.str r)) tNil)))) D σ H := h1 _ (h2 _ ⟨H0, z, i, l, r, rfl, hx, hl, hz, hb⟩)
theorem ok_Reading_begins (T : TX K mg) : Can P w K mg base CX0 1 (He.fAd K at_Reading_begins) ps_Reading_begins [] (spBegins K) := mk_Reading_begins T fun fd F => def0 F sc_Reading_begins (fun vs H Q E h => by
  obtain ⟨o, wd, z, i, n, st, l, rfl, _⟩ := h
  rfl) fun cdv A outer s H vs Q E hr h => by
  obtain ⟨o, wd, z, i, n, st, l, rfl, R, hl, k⟩ := h
  refine ⟨_, (pss_one (ps_ret (eBm K rfl PySem.F.plainAttrs_str PySem.F.slot_str_startswith PySem.F.type_str_startswith mt_startswith3 (eFld K rfl (pv 0) rfl) (pa_cons (pv 1) (pa_cons (eFld K rfl (pv 0) rfl) pa_nil))))), ?_⟩
  obtain ⟨f1, f2, _, _⟩ := rd_fld (K := K) (mg := mg) T R (σ := [some (.ref o), some (.str wd)]) rfl
  refine go_ret (f1 _ ⟨rfl, _, rfl, f2 _ ⟨z, wd, i, rfl, rfl, ?_⟩⟩)
  rw [sw3 hl]
  exact k
theorem rd_begins {σ : L2.St} {H : Hp} {o : Addr} {z wd : Str} {i n : Nat} {st : Addr} {l : List Nat} {te : TE} (R : RdO K H o z i n st) (hl : remS z i l) (hσ : σ[0]? = some (some (.ref o))) (h : Val te σ H (.str wd)) {Q : VK}
    (q : Q (.bl (decide (l.take wd.cps.toList.length = wd.cps.toList))) H) : tMeth (He.ga K "Reading") "begins" (spBegins K) [] E0 (tVar 0) (tCons te tNil) σ H Q := by
  obtain ⟨dx, hR⟩ := R
  exact ⟨_, hσ, o, dx, _, rfl, hR, fn_Reading_begins .., h _ ⟨o, wd, z, i, n, st, l, rfl, ⟨dx, hR⟩, hl, q⟩⟩
theorem take_one (l : List Nat) (c : Nat) : decide (l.take 1 = [c]) = decide (l.head? = some c) := by
  cases l with
  | nil => rfl
  | cons d r =>
    show decide ([d] = [c]) = decide (some d = some c)
    rw [decide_eq_decide]
    exact ⟨fun h => by cases h; rfl, fun h => by cases h; rfl⟩
/-- self.begins('c') -/
theorem rd_begin1 {σ : L2.St} {H : Hp} {o : Addr} {z wd : Str} {i n c : Nat} {st : Addr} {l : List Nat} (R : RdO K H o z i n st) (hl : remS z i l) (hσ : σ[0]? = some (some (.ref o))) (hw : wd.cps.toList = [c]) :
    Val (tMeth (He.ga K "Reading") "begins" (spBegins K) [] E0 (tVar 0) (tCons (tC (.str wd)) tNil)) σ H (.bl (decide (l.head? = some c))) := fun Q q => by
  refine rd_begins (K := K) R hl hσ val_c ?_
  rw [hw, show ([c] : List Nat).length = 1 from rfl, take_one]
  exact q
def signW : List (List Str) := [["&lt;", "<"], ["&gt;", ">"], ["&amp;", "&"]]
theorem w_lt : ("&lt;" : Str).cps.toList = [38, 108, 116, 59] := by decide +kernel
theorem w_gt : ("&gt;" : Str).cps.toList = [38, 103, 116, 59] := by decide +kernel
theorem w_amp : ("&amp;" : Str).cps.toList = [38, 97, 109, 112, 59] := by decide +kernel
/-- the j-th written sign does not stand here -/
def notW (l : List Nat) (j : Nat) : Prop := match j with
  | 0 => l.take 4 ≠ [38, 108, 116, 59]
  | 1 => l.take 4 ≠ [38, 103, 116, 59]
  | 2 => l.take 5 ≠ [38, 97, 109, 112, 59]
  | _ => True
theorem signW_at {l : List Nat} {j : Nat} {zs : List Str} (h : signW[j]? = some zs) : ∃ (k s : Nat) (wd sg : Str), zs = [wd, sg] ∧ sg = sL [s] ∧ wd.cps.toList.length = k ∧ (l.take k = wd.cps.toList → (∀ m < j, notW l m) → rdNext l = some (l.drop k, k, s)) ∧ (l.take k ≠ wd.cps.toList → notW l j) := by
  match j, h with
  | 0, h =>
    cases h
    refine ⟨4, 60, _, _, rfl, by decide +kernel, by rw [w_lt]; rfl, fun e _ => ?_, fun e => by rw [w_lt] at e; exact e⟩
    rw [w_lt] at e
    unfold rdNext
    rw [if_pos e]
  | 1, h =>
    cases h
    refine ⟨4, 62, _, _, rfl, by decide +kernel, by rw [w_gt]; rfl, fun e no => ?_, fun e => by rw [w_gt] at e; exact e⟩
    rw [w_gt] at e
    unfold rdNext
    rw [if_neg (no 0 (by decide)), if_pos e]
  | 2, h =>
    cases h
    refine ⟨5, 38, _, _, rfl, by decide +kernel, by rw [w_amp]; rfl, fun e no => ?_, fun e => by rw [w_amp] at e; exact e⟩
    rw [w_amp] at e
    unfold rdNext
    rw [if_neg (no 0 (by decide)), if_neg (no 1 (by decide)), if_pos e]
  | n + 3, h => cases h
theorem rdNext_one {l : List Nat} (no : ∀ m < 3, notW l m) : rdNext l = match l with
    | [] => none
    | c :: r => bif sgB c && !(Nat.beq c 38) && !(Nat.beq c 62) then some (r, 1, c) else none := by
  unfold rdNext
  rw [if_neg (no 0 (by decide)), if_neg (no 1 (by decide)), if_neg (no 2 (by decide))]
  cases l <;> rfl
theorem ok_Reading_next_sign (T : TX K mg) : Can P w K mg base (L2.CX P w) 5 (He.fAd K at_Reading_next_sign) ps_Reading_next_sign [] (spNext K) := by
  obtain ⟨fd_Reading_begins, G_Reading_begins, ds_Reading_begins, v_Reading_begins, b_Reading_begins⟩ := ok_Reading_begins (P := P) (w := w) (base := base) T
  obtain ⟨fd_is_sign, G_is_sign, ds_is_sign, v_is_sign, b_is_sign⟩ := ok_is_sign (P := P) (w := w) (base := base) T
  obtain ⟨fd__refuse, G__refuse, ds__refuse, v__refuse, b__refuse⟩ := ok__refuse (P := P) (w := w) (base := base) T
  exact mk_Reading_next_sign T fun fd F => defX F sc_Reading_next_sign (fun vs H Q E h => by
    obtain ⟨H0, o, z, i, n, st, l, rfl, _⟩ := h
    rfl) fun cdv A outer s H vs Q E hr h => by
    obtain ⟨H0, o, z, i, n, st, l, rfl, R, hl, hz, hx, kno, kok⟩ := h
    refine ⟨_, (pss_cons (ps_for (passes_of rfl) rfl (iTpl K rfl (pe_glob (v := .ref (He.ga K "WRITTEN_SIGNS")) rfl T.g_WRITTEN_SIGNS rfl)) (pg_tup rfl (pgs_cons (pg_name (i := 1) sc_Reading_next_sign.nd rfl (Or.inl rfl)) (pgs_cons (pg_name (i := 2) sc_Reading_next_sign.nd rfl (Or.inl rfl)) pgs_nil)))
  (pss_one (ps_if (pt_val (pe_meth (pv 0) T.cl_Reading T.me_Reading_begins G_Reading_begins (hr.mono (by first | decide | omega)) b_Reading_begins v_Reading_begins pass0 (pa_cons (pv 1) pa_nil))) (pss_one (ps_ret (pe_tup (pa_cons (pv 1) (pa_cons (pv 2) pa_nil))))) pss_nil)))
  (pss_cons (ps_set (i := 3) sc_Reading_next_sign.nd rfl (Or.inl rfl) (eFld K rfl (pv 0) rfl))
  (pss_cons (ps_if (PW.pt (pw_or (pt_cmpR op_eq (pv 3) (pe_callB call_len_str (by rfl) T.n_len PySem.boot_len (pa_cons (eFld K rfl (pv 0) rfl) pa_nil)) (nomark _)) (pw_or (pt_not (pt_val (pe_call G_is_sign (hr.mono (by first | decide | omega)) rfl T.g_is_sign T.k_is_sign b_is_sign v_is_sign pass0 (pa_cons (pe_ix ix_str (eFld K rfl (pv 0) rfl) (pv 3) (fun _ _ => rfl)) pa_nil)))) (pw_or1 (pt_cmpR op_in_str (pe_ix ix_str (eFld K rfl (pv 0) rfl) (pv 3) (fun _ _ => rfl)) pe_str (by rfl)))))) (pss_one (ps_expr (pe_call G__refuse (hr.mono (by first | decide | omega)) rfl T.g__refuse T.k__refuse b__refuse v__refuse (passes_call (takes_of rfl rfl rfl rfl) (fun _ _ _ _ h => h)) (pa_cons (eFld K rfl (pv 0) rfl) (pa_cons (pv 3) (pa_cons pe_str pa_nil)))))) pss_nil)
  (pss_one (ps_ret (pe_tup (pa_cons (pe_ix ix_str (eFld K rfl (pv 0) rfl) (pv 3) (fun _ _ => rfl)) (pa_cons (pe_ix ix_str (eFld K rfl (pv 0) rfl) (pv 3) (fun _ _ => rfl)) pa_nil)))))))), ?_⟩
    have hlen := hl.len
    have hzl : z.length = z.cps.size := rfl
    obtain ⟨as, ha1, ha2, ha3⟩ := T.tu_WRITTEN_SIGNS
    refine st_seq ⟨_, rfl, ⟨_, ha2 H⟩, for_it (walk_tup (K := K)) (fun j σ G => ∃ v1 v2 : Option V, σ = [some (.ref o), v1, v2, none] ∧ G = H ∧ ∀ m < j, notW l m) ⟨_, _, rfl, rfl, fun m hm => by omega⟩ (fun j σ G _ _ => ha2 G) ?_ ?_⟩
    · rintro j y σ G G' hj ⟨v1, v2, rfl, rfl, hno⟩ ⟨rfl, hy⟩
      have hj' : j < as.length := by rw [List.length_map] at hj; exact hj
      rw [List.getElem?_map, List.getElem?_eq_getElem hj'] at hy
      obtain rfl := Option.some.inj hy
      have hj3 : j < signW.length := by rw [ha1] at hj'; exact hj'
      obtain ⟨k, s0, wd, sg, hzs, hsg, hk, hyes, hnot⟩ := signW_at (l := l) (List.getElem?_eq_getElem hj3)
      have hb : SqT K G' as[j] ([wd, sg].map V.str) := ha3 j _ _ (List.getElem?_eq_getElem hj') (by rw [← hzs]; exact List.getElem?_eq_getElem hj3) G'
      refine ⟨_, _, rfl, hb, rfl, _, _, rfl, _, _, rfl, rfl, ?_⟩
      refine rd_begins (K := K) R hl rfl (val_var rfl) ⟨_, rfl, ?_⟩
      rw [hk]
      by_cases e : l.take k = wd.cps.toList
      · rw [decide_eq_true e]
        have hwd : wd = sL (l.take k) := sL_ext e.symm
        subst hsg
        refine iteT ⟨_, rfl, _, rfl, by show 2 ≤ sizeLine; decide, fun p hp => kok _ _ _ (hyes e hno) p _ hp (Ex.new hp) (by rw [← hwd]; exact upd_same)⟩
      · rw [decide_eq_false e]
        refine iteF ⟨_, _, rfl, rfl, fun m hm => ?_⟩
        by_cases hmj : m < j
        · exact hno m hmj
        · obtain rfl : m = j := by omega
          exact hnot e
    · rintro σ G ⟨v1, v2, rfl, rfl, hno⟩
      rw [List.length_map, ha1] at hno
      have hN := rdNext_one hno
      have f := fun (σ : L2.St) (hσ : σ[0]? = some (some (.ref o))) => rd_fld (K := K) T R hσ
      dsimp only
      refine st_seq (go_asg ((f _ rfl).2.1 _ ?_))
      dsimp only [gName]
      have vEnd : Ans (tTest (tOp rEq (tVar 3) (tCB (fun xs H Q => ∃ z, xs = [V.str z] ∧ z.length ≤ sizeLine ∧ Q (V.int (z.length : Int)) H) (tCons (tFld K (tVar 0) "source") tNil)))) [some (.ref o), v1, v2, some (.int (i : Int))] G (decide (l = [])) := ans_v (val_is (val_eq (val_var rfl) (val_cb (va_one (f _ rfl).1) fun Q q => ⟨z, rfl, szB (by omega), q⟩) rfl) (by
        congr 1
        rw [decide_eq_decide]
        exact ⟨fun h => by
          have := V.int.inj h
          exact List.eq_nil_of_length_eq_zero (by omega), fun h => by
          subst h
          rw [List.length_nil] at hlen
          congr 1
          omega⟩))
      cases l with
      | nil =>
        refine st_seq (st_if (ans_or1 vEnd) (fun _ => ?_) nofun)
        exact rd_refuse (f _ rfl).1 (val_var rfl) hx hl hz (kno hN)
      | cons c r =>
        have hne := hl.ne
        have chV : ∀ {σ : L2.St}, σ[0]? = some (some (.ref o)) → σ[3]? = some (some (.int (i : Int))) → Val (tOp rIxS (tFld K (tVar 0) "source") (tVar 3)) σ G (.str (sL [c])) := fun h0 h3 => val_op (f _ h0).1 (val_var h3) fun Q q => ⟨z, i, c, rfl, rfl, szB (by omega), atI_nat hne.2, q⟩
        have hin : (!(Builtin.Str.occurrences "&>" (sL [c]) 0 (("&>" : Str)).length 1).isEmpty) = (Nat.beq c 38 || Nat.beq c 62) := by
          have := StrLaws.found_one "&>" c
          rw [show ("&>" : Str).cps.toList = [38, 62] by decide +kernel] at this
          have e1 : (!(Builtin.Str.occurrences "&>" (sL [c]) 0 (("&>" : Str)).length 1).isEmpty) = decide (c ∈ [38, 62]) := this
          rw [e1]
          have e2 : ∀ x : Nat, Nat.beq c x = decide (c = x) := fun x => by
            cases q : Nat.beq c x with
            | true => exact (decide_eq_true (Nat.eq_of_beq_eq_true q)).symm
            | false => exact (decide_eq_false fun e => by rw [e, Nat.beq_refl] at q; cases q).symm
          rw [e2, e2, ← Bool.decide_or, decide_eq_decide]
          simp
        refine st_seq (st_if (b := decide (c :: r = []) || (!sgB c || (Nat.beq c 38 || Nat.beq c 62))) (ans_or2 vEnd fun _ => ans_or2 (ans_not (ans_val (val_call (va_one (chV rfl rfl)) fun Q q => ⟨c, rfl, q⟩))) fun _ => ans_v (val_is (val_op (chV rfl rfl) val_c fun Q q => ⟨_, _, rfl, rfl, q⟩) (by rw [hin]))) (fun hb => ?_) (fun hb => ?_))
        · refine rd_refuse (f _ rfl).1 (val_var rfl) hx hl hz (kno ?_)
          rw [hN]
          have : (sgB c && !(Nat.beq c 38) && !(Nat.beq c 62)) = false := by
            rw [show decide (c :: r = []) = false from rfl] at hb
            revert hb
            cases sgB c <;> cases Nat.beq c 38 <;> cases Nat.beq c 62 <;> decide
          show (bif (sgB c && !(Nat.beq c 38) && !(Nat.beq c 62)) then some (r, 1, c) else none) = none
          rw [this]
          rfl
        · have : (sgB c && !(Nat.beq c 38) && !(Nat.beq c 62)) = true := by
            rw [show decide (c :: r = []) = false from rfl] at hb
            revert hb
            cases sgB c <;> cases Nat.beq c 38 <;> cases Nat.beq c 62 <;> decide
          have hN2 : rdNext (c :: r) = some (r, 1, c) := by
            rw [hN]
            show (bif (sgB c && !(Nat.beq c 38) && !(Nat.beq c 62)) then some (r, 1, c) else none) = _
            rw [this]
            rfl
          exact (chV rfl rfl) _ ((chV rfl rfl) _ ⟨by show 2 ≤ sizeLine; decide, fun p hp => kok _ _ _ hN2 p _ hp (Ex.new hp) upd_same⟩)
theorem ok_Reading_count_node (T : TX K mg) : Can P w K mg base (L2.CX P w) 5 (He.fAd K at_Reading_count_node) ps_Reading_count_node [] (spCount K) := by
  obtain ⟨fd__refuse, G__refuse, ds__refuse, v__refuse, b__refuse⟩ := ok__refuse (P := P) (w := w) (base := base) T
  exact mk_Reading_count_node T fun fd F => defX F sc_Reading_count_node (fun vs H Q E h => by
    obtain ⟨H0, o, z, i, n, st, xs, l, rfl, _⟩ := h
    rfl) fun cdv A outer s H vs Q E hr h => by
    obtain ⟨H0, o, z, i, n, st, xs, l, rfl, R, hl, hz, hx, hxs, h100, kno, kok⟩ := h
    refine ⟨_, (pss_cons (ps_if (pt_cmpR op_gt (pe_callB (cLen K rfl) (by rfl) T.n_len PySem.boot_len (pa_cons (eFld K rfl (pv 0) rfl) pa_nil)) (pe_glob (v := .int 60) rfl T.c_MOST_DEPTH.choose_spec ⟨_, rfl⟩) (nomark _)) (pss_one (ps_expr (pe_call G__refuse (hr.mono (by first | decide | omega)) rfl T.g__refuse T.k__refuse b__refuse v__refuse (passes_call (takes_of rfl rfl rfl rfl) (fun _ _ _ _ h => h)) (pa_cons (eFld K rfl (pv 0) rfl) (pa_cons (eFld K rfl (pv 0) rfl) (pa_cons pe_str pa_nil)))))) pss_nil)
  (pss_cons (ps_if (pt_cmpR op_eq (eFld K rfl (pv 0) rfl) (pe_glob (v := .int 5000) rfl T.c_MOST_NODES.choose_spec ⟨_, rfl⟩) (nomark _)) (pss_one (ps_expr (pe_call G__refuse (hr.mono (by first | decide | omega)) rfl T.g__refuse T.k__refuse b__refuse v__refuse (passes_call (takes_of rfl rfl rfl rfl) (fun _ _ _ _ h => h)) (pa_cons (eFld K rfl (pv 0) rfl) (pa_cons (eFld K rfl (pv 0) rfl) (pa_cons pe_str pa_nil)))))) pss_nil)
  (pss_one (sFdAug K rfl in_add (pv 0) pe_int)))), ?_⟩
    obtain ⟨f1, f2, f3, f4⟩ := rd_fld (K := K) (mg := mg) T R (σ := [some (.ref o)]) rfl
    unfold cntR at kno kok
    refine st_seq (st_if (b := decide (60 < xs.length)) (ans_v (val_is (val_I (val_lenL f4 hxs) val_c) (by
      congr 1
      rw [decide_eq_decide]
      omega))) (fun hb => ?_) (fun hb => ?_))
    · rw [if_pos (of_decide_eq_true hb)] at kno
      exact rd_refuse f1 f2 hx hl hz (kno _ rfl)
    rw [if_neg (of_decide_eq_false hb)] at kno kok
    dsimp only [tNext]
    refine st_seq (st_if (b := decide (n = 5000)) (ans_v (val_is (val_eq f3 val_c rfl) (by
      congr 1
      rw [decide_eq_decide]
      exact ⟨fun e => by have := V.int.inj e; omega, fun e => by rw [e]; rfl⟩))) (fun hb => ?_) (fun hb => ?_))
    · rw [if_pos (of_decide_eq_true hb)] at kno
      exact rd_refuse f1 f2 hx hl hz (kno _ rfl)
    rw [if_neg (of_decide_eq_false hb)] at kok
    dsimp only [tNext]
    obtain ⟨dx, hR⟩ := R
    refine ⟨_, rfl, o, _, dx, _, _, rfl, hR, T.cl_Reading, T.na_Reading_nodes, fl_Reading_nodes .., _, _, rfl, rfl, dx, _, hR, fn_len .., ?_⟩
    rw [pu_nodes]
    exact kok rfl _ ⟨dx, upd_same⟩ Kp.up
theorem ok_Reading_read_tag_end (T : TX K mg) : Can P w K mg base (L2.CX P w) 5 (He.fAd K at_Reading_read_tag_end) ps_Reading_read_tag_end [] (spTagEnd K) := by
  obtain ⟨fd_Reading_begins, G_Reading_begins, ds_Reading_begins, v_Reading_begins, b_Reading_begins⟩ := ok_Reading_begins (P := P) (w := w) (base := base) T
  obtain ⟨fd__refuse, G__refuse, ds__refuse, v__refuse, b__refuse⟩ := ok__refuse (P := P) (w := w) (base := base) T
  exact mk_Reading_read_tag_end T fun fd F => defX F sc_Reading_read_tag_end (fun vs H Q E h => by
    obtain ⟨H0, o, z, i, n, st, l, rfl, _⟩ := h
    rfl) fun cdv A outer s H vs Q E hr h => by
    obtain ⟨H0, o, z, i, n, st, l, rfl, R, hl, hz, hx, kno, kok⟩ := h
    refine ⟨_, (pss_cons (ps_if (pt_not (pt_val (pe_meth (pv 0) T.cl_Reading T.me_Reading_begins G_Reading_begins (hr.mono (by first | decide | omega)) b_Reading_begins v_Reading_begins pass0 (pa_cons pe_str pa_nil)))) (pss_one (ps_expr (pe_call G__refuse (hr.mono (by first | decide | omega)) rfl T.g__refuse T.k__refuse b__refuse v__refuse (passes_call (takes_of rfl rfl rfl rfl) (fun _ _ _ _ h => h)) (pa_cons (eFld K rfl (pv 0) rfl) (pa_cons (eFld K rfl (pv 0) rfl) (pa_cons pe_str pa_nil)))))) pss_nil)
  (pss_one (sFdAug K rfl in_add (pv 0) pe_int))), ?_⟩
    have hgt : (">" : Str).cps.toList = [62] := by decide +kernel
    obtain ⟨f1, f2, f3, f4⟩ := rd_fld (K := K) (mg := mg) T R (σ := [some (.ref o)]) rfl
    refine st_seq (st_if (ans_not (ans_v (rd_begin1 (K := K) R hl rfl hgt))) (fun hb => ?_) (fun hb => ?_))
    · exact rd_refuse f1 f2 hx hl hz (kno fun q => by rw [decide_eq_true q] at hb; cases hb)
    have hn : l.head? = some 62 := by simpa using hb
    dsimp only [tNext]
    obtain ⟨dx, hR⟩ := R
    refine ⟨_, rfl, o, _, dx, _, _, rfl, hR, T.cl_Reading, T.na_Reading_reached, fl_Reading_reached .., _, _, rfl, rfl, dx, _, hR, fn_len .., ?_⟩
    rw [pu_reached]
    exact kok hn _ ⟨dx, upd_same⟩ Kp.up
theorem ok_Reading_read_name (T : TX K mg) : Can P w K mg base (L2.CX P w) 5 (He.fAd K at_Reading_read_name) ps_Reading_read_name [] (spName K) := by
  obtain ⟨fd_is_letter, G_is_letter, ds_is_letter, v_is_letter, b_is_letter⟩ := ok_is_letter (P := P) (w := w) (base := base) T
  obtain ⟨fd__refuse, G__refuse, ds__refuse, v__refuse, b__refuse⟩ := ok__refuse (P := P) (w := w) (base := base) T
  exact mk_Reading_read_name T fun fd F => defX F sc_Reading_read_name (fun vs H Q E h => by
    obtain ⟨H0, o, z, i, n, st, a, l, rfl, _⟩ := h
    rfl) fun cdv A outer s H vs Q E hr h => by
    obtain ⟨H0, o, z, i, n, st, a, l, rfl, R, hl, hz, hx, kno, kok⟩ := h
    refine ⟨_, (pss_cons (ps_set (i := 2) sc_Reading_read_name.nd rfl (Or.inl rfl) (pv 1))
  (pss_cons (ps_while (passes_of rfl) (PW.pt (pw_and (pt_cmpR op_lt (pv 2) (pe_callB call_len_str (by rfl) T.n_len PySem.boot_len (pa_cons (eFld K rfl (pv 0) rfl) pa_nil)) (nomark _)) (pw_and1 (pt_val (pe_call G_is_letter (hr.mono (by first | decide | omega)) rfl T.g_is_letter T.k_is_letter b_is_letter v_is_letter pass0 (pa_cons (pe_ix ix_str (eFld K rfl (pv 0) rfl) (pv 2) (fun _ _ => rfl)) pa_nil))))))
  (pss_one (ps_aug (i := 2) sc_Reading_read_name.nd rfl (Or.inl rfl) pe_int ip_add)))
  (pss_cons (ps_if (pt_not (pt_chain op_le op_le pe_int (pe_op op_sub (pv 2) (pv 1)) (pe_glob (v := .int 12) rfl T.c_NAME_LETTERS.choose_spec ⟨_, rfl⟩))) (pss_one (ps_expr (pe_call G__refuse (hr.mono (by first | decide | omega)) rfl T.g__refuse T.k__refuse b__refuse v__refuse (passes_call (takes_of rfl rfl rfl rfl) (fun _ _ _ _ h => h)) (pa_cons (eFld K rfl (pv 0) rfl) (pa_cons (pv 1) (pa_cons pe_str pa_nil)))))) pss_nil)
  (pss_cons (sFd K rfl (pv 0) (pv 2) rfl)
  (pss_one (ps_ret (pe_slice sl_str (eFld K rfl (pv 0) rfl) (po_some (pv 1)) (po_some (pv 2))))))))), ?_⟩
    have f := fun (σ : L2.St) (hσ : σ[0]? = some (some (.ref o))) => rd_fld (K := K) T R hσ
    have hlen := hl.len
    have hrun := runL_le letB l
    have hzl : z.length = z.cps.size := rfl
    have chV : ∀ {σ : L2.St} (j c : Nat), σ[0]? = some (some (.ref o)) → σ[2]? = some (some (.int ((a : Int) + (j : Int)))) → l[j]? = some c → Val (tOp rIxS (tFld K (tVar 0) "source") (tVar 2)) σ H (.str (sL [c])) := fun j c h0 h2 e => val_op (f _ h0).1 (val_var h2) fun Q q => ⟨z, _, c, rfl, rfl, szB (by omega), (by
      have := atI_nat (hl.get.trans e)
      rwa [Int.natCast_add] at this), q⟩
    refine st_seq (go_asg ⟨_, rfl, ?_⟩)
    dsimp only [gName]
    refine st_seq ⟨fun m σ G => ∃ j : Nat, σ = [some (.ref o), some (.int (a : Int)), some (.int ((a : Int) + (j : Int)))] ∧ m = runL letB l - j ∧ j ≤ runL letB l ∧ G = H, ⟨_, 0, by rw [show (a : Int) + ((0 : Nat) : Int) = a by omega] <;> rfl, rfl, Nat.zero_le _, rfl⟩, ?_⟩
    rintro m σ G ⟨j, rfl, rfl, hj, rfl⟩
    have cond : Ans (tAnd (tTest (tOp (rI0 fun i j => V.bl (decide (i < j))) (tVar 2) (tCB (fun xs H Q => ∃ z, xs = [V.str z] ∧ z.length ≤ sizeLine ∧ Q (V.int (z.length : Int)) H) (tCons (tFld K (tVar 0) "source") tNil)))) (tB (tCall spLetter2 [] E0 (tCons (tOp rIxS (tFld K (tVar 0) "source") (tVar 2)) tNil)))) [some (.ref o), some (.int (a : Int)), some (.int ((a : Int) + (j : Int)))] G (decide (j < runL letB l)) := by
      obtain ⟨r1, r2⟩ := runL_at letB l j
      refine ans_is (ans_and3 (a := decide (j < l.length)) (b := decide (j < runL letB l)) (ans_v (val_is (val_I (val_var rfl) (val_cb (va_one (f _ rfl).1) fun Q q => ⟨z, rfl, szB (by omega), q⟩)) (by
        congr 1
        rw [decide_eq_decide]
        omega))) fun hjl => ?_) ?_
      · have hjl := of_decide_eq_true hjl
        have e : l[j]? = some l[j] := List.getElem?_eq_getElem hjl
        refine ans_val (val_call (va_one (chV j _ rfl rfl e)) fun Q q => ⟨_, rfl, ?_⟩)
        by_cases hjr : j < runL letB l
        · obtain ⟨c, hc, hb⟩ := r1 hjr
          rw [e] at hc
          rw [Option.some.inj hc, hb]
          rw [decide_eq_true hjr] at q
          exact q
        · have hb := r2 (by omega) _ e
          rw [hb]
          rw [decide_eq_false hjr] at q
          exact q
      · by_cases hjr : j < runL letB l
        · rw [decide_eq_true hjr, decide_eq_true (by omega)]
          rfl
        · rw [decide_eq_false hjr, Bool.and_false]
    refine cond _ ?_
    by_cases hjr : j < runL letB l
    · rw [decide_eq_true hjr]
      refine iteT ⟨fun σ' G' => ∃ m', m' < runL letB l - j ∧ ∃ j : Nat, σ' = [some (.ref o), some (.int (a : Int)), some (.int ((a : Int) + (j : Int)))] ∧ m' = runL letB l - j ∧ j ≤ runL letB l ∧ G' = G, fun _ _ h => h, ?_⟩
      refine ⟨_, rfl, _, _, rfl, rfl, _, by omega, j + 1, ?_, rfl, by omega, rfl⟩
      rw [show (a : Int) + ((j + 1 : Nat) : Int) = (a : Int) + (j : Int) + 1 by omega]
      rfl
    · obtain rfl : j = runL letB l := by omega
      rw [decide_eq_false hjr]
      refine iteF ?_
      dsimp only
      refine st_seq (st_if (b := !nameOk l) (ans_is (ans_not (ans_v (val_chain (g := fun i j => decide (i ≤ j)) (g' := fun i j => decide (i ≤ j)) val_c (val_I (val_var rfl) (val_var rfl)) val_c))) (by
        have e : ∀ (x y : Nat) (u v : Int), u = x → v = y → decide (u ≤ v) = Nat.ble x y := fun x y u v hu hv => by
          cases q : Nat.ble x y with
          | true => exact decide_eq_true (by have := Nat.le_of_ble_eq_true q; omega)
          | false => exact decide_eq_false fun z => by rw [Nat.ble_eq_true_of_le (by omega)] at q; cases q
        rw [e 1 (runL letB l) 1 _ rfl (by omega), e (runL letB l) 12 _ 12 (by omega) rfl]
        rfl)) (fun hb => ?_) (fun hb => ?_))
      · exact rd_refuse (f _ rfl).1 (val_var rfl) hx hl hz (kno (by cases q : nameOk l with | false => rfl | true => rw [q] at hb; cases hb))
      have hok : nameOk l = true := by cases q : nameOk l with | true => rfl | false => rw [q] at hb; cases hb
      dsimp only [tNext]
      obtain ⟨dx, hR⟩ := id R
      refine st_seq ⟨_, rfl, _, rfl, o, _, dx, _, rfl, hR, T.cl_Reading, T.na_Reading_reached, fn_len .., ?_⟩
      rw [pu_reached, show (a : Int) + (runL letB l : Int) = ((a + runL letB l : Nat) : Int) by omega]
      have R' : RdO K (upd G o (.ins (He.ga K "Reading") dx (flds_Reading (.str z) (.int ((a + runL letB l : Nat) : Int)) (.int (n : Int)) (.ref st)))) o z (a + runL letB l) n st := ⟨dx, upd_same⟩
      dsimp only
      refine go_ret ?_
      refine (rd_fld (K := K) T R' (σ := [some (.ref o), some (.int (a : Int)), some (.int ((a + runL letB l : Nat) : Int))]) rfl).1 _ ?_
      refine ⟨_, rfl, _, rfl, _, rfl, _, rfl, z, rfl, szB (by omega), ?_⟩
      rw [hl.cut]
      exact kok hok _ R' Kp.up
theorem kids_len {H0 G : Hp} {o : Addr} (e : Ex H0 G) {G' : Hp} (k : Kp [o] G G') (h : H0 o = none) : Ex H0 G' := ex_kp e k fun a ha => by rw [List.mem_singleton.mp ha]; exact h
theorem ok_Reading_read_text (T : TX K mg) : Can P w K mg base (L2.CX P w) 6 (He.fAd K at_Reading_read_text) ps_Reading_read_text [] (spText K) := by
  obtain ⟨fd_Reading_begins, G_Reading_begins, ds_Reading_begins, v_Reading_begins, b_Reading_begins⟩ := ok_Reading_begins (P := P) (w := w) (base := base) T
  obtain ⟨fd_Reading_next_sign, G_Reading_next_sign, ds_Reading_next_sign, v_Reading_next_sign, b_Reading_next_sign⟩ := ok_Reading_next_sign (P := P) (w := w) (base := base) T
  obtain ⟨fd_Reading_count_node, G_Reading_count_node, ds_Reading_count_node, v_Reading_count_node, b_Reading_count_node⟩ := ok_Reading_count_node (P := P) (w := w) (base := base) T
  obtain ⟨fd__refuse, G__refuse, ds__refuse, v__refuse, b__refuse⟩ := ok__refuse (P := P) (w := w) (base := base) T
  exact mk_Reading_read_text T fun fd F => defX F sc_Reading_read_text (fun vs H Q E h => by
    obtain ⟨H0, o, z, i, n, st, t, lp, pre, vs', nv, l, rfl, _⟩ := h
    rfl) fun cdv A outer s H vs Q E hr h => by
    obtain ⟨H0, o, z, i, n, st, t, lp, pre, vs', nv, l, rfl, R, hl, hz, hx, hxo, hst, htt, hlp, hvl, hpre, kno, kok⟩ := h
    refine ⟨_, (pss_cons (ps_set (i := 1) sc_Reading_read_text.nd rfl (Or.inl rfl) (pe_lst pa_nil))
  (pss_cons (ps_while (passes_of rfl) (pt_not (pt_val (pe_meth (pv 0) T.cl_Reading T.me_Reading_begins G_Reading_begins (hr.mono (by first | decide | omega)) b_Reading_begins v_Reading_begins pass0 (pa_cons pe_str pa_nil))))
  (pss_cons (ps_asg (pe_meth0 (pv 0) T.cl_Reading T.me_Reading_next_sign G_Reading_next_sign (hr.mono (by first | decide | omega)) b_Reading_next_sign v_Reading_next_sign (passes_call (takes_of rfl rfl rfl rfl) (fun _ _ _ _ h => h))) (pg_tup rfl (pgs_cons (pg_name (i := 2) sc_Reading_read_text.nd rfl (Or.inl rfl)) (pgs_cons (pg_name (i := 3) sc_Reading_read_text.nd rfl (Or.inl rfl)) pgs_nil))))
  (pss_cons (ps_if (pt_cmpR op_eq (pe_callB (cLen K rfl) (by rfl) T.n_len PySem.boot_len (pa_cons (pv 1) pa_nil)) (pe_glob (v := .int 200) rfl T.c_TEXT_CHARACTERS.choose_spec ⟨_, rfl⟩) (nomark _)) (pss_one (ps_expr (pe_call G__refuse (hr.mono (by first | decide | omega)) rfl T.g__refuse T.k__refuse b__refuse v__refuse (passes_call (takes_of rfl rfl rfl rfl) (fun _ _ _ _ h => h)) (pa_cons (eFld K rfl (pv 0) rfl) (pa_cons (eFld K rfl (pv 0) rfl) (pa_cons pe_str pa_nil)))))) pss_nil)
  (Evl.pss_cut (ps_if (pt_not (tTruth K rfl (pv 1))) (pss_one (ps_expr (pe_meth0 (pv 0) T.cl_Reading T.me_Reading_count_node G_Reading_count_node (hr.mono (by first | decide | omega)) b_Reading_count_node v_Reading_count_node (passes_call (takes_of rfl rfl rfl rfl) (fun _ _ _ _ h => h))))) pss_nil)
  (pss_cons (ps_expr (eBm K rfl PySem.F.plainAttrs_list PySem.F.slot_list_append PySem.F.type_list_append mt_append (pv 1) (pa_cons (pv 3) pa_nil)))
  (pss_one (sFdAug K rfl in_add (pv 0) (pe_callB call_len_str (by rfl) T.n_len PySem.boot_len (pa_cons (pv 2) pa_nil)))))))))
  (pss_one (ps_expr (eBm K rfl PySem.F.plainAttrs_list PySem.F.slot_list_append PySem.F.type_list_append mt_append (pe_ix (ixT K rfl) (pe_ix (ixL K rfl) (eFld K rfl (pv 0) rfl) (pe_un un_neg pe_int) (fun _ _ => rfl)) pe_int (fun _ _ => rfl)) (pa_cons (pe_join pe_str (pv 1)) pa_nil)))))), ?_⟩
    have hlt : ("<" : Str).cps.toList = [60] := by decide +kernel
    refine st_seq ⟨by show 0 ≤ sizeLine; decide, fun sp hsp => ?_⟩
    dsimp only [gName]
    have nso : sp ≠ o := fun e => R.on (e ▸ hsp)
    have nsl : sp ≠ lp := fun e => by rw [e, hlp] at hsp; cases hsp
    have noo : ∀ {a : Addr} {u : HO}, H a = some u → (∀ C dx fs, u ≠ .ins C dx fs) → a ≠ o := fun {a u} ha hu e => by
      obtain ⟨dx, hR⟩ := R
      rw [e, hR] at ha
      exact hu _ _ _ (Option.some.inj ha).symm
    have nsto : st ≠ o := noo hst nofun
    have nto : t ≠ o := noo htt nofun
    have nlo : lp ≠ o := noo hlp nofun
    have hpl : (pre ++ [V.ref t]).length = pre.length + 1 := by rw [List.length_append, List.length_singleton]
    refine st_seq ⟨fun m σ G => ∃ (acc l2 : List Nat) (i2 n2 f : Nat) (v2 v3 : Option V), σ = [some (.ref o), some (.ref sp), v2, v3] ∧ m = l2.length ∧ Kp [o] H G ∧ RdO K G o z i2 n2 st ∧ remS z i2 l2 ∧ G sp = some (.lst (acc.map fun c => V.str (sL [c]))) ∧ acc.length ≤ 200 ∧ l2.length < f ∧ rdText (pre.length + 1) f acc l2 i2 n2 = rdText (pre.length + 1) (l.length + 1) [] l i n,
      ⟨_, [], l, i, n, _, none, none, rfl, rfl, Kp.new hsp, R.ex (Ex.new hsp), hl, upd_same, Nat.zero_le _, Nat.lt_succ_self _, rfl⟩, ?_⟩
    rintro m σ G ⟨acc, l2, i2, n2, f, v2, v3, rfl, rfl, eG, RG, hl2, hs, hacc, hf, hq⟩
    obtain ⟨f, rfl⟩ : ∃ f', f = f' + 1 := ⟨f - 1, by omega⟩
    rw [rdText] at hq
    have hxG : Ex H0 G := kids_len hx eG hxo
    have hst' := eG.at hst (by simpa using nsto)
    have htt' := eG.at htt (by simpa using nto)
    have hlp' := eG.at hlp (by simpa using nlo)
    refine ans_not (ans_v (rd_begin1 (K := K) RG hl2 rfl hlt)) _ ?_
    by_cases hb : l2.head? = some 60
    · rw [decide_eq_true hb]
      rw [if_pos hb] at hq
      refine iteF ?_
      dsimp only
      have f4 := (rd_fld (K := K) T RG (σ := [some (.ref o), some (.ref sp), v2, v3]) rfl).2.2.2
      have vt : Val (tOp (rIxT K) (tOp (rIxL K) (tFld K (tVar 0) "stack") (tUn (rU fun i => .int (-i)) (tC (.int 1)))) (tC (.int 1))) [some (.ref o), some (.ref sp), v2, v3] G (.ref lp) := val_ixT (val_ixL f4 (val_neg val_c) (SqL.of hst') (atI_last _ _)) val_c (SqT.of htt') at_one
      refine vt _ ⟨.inl ⟨rfl, _, SqL.of hlp'⟩, ?_⟩
      have hys : (acc.map fun c => V.str (sL [c])) = (acc.map fun c => sL [c]).map V.str := by rw [List.map_map]; rfl
      rw [hys] at hs
      have hfl : ((acc.map fun c => sL [c]).map fun y : Str => y.cps.toList).flatten = acc := by
        rw [List.map_map]
        clear hys hs hacc hq
        induction acc with
        | nil => rfl
        | cons a q ih =>
          rw [List.map_cons, List.flatten_cons, ih]
          rfl
      refine ⟨⟨_, rfl⟩, _, rfl, _, sp, _, rfl, rfl, .inl (SqL.of hs), ?_, ?_⟩
      · rw [sum_len, hfl]
        show _ + _ * 0 ≤ _
        exact Nat.le_trans (show acc.length + _ * 0 ≤ 200 by omega) (by decide)
      · rw [nosign, join0, hfl]
        refine ⟨lp, vs', _, rfl, rfl, hlp', small9 (by omega), ?_⟩
        refine kok acc l2 i2 n2 hq.symm hl2 _ ?_ upd_same ((eG.mono (by simp)).trans (Kp.put (by simp)))
        obtain ⟨dx, hRG⟩ := RG
        exact ⟨dx, by rw [upd_ne nlo.symm]; exact hRG⟩
    · rw [decide_eq_false hb]
      rw [if_neg hb] at hq
      refine iteT ⟨fun σ' G' => ∃ m', m' < l2.length ∧ ∃ (acc l2 : List Nat) (i2 n2 f : Nat) (v2 v3 : Option V), σ' = [some (.ref o), some (.ref sp), v2, v3] ∧ m' = l2.length ∧ Kp [o] H G' ∧ RdO K G' o z i2 n2 st ∧ remS z i2 l2 ∧ G' sp = some (.lst (acc.map fun c => V.str (sL [c]))) ∧ acc.length ≤ 200 ∧ l2.length < f ∧ rdText (pre.length + 1) f acc l2 i2 n2 = rdText (pre.length + 1) (l.length + 1) [] l i n, fun _ _ h => h, ?_⟩
      have hls : (acc.map fun c => V.str (sL [c])).length = acc.length := List.length_map ..
      obtain ⟨dx, hRG⟩ := id RG
      refine st_seq ⟨_, rfl, o, dx, _, rfl, hRG, fn_Reading_next_sign .., H0, o, z, i2, n2, st, l2, rfl, RG, hl2, hz, hxG, fun e => ?_, fun r k s0 e tp G2 htp e2 h2 => ?_⟩
      · rw [e] at hq
        exact kno _ _ hq.symm
      rw [e] at hq
      dsimp only at hq
      obtain ⟨k1, k2, k3, k4⟩ := rdNext_len e
      subst k3
      refine ⟨tp, _, rfl, SqT.of h2, rfl, _, _, rfl, _, _, rfl, rfl, ?_⟩
      have R2 := RG.ex e2
      have hs2 := e2 _ _ hs
      have hxG2 := hxG.trans e2
      have f2 := rd_fld (K := K) T R2 (σ := [some (.ref o), some (.ref sp), some (.str (sL (l2.take k))), some (.str (sL [s0]))]) rfl
      refine st_seq (st_if (b := decide (acc.length = 200)) (ans_v (val_is (val_eq (val_lenL (val_var rfl) (SqL.of hs2)) val_c rfl) (by
        rw [hls]
        congr 1
        rw [decide_eq_decide]
        exact ⟨fun e => by have := V.int.inj e; omega, fun e => by rw [e]; rfl⟩))) (fun hb2 => ?_) (fun hb2 => ?_))
      · rw [if_pos (of_decide_eq_true hb2)] at hq
        exact rd_refuse f2.1 f2.2.1 hxG2 hl2 hz (kno _ _ hq.symm)
      rw [if_neg (of_decide_eq_false hb2)] at hq
      have hb2 := of_decide_eq_false hb2
      dsimp only [tNext]
      refine ⟨fun σ' G3 => σ' = [some (.ref o), some (.ref sp), some (.str (sL (l2.take k))), some (.str (sL [s0]))] ∧ Kp [o] G2 G3 ∧ ∃ n3, RdO K G3 o z i2 n3 st ∧ rdText (pre.length + 1) f (acc ++ [s0]) (l2.drop k) (i2 + k) n3 = rdText (pre.length + 1) (l.length + 1) [] l i n, ?_, ?_⟩
      · refine st_if (ans_not (b := !(acc.map fun c => V.str (sL [c])).isEmpty) fun Q q => ⟨_, rfl, _, .inl ⟨_, SqL.of hs2, rfl⟩, q⟩) (fun h => ?_) (fun h => ?_)
        · have ha : acc = [] := by
            cases acc with
            | nil => rfl
            | cons a r => cases h
          rw [if_pos ha] at hq
          obtain ⟨dx2, hR2⟩ := id R2
          refine ⟨_, rfl, o, dx2, _, rfl, hR2, fn_Reading_count_node .., H0, o, z, i2, n2, st, _, l2, rfl, R2, hl2, hz, hxG2, SqL.of (e2 _ _ hst'), by rw [hpl]; omega, fun y ey => ?_, fun en G3 R3 e3 => ⟨rfl, e3, _, R3, ?_⟩⟩
          · rw [hpl] at ey
            rw [ey] at hq
            exact kno _ _ hq.symm
          · rw [hpl] at en
            rw [en] at hq
            exact hq
        · have ha : acc ≠ [] := fun z => by
            subst z
            cases h
          rw [if_neg ha] at hq
          exact ⟨rfl, Kp.refl, _, R2, hq⟩
      · rintro σ' G3 ⟨rfl, e3, n3', R3, hq3⟩
        have hs3 := e3.at hs2 (by simpa using nso)
        refine st_seq (st_app hs3 (val_var rfl) (val_var rfl) (sz_lt (by rw [hls]; omega)) ?_)
        obtain ⟨dx3, hR3⟩ := R3
        have hR4 : upd G3 sp (.lst ((acc.map fun c => V.str (sL [c])) ++ [V.str (sL [s0])])) o = some (.ins (He.ga K "Reading") dx3 (flds_Reading (.str z) (.int (i2 : Int)) (.int (n3' : Int)) (.ref st))) := by
          rw [upd_ne nso.symm]
          exact hR3
        have hlk : (sL (l2.take k)).length = k := by rw [sL_len, List.length_take]; omega
        have hl2n := hl2.len
        refine ⟨_, rfl, o, _, dx3, _, _, rfl, hR4, T.cl_Reading, T.na_Reading_reached, fl_Reading_reached .., _, rfl, sL (l2.take k), rfl, by rw [hlk]; exact szB (by omega), _, _, rfl, rfl, dx3, _, hR4, fn_len .., ?_⟩
        rw [pu_reached, hlk, show (i2 : Int) + (k : Int) = ((i2 + k : Nat) : Int) by omega]
        refine ⟨_, ?_, acc ++ [s0], l2.drop k, i2 + k, n3', f, _, _, rfl, rfl, ?_, ⟨dx3, upd_same⟩, hl2.drop k2, ?_, ?_, ?_, hq3⟩
        · rw [List.length_drop]; omega
        · exact (((eG.trans (Kp.of e2)).trans e3).mut hsp).trans Kp.up
        · rw [upd_ne nso, upd_same, List.map_append]
          rfl
        · rw [List.length_append, List.length_singleton]; omega
        · rw [List.length_drop]; omega
theorem ok_Reading_read_begin_tag (T : TX K mg) : Can P w K mg base (L2.CX P w) 6 (He.fAd K at_Reading_read_begin_tag) ps_Reading_read_begin_tag [] (spBegin K) := by
  obtain ⟨fd_Reading_begins, G_Reading_begins, ds_Reading_begins, v_Reading_begins, b_Reading_begins⟩ := ok_Reading_begins (P := P) (w := w) (base := base) T
  obtain ⟨fd_Reading_read_name, G_Reading_read_name, ds_Reading_read_name, v_Reading_read_name, b_Reading_read_name⟩ := ok_Reading_read_name (P := P) (w := w) (base := base) T
  obtain ⟨fd_Reading_read_tag_end, G_Reading_read_tag_end, ds_Reading_read_tag_end, v_Reading_read_tag_end, b_Reading_read_tag_end⟩ := ok_Reading_read_tag_end (P := P) (w := w) (base := base) T
  obtain ⟨fd_Reading_count_node, G_Reading_count_node, ds_Reading_count_node, v_Reading_count_node, b_Reading_count_node⟩ := ok_Reading_count_node (P := P) (w := w) (base := base) T
  obtain ⟨fd__refuse, G__refuse, ds__refuse, v__refuse, b__refuse⟩ := ok__refuse (P := P) (w := w) (base := base) T
  exact mk_Reading_read_begin_tag T fun fd F => defX F sc_Reading_read_begin_tag (fun vs H Q E h => by
    obtain ⟨H0, o, z, i, n, st, t, lp, pre, vs', nv, l, F, rfl, _⟩ := h
    rfl) fun cdv A outer s H vs Q E hr h => by
    obtain ⟨H0, o, z, i, n, st, t, lp, pre, vs', nv, l, F, rfl, R, hl, hz, hx, hxo, hxs, hxl, hst, htt, hlp, nls, hvl, hpre, hF, kno, kok⟩ := h
    refine ⟨_, (pss_cons (ps_if (pt_cmpR op_eq (pe_op op_add (eFld K rfl (pv 0) rfl) pe_int) (pe_callB call_len_str (by rfl) T.n_len PySem.boot_len (pa_cons (eFld K rfl (pv 0) rfl) pa_nil)) (nomark _)) (pss_one (ps_expr (pe_call G__refuse (hr.mono (by first | decide | omega)) rfl T.g__refuse T.k__refuse b__refuse v__refuse (passes_call (takes_of rfl rfl rfl rfl) (fun _ _ _ _ h => h)) (pa_cons (eFld K rfl (pv 0) rfl) (pa_cons (pe_op op_add (eFld K rfl (pv 0) rfl) pe_int) (pa_cons pe_str pa_nil)))))) pss_nil)
  (pss_cons (ps_expr (pe_meth0 (pv 0) T.cl_Reading T.me_Reading_count_node G_Reading_count_node (hr.mono (by first | decide | omega)) b_Reading_count_node v_Reading_count_node (passes_call (takes_of rfl rfl rfl rfl) (fun _ _ _ _ h => h))))
  (pss_cons (ps_set (i := 1) sc_Reading_read_begin_tag.nd rfl (Or.inl rfl) (pe_tup (pa_cons (pe_meth (pv 0) T.cl_Reading T.me_Reading_read_name G_Reading_read_name (hr.mono (by first | decide | omega)) b_Reading_read_name v_Reading_read_name (passes_call (takes_of rfl rfl rfl rfl) (fun _ _ _ _ h => h)) (pa_cons (pe_op op_add (eFld K rfl (pv 0) rfl) pe_int) pa_nil)) (pa_cons (pe_lst pa_nil) pa_nil))))
  (pss_cons (ps_expr (eBm K rfl PySem.F.plainAttrs_list PySem.F.slot_list_append PySem.F.type_list_append mt_append (pe_ix (ixT K rfl) (pe_ix (ixL K rfl) (eFld K rfl (pv 0) rfl) (pe_un un_neg pe_int) (fun _ _ => rfl)) pe_int (fun _ _ => rfl)) (pa_cons (pv 1) pa_nil)))
  (pss_cons (ps_if (pt_val (pe_meth (pv 0) T.cl_Reading T.me_Reading_begins G_Reading_begins (hr.mono (by first | decide | omega)) b_Reading_begins v_Reading_begins pass0 (pa_cons pe_str pa_nil))) (pss_one (sFdAug K rfl in_add (pv 0) pe_int)) (pss_one (ps_expr (eBm K rfl PySem.F.plainAttrs_list PySem.F.slot_list_append PySem.F.type_list_append mt_append (eFld K rfl (pv 0) rfl) (pa_cons (pv 1) pa_nil)))))
  (pss_one (ps_expr (pe_meth0 (pv 0) T.cl_Reading T.me_Reading_read_tag_end G_Reading_read_tag_end (hr.mono (by first | decide | omega)) b_Reading_read_tag_end v_Reading_read_tag_end (passes_call (takes_of rfl rfl rfl rfl) (fun _ _ _ _ h => h)))))))))), ?_⟩
    have noo : ∀ {a : Addr} {u : HO}, H a = some u → (∀ C dx fs, u ≠ .ins C dx fs) → a ≠ o := fun {a u} ha hu e => by
      obtain ⟨dx, hR⟩ := R
      rw [e, hR] at ha
      exact hu _ _ _ (Option.some.inj ha).symm
    have n1 : st ≠ o := noo hst nofun
    have n2 : t ≠ o := noo htt nofun
    have n3 : lp ≠ o := noo hlp nofun
    have f := rd_fld (K := K) T R (σ := [some (.ref o), none]) rfl
    have hl1 : remS z (i + 1) l := hl.one
    have hln := hl1.len
    have hzl : z.length = z.cps.size := rfl
    have hpl : (pre ++ [V.ref t]).length = F.length := by rw [List.length_append, List.length_singleton, hF]
    unfold rdBegin at kno kok
    rw [List.tail_cons] at kno kok
    refine st_seq (st_if (b := decide (l = [])) (ans_v (val_is (val_eq (val_I f.2.1 val_c) (val_cb (va_one f.1) fun Q q => ⟨z, rfl, szB (Nat.le_succ_of_le hz), q⟩) rfl) (by
      congr 1
      rw [decide_eq_decide]
      exact ⟨fun h => by
        have := V.int.inj h
        exact List.eq_nil_of_length_eq_zero (by omega), fun h => by
        subst h
        rw [List.length_nil] at hln
        congr 1
        omega⟩))) (fun hb => ?_) (fun hb => ?_))
    · obtain rfl := of_decide_eq_true hb
      rw [if_pos rfl] at kno
      exact rd_refuse (i := i + 1) f.1 (val_is (val_I f.2.1 val_c) (by congr 1)) hx hl1 hz (kno _ _ rfl)
    have hb := of_decide_eq_false hb
    rw [if_neg hb] at kno kok
    dsimp only [tNext]
    obtain ⟨dx, hR⟩ := id R
    refine st_seq ⟨_, rfl, o, dx, _, rfl, hR, fn_Reading_count_node .., H0, o, z, i, n, st, _, 60 :: l, rfl, R, hl, hz, hx, SqL.of hst, by rw [hpl]; omega, fun y ey => ?_, fun en H1 R1 e1 => ?_⟩
    · rw [hpl] at ey
      rw [ey] at kno
      exact kno _ _ rfl
    rw [hpl] at en
    rw [en] at kno kok
    dsimp only at kno kok
    have hn5 : n ≠ 5000 ∧ pre.length < 60 := by
      unfold cntR at en
      split at en
      · cases en
      split at en
      · cases en
      · rename_i h1 h2
        exact ⟨h2, by omega⟩
    obtain ⟨dx1, hR1⟩ := id R1
    have hx1 : Ex H0 H1 := kids_len hx e1 hxo
    have f1 := rd_fld (K := K) T R1 (σ := [some (.ref o), none]) rfl
    dsimp only
    refine st_seq (go_asg ?_)
    refine ⟨_, rfl, o, dx1, _, rfl, hR1, fn_Reading_read_name .., (val_I f1.2.1 val_c) _ ?_⟩
    refine ⟨H0, o, z, i, n + 1, st, i + 1, l, by rw [show (i : Int) + 1 = ((i + 1 : Nat) : Int) by omega] <;> rfl, R1, hl1, hz, hx1, fun e => ?_, fun e H2 R2 e2 => ?_⟩
    · rw [e] at kno
      exact kno _ _ rfl
    rw [e] at kno kok
    simp only [cond_true] at kno kok
    have hrl := runL_le letB l
    have hl2 := hl1.drop hrl
    have hk1 : 1 ≤ runL letB l := Nat.le_of_ble_eq_true (Bool.and_eq_true_iff.mp e).1
    generalize hr' : l.drop (runL letB l) = r at kno kok hl2
    generalize hnm : sL (l.take (runL letB l)) = nm at kno kok ⊢
    generalize runL letB l = k at kno kok hl2 hrl hk1 R2
    clear hr' hnm e
    refine ⟨by show 0 ≤ sizeLine; decide, fun l' hl' => ⟨by show 2 ≤ sizeLine; decide, fun t' ht' => ?_⟩⟩
    dsimp only [gName]
    have e12 : Kp [o] H H2 := e1.trans e2
    have on2 : ∀ a ∈ [o], H2 a ≠ none := fun a ha => by rw [List.mem_singleton.mp ha]; exact R2.on
    have hlH : H l' = none := e12.back on2 hl'
    have ntl : t' ≠ l' := fun e => by rw [e, upd_same] at ht'; cases ht'
    have ht2 : H2 t' = none := by rw [upd_ne ntl] at ht'; exact ht'
    have htH : H t' = none := e12.back on2 ht2
    have lo : ∀ {a : Addr} {u : HO}, H2 a = some u → upd (upd H2 l' (.lst [])) t' (.tup [.str nm, .ref l']) a = some u := fun {a u} h => by
      rw [upd_ne (ne_of_none h ht2), upd_ne (ne_of_none h hl')]
      exact h
    have gst := lo (e12.at hst (by simpa using n1))
    have gtt := lo (e12.at htt (by simpa using n2))
    have glp := lo (e12.at hlp (by simpa using n3))
    have gt : upd (upd H2 l' (.lst [])) t' (.tup [.str nm, .ref l']) t' = some (.tup [.str nm, .ref l']) := upd_same
    have gl : upd (upd H2 l' (.lst [])) t' (.tup [.str nm, .ref l']) l' = some (.lst []) := by rw [upd_ne ntl.symm, upd_same]
    have RG : RdO K (upd (upd H2 l' (.lst [])) t' (.tup [.str nm, .ref l'])) o z (i + 1 + k) (n + 1) st := (R2.ex (Ex.new hl')).ex (Ex.new ht')
    have eG : Kp [o, lp, st] H (upd (upd H2 l' (.lst [])) t' (.tup [.str nm, .ref l'])) := (e12.mono (by simp)).trans ((Kp.new hl').trans (Kp.new ht'))
    generalize upd (upd H2 l' (.lst [])) t' (.tup [.str nm, .ref l']) = G at gst gtt glp gt gl RG eG ⊢
    have fin : ∀ (X : Hp) (b : Bool) (l1 : List Nat) (i1 : Nat), Kp [o, lp, st] H X → X t' = some (.tup [.str nm, .ref l']) → X l' = some (.lst []) → X lp = some (.lst (vs' ++ [.ref t'])) → X st = some (.lst (if b then pre ++ [.ref t] else pre ++ [.ref t] ++ [.ref t'])) →
        RdO K X o z i1 (n + 1) st → remS z i1 l1 → i < i1 →
        (∀ j y, rdEndTag (if b then addK F (.el nm []) else (nm, []) :: F) l1 i1 (n + 1) = .no j y → BadR K H0 E z j y) →
        (∀ l2 i2, rdEndTag (if b then addK F (.el nm []) else (nm, []) :: F) l1 i1 (n + 1) = .ok (if b then addK F (.el nm []) else (nm, []) :: F) l2 i2 (n + 1) → remS z i2 l2 → i < i2 → ∀ H5, RdO K H5 o z i2 (n + 1) st → Kp [o] X H5 → Q .non H5) →
        tMeth (He.ga K "Reading") "read_tag_end" (spTagEnd K) [] (fun cls d H => E cls d H) (tVar 0) tNil [some (.ref o), some (.ref t')] X (fun _ H' => Q .non H') := fun X b l1 i1 x1 x2 x3 x4 x5 x6 hl1' hi1 ko kk => by
      obtain ⟨dx6, h6⟩ := id x6
      unfold rdEndTag at ko kk
      refine ⟨_, rfl, o, dx6, _, rfl, h6, fn_Reading_read_tag_end .., H0, o, z, _, _, st, l1, rfl, x6, hl1', hz, ex_kp hx x1 (by simp [hxo, hxl, hxs]), fun e => ?_, fun e H5 R5 e5 => ?_⟩
      · rw [if_neg e] at ko
        exact ko _ _ rfl
      · rw [if_pos e] at kk
        refine kk l1.tail (i1 + 1) rfl ?_ (by omega) H5 R5 e5
        obtain ⟨q, rfl⟩ : ∃ q, l1 = 62 :: q := by
          cases l1 with
          | nil => cases e
          | cons c q => exact ⟨q, by rw [Option.some.inj e]⟩
        exact hl1'.one
    have ftop : Val (tOp (rIxT K) (tOp (rIxL K) (tFld K (tVar 0) "stack") (tUn (rU fun i => .int (-i)) (tC (.int 1)))) (tC (.int 1))) [some (.ref o), some (.ref t')] G (.ref lp) := val_ixT (val_ixL (rd_fld (K := K) T RG (σ := [some (.ref o), some (.ref t')]) rfl).2.2.2 (val_neg val_c) (SqL.of gst) (atI_last _ _)) val_c (SqT.of gtt) at_one
    refine st_seq (st_app glp ftop (val_var rfl) (small9 (by omega)) ?_)
    have nlt : lp ≠ t' := fun e => by rw [e, gt] at glp; cases glp
    have nll : lp ≠ l' := fun e => by rw [← e, hlp] at hlH; cases hlH
    have nst' : st ≠ t' := fun e => by rw [e, gt] at gst; cases gst
    have nsl' : st ≠ l' := fun e => by rw [← e, hst] at hlH; cases hlH
    have g2t : upd G lp (.lst (vs' ++ [V.ref t'])) t' = some (.tup [.str nm, .ref l']) := by rw [upd_ne nlt.symm]; exact gt
    have g2l : upd G lp (.lst (vs' ++ [V.ref t'])) l' = some (.lst []) := by rw [upd_ne nll.symm]; exact gl
    have g2p : upd G lp (.lst (vs' ++ [V.ref t'])) lp = some (.lst (vs' ++ [V.ref t'])) := upd_same
    have g2s : upd G lp (.lst (vs' ++ [V.ref t'])) st = some (.lst (pre ++ [.ref t])) := by rw [upd_ne nls.symm]; exact gst
    have R2G : RdO K (upd G lp (.lst (vs' ++ [V.ref t']))) o z (i + 1 + k) (n + 1) st := by
      obtain ⟨dx, hR⟩ := RG
      exact ⟨dx, by rw [upd_ne n3.symm]; exact hR⟩
    have e2G : Kp [o, lp, st] H (upd G lp (.lst (vs' ++ [V.ref t']))) := eG.trans (Kp.put (by simp))
    generalize upd G lp (.lst (vs' ++ [V.ref t'])) = G2 at g2t g2l g2p g2s R2G e2G ⊢
    have h47 : ("/" : Str).cps.toList = [47] := by decide +kernel
    have nt' : t' ≠ o := fun e => by
      obtain ⟨dx7, h7⟩ := R2G
      rw [e, h7] at g2t
      cases g2t
    have nl' : l' ≠ o := fun e => by
      obtain ⟨dx7, h7⟩ := R2G
      rw [e, h7] at g2l
      cases g2l
    have last : ∀ (X H5 : Hp) (b : Bool) (l2 : List Nat) (i2 : Nat), Kp [o, lp, st] H X → X t' = some (.tup [.str nm, .ref l']) → X l' = some (.lst []) → X lp = some (.lst (vs' ++ [.ref t'])) → X st = some (.lst (if b then pre ++ [.ref t] else pre ++ [.ref t] ++ [.ref t'])) → Kp [o] X H5 →
        H5 t' = some (.tup [.str nm, .ref l']) ∧ H5 l' = some (.lst []) ∧ H5 lp = some (.lst (vs' ++ [.ref t'])) ∧ H5 st = some (.lst (if b then pre ++ [.ref t] else pre ++ [.ref t] ++ [.ref t'])) ∧ Kp [o, lp, st] H H5 := fun X H5 b l2 i2 x1 x2 x3 x4 x5 e5 =>
      ⟨e5.at x2 (by simpa using nt'), e5.at x3 (by simpa using nl'), e5.at x4 (by simpa using n3), e5.at x5 (by simpa using n1), x1.trans (e5.mono (by simp))⟩
    refine st_seq (st_if (ans_v (rd_begin1 (K := K) R2G hl2 rfl h47)) (fun hb3 => ?_) (fun hb3 => ?_))
    · have hn := of_decide_eq_true hb3
      obtain ⟨r', rfl⟩ : ∃ r', r = 47 :: r' := by
        cases r with
        | nil => cases hn
        | cons c q => exact ⟨q, by rw [Option.some.inj hn]⟩
      rw [if_pos hn] at kno
      obtain ⟨dx7, h7⟩ := R2G
      refine ⟨_, rfl, o, _, dx7, _, _, rfl, h7, T.cl_Reading, T.na_Reading_reached, fl_Reading_reached .., _, _, rfl, rfl, dx7, _, h7, fn_len .., ?_⟩
      rw [pu_reached]
      have x1 : Kp [o, lp, st] H (upd G2 o (.ins (He.ga K "Reading") dx7 (flds_Reading (.str z) (.int (((i + 1 + k : Nat) : Int) + 1)) (.int ((n + 1 : Nat) : Int)) (.ref st)))) := e2G.trans (Kp.put (by simp))
      have x2 : upd G2 o (.ins (He.ga K "Reading") dx7 (flds_Reading (.str z) (.int (((i + 1 + k : Nat) : Int) + 1)) (.int ((n + 1 : Nat) : Int)) (.ref st))) t' = _ := (upd_ne nt').trans g2t
      have x3 : upd G2 o (.ins (He.ga K "Reading") dx7 (flds_Reading (.str z) (.int (((i + 1 + k : Nat) : Int) + 1)) (.int ((n + 1 : Nat) : Int)) (.ref st))) l' = _ := (upd_ne nl').trans g2l
      have x4 : upd G2 o (.ins (He.ga K "Reading") dx7 (flds_Reading (.str z) (.int (((i + 1 + k : Nat) : Int) + 1)) (.int ((n + 1 : Nat) : Int)) (.ref st))) lp = _ := (upd_ne n3).trans g2p
      have x5 : upd G2 o (.ins (He.ga K "Reading") dx7 (flds_Reading (.str z) (.int (((i + 1 + k : Nat) : Int) + 1)) (.int ((n + 1 : Nat) : Int)) (.ref st))) st = _ := (upd_ne n1).trans g2s
      refine fin _ true r' (i + 1 + k + 1) x1 x2 x3 x4 x5 ⟨dx7, upd_same⟩ hl2.one (by omega) (fun j y ey => kno j y ey) fun l2 i2 eo hr2 hi2 H5 R5 e5 => ?_
      obtain ⟨y1, y2, y3, y4, y5⟩ := last _ H5 true l2 i2 x1 x2 x3 x4 x5 e5
      exact kok nm true l2 i2 (by rw [if_pos hn]; exact eo) hn5.1 hn5.2 hi2 hr2 H5 t' l' htH hlH ntl R5 y1 y2 y3 y4 y5
    · have hn := of_decide_eq_false hb3
      rw [if_neg hn] at kno
      refine st_app g2s (rd_fld (K := K) T R2G (σ := [some (.ref o), some (.ref t')]) rfl).2.2.2 (val_var rfl) (sz_lt (by rw [List.length_append, List.length_singleton]; omega)) ?_
      obtain ⟨dx7, h7⟩ := R2G
      have x1 : Kp [o, lp, st] H (upd G2 st (.lst (pre ++ [.ref t] ++ [.ref t']))) := e2G.trans (Kp.put (by simp))
      have x2 : upd G2 st (.lst (pre ++ [.ref t] ++ [.ref t'])) t' = _ := (upd_ne nst'.symm).trans g2t
      have x3 : upd G2 st (.lst (pre ++ [.ref t] ++ [.ref t'])) l' = _ := (upd_ne nsl'.symm).trans g2l
      have x4 : upd G2 st (.lst (pre ++ [.ref t] ++ [.ref t'])) lp = _ := (upd_ne nls).trans g2p
      refine fin _ false r (i + 1 + k) x1 x2 x3 x4 upd_same ⟨dx7, (upd_ne n1.symm).trans h7⟩ hl2 (by omega) (fun j y ey => kno j y ey) fun l2 i2 eo hr2 hi2 H5 R5 e5 => ?_
      obtain ⟨y1, y2, y3, y4, y5⟩ := last _ H5 false l2 i2 x1 x2 x3 x4 upd_same e5
      exact kok nm false l2 i2 (by rw [if_neg hn]; exact eo) hn5.1 hn5.2 hi2 hr2 H5 t' l' htH hlH ntl R5 y1 y2 y3 y4 y5
theorem sw2 (z y : Str) : Txt.startswith z y = decide (z.cps.toList.take y.cps.toList.length = y.cps.toList) := by
  have h : remS z 0 z.cps.toList := ⟨Nat.zero_le _, rfl⟩
  rw [← sw3 h]
  unfold Txt.startswith Txt.startswith3
  have : fromIndex z.length ((0 : Nat) : Int) = 0 := by
    unfold fromIndex
    rw [if_neg (by decide)]
    omega
  rw [this]
theorem ok_Reading_read_end_tag (T : TX K mg) : Can P w K mg base (L2.CX P w) 6 (He.fAd K at_Reading_read_end_tag) ps_Reading_read_end_tag [] (spEnd K) := by
  obtain ⟨fd_Reading_read_name, G_Reading_read_name, ds_Reading_read_name, v_Reading_read_name, b_Reading_read_name⟩ := ok_Reading_read_name (P := P) (w := w) (base := base) T
  obtain ⟨fd_Reading_read_tag_end, G_Reading_read_tag_end, ds_Reading_read_tag_end, v_Reading_read_tag_end, b_Reading_read_tag_end⟩ := ok_Reading_read_tag_end (P := P) (w := w) (base := base) T
  obtain ⟨fd__refuse, G__refuse, ds__refuse, v__refuse, b__refuse⟩ := ok__refuse (P := P) (w := w) (base := base) T
  exact mk_Reading_read_end_tag T fun fd F => defX F sc_Reading_read_end_tag (fun vs H Q E h => by
    obtain ⟨H0, o, z, i, n, st, t, lp, pre, l, F, rfl, _⟩ := h
    rfl) fun cdv A outer s H vs Q E hr h => by
    obtain ⟨H0, o, z, i, n, st, t, lp, pre, l, F, rfl, R, hl, hz, hx, hxo, hst, htt, kno, kok⟩ := h
    refine ⟨_, (pss_cons (ps_set (i := 1) sc_Reading_read_end_tag.nd rfl (Or.inl rfl) (pe_op op_add (eFld K rfl (pv 0) rfl) pe_int))
  (pss_cons (ps_set (i := 2) sc_Reading_read_end_tag.nd rfl (Or.inl rfl) (pe_meth (pv 0) T.cl_Reading T.me_Reading_read_name G_Reading_read_name (hr.mono (by first | decide | omega)) b_Reading_read_name v_Reading_read_name (passes_call (takes_of rfl rfl rfl rfl) (fun _ _ _ _ h => h)) (pa_cons (pv 1) pa_nil)))
  (pss_cons (ps_set (i := 3) sc_Reading_read_end_tag.nd rfl (Or.inl rfl) (pe_ix (ixT K rfl) (pe_ix (ixL K rfl) (eFld K rfl (pv 0) rfl) (pe_un un_neg pe_int) (fun _ _ => rfl)) pe_int (fun _ _ => rfl)))
  (pss_cons (ps_set (i := 4) sc_Reading_read_end_tag.nd rfl (Or.inl rfl) (pe_and (pe_cmpR op_eq (eFld K rfl (pv 0) rfl) (pe_callB call_len_str (by rfl) T.n_len PySem.boot_len (pa_cons (eFld K rfl (pv 0) rfl) pa_nil)) (nomark _)) (pe_one (eBm K rfl PySem.F.plainAttrs_str PySem.F.slot_str_startswith PySem.F.type_str_startswith mt_startswith (pv 3) (pa_cons (pv 2) pa_nil)))))
  (pss_cons (ps_if (PW.pt (pw_and (pt_cmpR op_ne (pv 2) (pv 3) (nomark _)) (pw_and1 (pt_not (pt_val (pv 4)))))) (pss_one (ps_expr (pe_call G__refuse (hr.mono (by first | decide | omega)) rfl T.g__refuse T.k__refuse b__refuse v__refuse (passes_call (takes_of rfl rfl rfl rfl) (fun _ _ _ _ h => h)) (pa_cons (eFld K rfl (pv 0) rfl) (pa_cons (pv 1) (pa_cons pe_str pa_nil)))))) pss_nil)
  (pss_cons (ps_expr (pe_meth0 (pv 0) T.cl_Reading T.me_Reading_read_tag_end G_Reading_read_tag_end (hr.mono (by first | decide | omega)) b_Reading_read_tag_end v_Reading_read_tag_end (passes_call (takes_of rfl rfl rfl rfl) (fun _ _ _ _ h => h))))
  (pss_one (ps_expr (eBm0 K rfl PySem.F.plainAttrs_list PySem.F.slot_list_pop PySem.F.type_list_pop mt_pop (eFld K rfl (pv 0) rfl)))))))))), ?_⟩
    have noo : ∀ {a : Addr} {u : HO}, H a = some u → (∀ C dx fs, u ≠ .ins C dx fs) → a ≠ o := fun {a u} ha hu e => by
      obtain ⟨dx, hR⟩ := R
      rw [e, hR] at ha
      exact hu _ _ _ (Option.some.inj ha).symm
    have n1 : st ≠ o := noo hst nofun
    have n2 : t ≠ o := noo htt nofun
    have f := rd_fld (K := K) T R (σ := [some (.ref o), none, none, none, none]) rfl
    have hl1 : remS z (i + 2) l := hl.drop (k := 2) (by simp)
    have hln := hl1.len
    have hzl : z.length = z.cps.size := rfl
    unfold rdEnd at kno kok
    rw [show (60 :: 47 :: l).drop 2 = l from rfl] at kno kok
    refine st_seq (go_asg (val_I f.2.1 val_c _ ?_))
    dsimp only [gName]
    obtain ⟨dx, hR⟩ := id R
    refine st_seq (go_asg ?_)
    refine ⟨_, rfl, o, dx, _, rfl, hR, fn_Reading_read_name .., _, rfl, H0, o, z, i, n, st, i + 2, l, by rw [show (i : Int) + 2 = ((i + 2 : Nat) : Int) by omega] <;> rfl, R, hl1, hz, hx, fun e => ?_, fun e H1 R1 e1 => ?_⟩
    · rw [e] at kno
      exact kno _ _ rfl
    rw [e] at kno kok
    simp only [cond_true] at kno kok
    have hrl := runL_le letB l
    have hl2 := hl1.drop hrl
    have hnl : (l.take (runL letB l)).length = runL letB l := by rw [List.length_take]; omega
    generalize l.drop (runL letB l) = r at kno kok hl2
    generalize l.take (runL letB l) = nm at kno kok hnl ⊢
    generalize runL letB l = k at kno kok hl2 hrl hnl R1
    clear e
    have hln2 := hl2.len
    dsimp only [gName]
    have hst1 := e1.at hst (by simpa using n1)
    have htt1 := e1.at htt (by simpa using n2)
    have hx1 : Ex H0 H1 := kids_len hx e1 hxo
    have f1 := rd_fld (K := K) T R1 (σ := [some (.ref o), some (.int ((i : Int) + 2)), some (.str (sL nm)), none, none]) rfl
    refine st_seq (go_asg (val_ixT (val_ixL f1.2.2.2 (val_neg val_c) (SqL.of hst1) (atI_last _ _)) val_c (SqT.of htt1) at_cons _ ?_))
    dsimp only [gName]
    generalize topN F = due at kno kok ⊢
    have f2 := rd_fld (K := K) T R1 (σ := [some (.ref o), some (.int ((i : Int) + 2)), some (.str (sL nm)), some (.str due), none]) rfl
    refine st_seq (go_asg (val_is (w := .bl (decide (r = [] ∧ due.cps.toList.take k = nm))) (val_and (a := decide (r = [])) (b := decide (due.cps.toList.take k = nm)) (val_is (val_eq f2.2.1 (val_cb (va_one f2.1) fun Q q => ⟨z, rfl, szB (Nat.le_succ_of_le hz), q⟩) rfl) (by
      congr 1
      rw [decide_eq_decide]
      exact ⟨fun h => by
        have := V.int.inj h
        exact List.eq_nil_of_length_eq_zero (by omega), fun h => by
        subst h
        rw [List.length_nil] at hln2
        congr 1
        omega⟩)) fun _ Q q => ⟨_, rfl, rfl, _, rfl, due, sL nm, rfl, rfl, by rw [sw2, sL_list, hnl]; exact q⟩) (by rw [Bool.decide_and]) _ ?_))
    dsimp only [gName]
    have f3 := rd_fld (K := K) T R1 (σ := [some (.ref o), some (.int ((i : Int) + 2)), some (.str (sL nm)), some (.str due), some (.bl (decide (r = [] ∧ due.cps.toList.take k = nm)))]) rfl
    refine st_seq (st_if (b := decide (nm ≠ due.cps.toList ∧ ¬ (r = [] ∧ due.cps.toList.take k = nm))) (ans_is (ans_and3 (a := !decide (sL nm = due)) (b := !decide (r = [] ∧ due.cps.toList.take k = nm)) (ans_v (val_is (val_ne (val_var rfl) (val_var rfl) rfl) (by
      congr 2
      rw [decide_eq_decide]
      exact ⟨fun h => V.str.inj h, fun h => by rw [h]⟩))) fun _ => ans_not (ans_v (val_var rfl))) (by
      have hE : decide (sL nm = due) = decide (nm = due.cps.toList) := by
        rw [decide_eq_decide]
        exact ⟨fun h => by rw [← h]; rfl, fun h => by rw [h, sL_of]⟩
      rw [hE]
      by_cases h1 : nm = due.cps.toList
      · rw [decide_eq_true h1, decide_eq_false (show ¬ (nm ≠ due.cps.toList ∧ ¬ (r = [] ∧ due.cps.toList.take k = nm)) from fun q => q.1 h1)]
        rfl
      · by_cases h2 : (r = [] ∧ due.cps.toList.take k = nm)
        · rw [decide_eq_false h1, decide_eq_true h2, decide_eq_false (show ¬ (nm ≠ due.cps.toList ∧ ¬ (r = [] ∧ due.cps.toList.take k = nm)) from fun q => q.2 h2)]
          rfl
        · rw [decide_eq_false h1, decide_eq_false h2, decide_eq_true (show nm ≠ due.cps.toList ∧ ¬ (r = [] ∧ due.cps.toList.take k = nm) from ⟨h1, h2⟩)]
          rfl)) (fun hb => ?_) (fun hb => ?_))
    · rw [if_pos (of_decide_eq_true hb)] at kno
      exact rd_refuse (i := i + 2) f3.1 (val_is (val_var rfl) (by congr 1)) hx1 hl1 hz (kno _ _ rfl)
    rw [if_neg (of_decide_eq_false hb)] at kno kok
    unfold rdEndTag at kno kok
    dsimp only [tNext]
    obtain ⟨dx1, hR1⟩ := id R1
    refine st_seq ⟨_, rfl, o, dx1, _, rfl, hR1, fn_Reading_read_tag_end .., H0, o, z, _, n, st, r, rfl, R1, hl2, hz, hx1, fun e => ?_, fun e H2 R2 e2 => ?_⟩
    · rw [if_neg e] at kno
      exact kno _ _ rfl
    rw [if_pos e] at kok
    have hst2 := e2.at hst1 (by simpa using n1)
    dsimp only
    obtain ⟨dx2, hR2⟩ := R2
    refine ⟨_, rfl, o, _, dx2, _, _, rfl, hR2, T.cl_Reading, T.na_Reading_stack, fl_Reading_stack .., .inl ⟨rfl, _, SqL.of hst2⟩, st, _, V.ref t, rfl, rfl, hst2, by simp, ?_⟩
    rw [List.dropLast_concat]
    obtain ⟨q, rfl⟩ : ∃ q, r = 62 :: q := by
      cases r with
      | nil => cases e
      | cons c q => exact ⟨q, by rw [Option.some.inj e]⟩
    refine kok q _ rfl (by omega) hl2.one _ ?_ upd_same (((e1.trans e2).mono (by simp)).trans (Kp.put (by simp)))
    exact ⟨dx2, by rw [upd_ne n1.symm]; exact hR2⟩
theorem ok_Reading_read_root (T : TX K mg) : Can P w K mg base (L2.CX P w) 7 (He.fAd K at_Reading_read_root) ps_Reading_read_root [] (spRoot K) := by
  obtain ⟨fd_Reading_begins, G_Reading_begins, ds_Reading_begins, v_Reading_begins, b_Reading_begins⟩ := ok_Reading_begins (P := P) (w := w) (base := base) T
  obtain ⟨fd_Reading_read_begin_tag, G_Reading_read_begin_tag, ds_Reading_read_begin_tag, v_Reading_read_begin_tag, b_Reading_read_begin_tag⟩ := ok_Reading_read_begin_tag (P := P) (w := w) (base := base) T
  obtain ⟨fd__refuse, G__refuse, ds__refuse, v__refuse, b__refuse⟩ := ok__refuse (P := P) (w := w) (base := base) T
  exact mk_Reading_read_root T fun fd F => defX F sc_Reading_read_root (fun vs H Q E h => by
    obtain ⟨H0, o, z, i, n, st, l, rfl, _⟩ := h
    rfl) fun cdv A outer s H vs Q E hr h => by
    obtain ⟨H0, o, z, i, n, st, l, rfl, R, hl, hz, hx, kok, kno⟩ := h
    refine ⟨_, (pss_cons (ps_if (pt_not (pt_val (pe_meth (pv 0) T.cl_Reading T.me_Reading_begins G_Reading_begins (hr.mono (by first | decide | omega)) b_Reading_begins v_Reading_begins pass0 (pa_cons pe_str pa_nil)))) (pss_one (ps_expr (pe_call G__refuse (hr.mono (by first | decide | omega)) rfl T.g__refuse T.k__refuse b__refuse v__refuse (passes_call (takes_of rfl rfl rfl rfl) (fun _ _ _ _ h => h)) (pa_cons (eFld K rfl (pv 0) rfl) (pa_cons (eFld K rfl (pv 0) rfl) (pa_cons pe_str pa_nil)))))) pss_nil)
  (pss_one (ps_expr (pe_meth0 (pv 0) T.cl_Reading T.me_Reading_read_begin_tag G_Reading_read_begin_tag (hr.mono (by first | decide | omega)) b_Reading_read_begin_tag v_Reading_read_begin_tag (passes_call (takes_of rfl rfl rfl rfl) (fun _ _ _ _ h => h)))))), ?_⟩
    have hlt : ("<" : Str).cps.toList = [60] := by decide +kernel
    have f := rd_fld (K := K) T R (σ := [some (.ref o)]) rfl
    refine st_seq (st_if (ans_not (ans_v (rd_begin1 (K := K) R hl rfl hlt))) (fun hb => ?_) (fun hb => ?_))
    · exact rd_refuse f.1 f.2.1 hx hl hz (kno fun q => by rw [decide_eq_true q] at hb; cases hb)
    have hn : l.head? = some 60 := by simpa using hb
    dsimp only [tNext]
    obtain ⟨dx, hR⟩ := id R
    exact ⟨_, rfl, o, dx, _, rfl, hR, fn_Reading_read_begin_tag .., kok hn⟩
theorem ok_Reading_read_part (T : TX K mg) : Can P w K mg base (L2.CX P w) 7 (He.fAd K at_Reading_read_part) ps_Reading_read_part [] (spPart K) := by
  obtain ⟨fd_Reading_begins, G_Reading_begins, ds_Reading_begins, v_Reading_begins, b_Reading_begins⟩ := ok_Reading_begins (P := P) (w := w) (base := base) T
  obtain ⟨fd_Reading_read_begin_tag, G_Reading_read_begin_tag, ds_Reading_read_begin_tag, v_Reading_read_begin_tag, b_Reading_read_begin_tag⟩ := ok_Reading_read_begin_tag (P := P) (w := w) (base := base) T
  obtain ⟨fd_Reading_read_end_tag, G_Reading_read_end_tag, ds_Reading_read_end_tag, v_Reading_read_end_tag, b_Reading_read_end_tag⟩ := ok_Reading_read_end_tag (P := P) (w := w) (base := base) T
  obtain ⟨fd_Reading_read_text, G_Reading_read_text, ds_Reading_read_text, v_Reading_read_text, b_Reading_read_text⟩ := ok_Reading_read_text (P := P) (w := w) (base := base) T
  exact mk_Reading_read_part T fun fd F => defX F sc_Reading_read_part (fun vs H Q E h => by
    obtain ⟨o, z, i, n, st, l, rfl, _⟩ := h
    rfl) fun cdv A outer s H vs Q E hr h => by
    obtain ⟨o, z, i, n, st, l, rfl, R, hl, k1, k2, k3⟩ := h
    refine ⟨_, (pss_one (ps_if (pt_val (pe_meth (pv 0) T.cl_Reading T.me_Reading_begins G_Reading_begins (hr.mono (by first | decide | omega)) b_Reading_begins v_Reading_begins pass0 (pa_cons pe_str pa_nil))) (pss_one (ps_expr (pe_meth0 (pv 0) T.cl_Reading T.me_Reading_read_end_tag G_Reading_read_end_tag (hr.mono (by first | decide | omega)) b_Reading_read_end_tag v_Reading_read_end_tag (passes_call (takes_of rfl rfl rfl rfl) (fun _ _ _ _ h => h))))) (pss_one (ps_if (pt_val (pe_meth (pv 0) T.cl_Reading T.me_Reading_begins G_Reading_begins (hr.mono (by first | decide | omega)) b_Reading_begins v_Reading_begins pass0 (pa_cons pe_str pa_nil))) (pss_one (ps_expr (pe_meth0 (pv 0) T.cl_Reading T.me_Reading_read_begin_tag G_Reading_read_begin_tag (hr.mono (by first | decide | omega)) b_Reading_read_begin_tag v_Reading_read_begin_tag (passes_call (takes_of rfl rfl rfl rfl) (fun _ _ _ _ h => h))))) (pss_one (ps_expr (pe_meth0 (pv 0) T.cl_Reading T.me_Reading_read_text G_Reading_read_text (hr.mono (by first | decide | omega)) b_Reading_read_text v_Reading_read_text (passes_call (takes_of rfl rfl rfl rfl) (fun _ _ _ _ h => h))))))))), ?_⟩
    have hlt : ("<" : Str).cps.toList = [60] := by decide +kernel
    have hle : ("</" : Str).cps.toList = [60, 47] := by decide +kernel
    obtain ⟨dx, hR⟩ := id R
    refine rd_begins (K := K) R hl rfl val_c ⟨_, rfl, ?_⟩
    rw [hle, show ([60, 47] : List Nat).length = 2 from rfl]
    by_cases h1 : l.take 2 = [60, 47]
    · rw [decide_eq_true h1]
      exact iteT ⟨_, rfl, o, dx, _, rfl, hR, fn_Reading_read_end_tag .., k1 h1⟩
    rw [decide_eq_false h1]
    refine iteF (rd_begin1 (K := K) R hl rfl hlt _ ⟨_, rfl, ?_⟩)
    by_cases h2 : l.head? = some 60
    · rw [decide_eq_true h2]
      exact iteT ⟨_, rfl, o, dx, _, rfl, hR, fn_Reading_read_begin_tag .., k2 h1 h2⟩
    · rw [decide_eq_false h2]
      exact iteF ⟨_, rfl, o, dx, _, rfl, hR, fn_Reading_read_text .., k3 h1 h2⟩
theorem ok_Reading_init (T : TX K mg) : Can P w K mg base CX0 1 (He.fAd K at_Reading_init) ps_Reading_init [] (spInit K) := mk_Reading_init T fun fd F => def0 F sc_Reading_init (fun vs H Q E h => by
  obtain ⟨o, dx, z, rfl, _⟩ := h
  rfl) fun cdv A outer s H vs Q E hr h => by
  obtain ⟨o, dx, z, rfl, ho, k⟩ := h
  refine ⟨_, (pss_cons (sFd K rfl (pv 0) (pv 1) rfl)
  (pss_cons (sFd K rfl (pv 0) pe_int rfl)
  (pss_cons (sFd K rfl (pv 0) pe_int rfl)
  (pss_one (sFd K rfl (pv 0) (pe_lst (pa_cons (pe_tup (pa_cons pe_str (pa_cons (pe_lst pa_nil) pa_nil))) pa_nil)) rfl))))), ?_⟩
  refine st_seq ⟨_, rfl, _, rfl, o, _, dx, [], rfl, ho, T.cl_Reading, T.na_Reading_source, by decide, ?_⟩
  refine st_seq ⟨_, rfl, o, _, dx, [("source", .str z)], rfl, upd_same, T.cl_Reading, T.na_Reading_reached, (by decide : 1 < 1000), ?_⟩
  rw [pf_Reading_reached, upd_upd]
  dsimp only
  refine st_seq ⟨_, rfl, o, _, dx, _, rfl, upd_same, T.cl_Reading, T.na_Reading_nodes, (by decide : 2 < 1000), ?_⟩
  rw [pf_Reading_nodes, upd_upd]
  dsimp only
  have oX : upd H o (.ins (He.ga K "Reading") dx [("source", .str z), ("reached", .int 0), ("nodes", .int 0)]) o = some (.ins (He.ga K "Reading") dx [("source", .str z), ("reached", .int 0), ("nodes", .int 0)]) := upd_same
  have eX : Kp [o] H (upd H o (.ins (He.ga K "Reading") dx [("source", .str z), ("reached", .int 0), ("nodes", .int 0)])) := Kp.up
  generalize upd H o (.ins (He.ga K "Reading") dx [("source", .str z), ("reached", .int 0), ("nodes", .int 0)]) = X at oX eX ⊢
  have back : ∀ a, X a = none → H a = none := fun a h => eX.back (fun b hb => by rw [List.mem_singleton.mp hb, oX]; nofun) h
  refine ⟨by show 0 ≤ sizeLine; decide, fun l hl => ⟨by show 2 ≤ sizeLine; decide, fun t ht => ⟨by show 1 ≤ sizeLine; decide, fun st hst => ?_⟩⟩⟩
  have nlo : l ≠ o := fun e => by rw [e, oX] at hl; cases hl
  have htl : t ≠ l := fun e => by rw [e, upd_same] at ht; cases ht
  rw [upd_ne htl] at ht
  have nto : t ≠ o := fun e => by rw [e, oX] at ht; cases ht
  have hsn : st ≠ t := fun e => by rw [e, upd_same] at hst; cases hst
  rw [upd_ne hsn] at hst
  have hsl : st ≠ l := fun e => by rw [e, upd_same] at hst; cases hst
  rw [upd_ne hsl] at hst
  have nso : st ≠ o := fun e => by rw [e, oX] at hst; cases hst
  refine ⟨_, rfl, o, _, dx, [("source", .str z), ("reached", .int 0), ("nodes", .int 0)], rfl, by rw [upd_ne nso.symm, upd_ne nto.symm, upd_ne nlo.symm]; exact oX, T.cl_Reading, T.na_Reading_stack, (by decide : 3 < 1000), ?_⟩
  rw [pf_Reading_stack]
  refine k _ st t l (back _ hst) (back _ ht) (back _ hl) hsn hsl htl ⟨dx, upd_same⟩ ?_ ?_ ?_ ?_
  · rw [upd_ne nso, upd_same]
  · rw [upd_ne nto, upd_ne hsn.symm, upd_same]
  · rw [upd_ne nlo, upd_ne hsl.symm, upd_ne htl.symm, upd_same]
  · refine eX.trans (((Kp.new hl).trans (Kp.new ?_)).trans ((Kp.new ?_).trans (Kp.put (by simp))))
    · rw [upd_ne htl]
      exact ht
    · rw [upd_ne hsn, upd_ne hsl]
      exact hst
end
/-! ### the program's reader on every text, whole -/
/-- one frame: where it is, and that what it holds is data -/
structure FrG (K : PySem.W.Frag) (H0 : Hp) (S : List Addr) (G : Hp) (m : Nat) (above : List V) (f : Fr) : Prop where
  t : G f.t = some (.tup [.str f.n, .ref f.l])
  l : G f.l = some (.lst (f.vs ++ above))
  c : Clo K S G f.vs f.ds
  few : f.vs.length + above.length ≤ m
  h : H0 f.l = none
def FrsG (K : PySem.W.Frag) (H0 : Hp) (S : List Addr) (G : Hp) (m : Nat) : List V → List Fr → Prop
  | _, [] => True
  | above, f :: r => FrG K H0 S G m above f ∧ FrsG K H0 S G m [.ref f.t] r
theorem FrG.step {K : PySem.W.Frag} {H0 : Hp} {S S1 S' : List Addr} {G G1 : Hp} {m m' : Nat} {above : List V} {f : Fr} (h : FrG K H0 S G m above f) (e : Kp S' G G1) (hl : f.l ∉ S') (ht : ∀ a ∈ S', ∀ xs, G a ≠ some (.tup xs)) (hC : ∀ vs ds, Clo K S G vs ds → Clo K S1 G1 vs ds) (hm : m ≤ m') : FrG K H0 S1 G1 m' above f :=
  ⟨e.at h.t fun z => ht _ z _ h.t, e.at h.l hl, hC _ _ h.c, Nat.le_trans h.few hm, h.h⟩
theorem FrsG.step {K : PySem.W.Frag} {H0 : Hp} {S S1 S' : List Addr} {G G1 : Hp} {m m' : Nat} (e : Kp S' G G1) (ht : ∀ a ∈ S', ∀ xs, G a ≠ some (.tup xs)) (hC : ∀ vs ds, Clo K S G vs ds → Clo K S1 G1 vs ds) (hm : m ≤ m') :
    ∀ {r : List Fr} {above : List V}, (∀ f ∈ r, f.l ∉ S') → FrsG K H0 S G m above r → FrsG K H0 S1 G1 m' above r
  | [], _, _, _ => trivial
  | f :: r, _, hl, ⟨h1, h2⟩ => ⟨h1.step e (hl f (List.mem_cons_self ..)) ht hC hm, FrsG.step e ht hC hm (fun g hg => hl g (List.mem_cons_of_mem _ hg)) h2⟩
/-- what the model has of it -/
def mo (F : List Fr) : List Fram := F.map fun f => (f.n, f.ds)
structure InvG (K : PySem.W.Frag) (H0 : Hp) (z : Str) (o st : Addr) (i n : Nat) (l : List Nat) (F : List Fr) (G : Hp) : Prop where
  rd : RdO K G o z i n st
  rem : remS z i l
  stk : G st = some (.lst (F.map fun f => V.ref f.t).reverse)
  nd : (o :: st :: F.map Fr.l).Nodup
  fr : FrsG K H0 (o :: st :: F.map Fr.l) G n [] F
  ex : Ex H0 G
  ho : H0 o = none
  hs : H0 st = none
  len : F.length ≤ 61
  five : n ≤ 5000
section
variable {K : PySem.W.Frag} {H0 : Hp} {z : Str} {o st : Addr} {i n : Nat} {l : List Nat}
theorem frg_lst {S : List Addr} {G : Hp} {m : Nat} : ∀ {r : List Fr} {above : List V}, FrsG K H0 S G m above r → ∀ f ∈ r, (∃ ys, G f.l = some (.lst ys)) ∧ H0 f.l = none
  | [], _, _, _, h => by cases h
  | f :: r, _, ⟨h1, h2⟩, g, hg => by
    rcases List.mem_cons.mp hg with rfl | hg
    · exact ⟨⟨_, h1.l⟩, h1.h⟩
    · exact frg_lst h2 g hg
theorem InvG.notup {F : List Fr} {G : Hp} (I : InvG K H0 z o st i n l F G) : ∀ a ∈ o :: st :: F.map Fr.l, ∀ xs, G a ≠ some (.tup xs) := fun a ha xs => by
  rcases List.mem_cons.mp ha with rfl | ha
  · obtain ⟨dx, h⟩ := I.rd
    rw [h]
    nofun
  rcases List.mem_cons.mp ha with rfl | ha
  · rw [I.stk]
    nofun
  · obtain ⟨f, hf, rfl⟩ := List.mem_map.mp ha
    obtain ⟨⟨ys, h⟩, _⟩ := frg_lst I.fr f hf
    rw [h]
    nofun
theorem InvG.on {F : List Fr} {G : Hp} (I : InvG K H0 z o st i n l F G) : ∀ a ∈ o :: st :: F.map Fr.l, G a ≠ none := fun a ha => by
  rcases List.mem_cons.mp ha with rfl | ha
  · exact I.rd.on
  rcases List.mem_cons.mp ha with rfl | ha
  · rw [I.stk]
    nofun
  · obtain ⟨f, hf, rfl⟩ := List.mem_map.mp ha
    obtain ⟨⟨ys, h⟩, _⟩ := frg_lst I.fr f hf
    rw [h]
    nofun
theorem InvG.fresh {F : List Fr} {G : Hp} (I : InvG K H0 z o st i n l F G) : ∀ a ∈ o :: st :: F.map Fr.l, H0 a = none := fun a ha => by
  rcases List.mem_cons.mp ha with rfl | ha
  · exact I.ho
  rcases List.mem_cons.mp ha with rfl | ha
  · exact I.hs
  · obtain ⟨f, hf, rfl⟩ := List.mem_map.mp ha
    exact (frg_lst I.fr f hf).2
theorem st_split {G : Hp} {f : Fr} {r : List Fr} (h : G st = some (.lst ((f :: r).map fun f => V.ref f.t).reverse)) : G st = some (.lst ((r.map fun f => V.ref f.t).reverse ++ [.ref f.t])) := by
  rw [h, List.map_cons, List.reverse_cons]
/-- a begin tag -/
theorem InvG.begin {f : Fr} {r : List Fr} {G : Hp} {Q : VK} {E : XK} (I : InvG K H0 z o st i n (60 :: l) (f :: r) G) (hz : z.cps.size ≤ 200000)
    (kno : ∀ j y, rdBegin (mo (f :: r)) (60 :: l) i n = .no j y → BadR K H0 E z j y)
    (k : ∀ (l' : List Nat) (i' n' : Nat) (F' : List Fr) (G' : Hp), rdBegin (mo (f :: r)) (60 :: l) i n = .ok (mo F') l' i' n' → InvG K H0 z o st i' n' l' F' G' → i < i' → Q .non G') : spBegin K [.ref o] G Q E := by
  obtain ⟨h1, h2⟩ := I.fr
  have hnd := I.nd
  have hfew := h1.few
  rw [List.length_nil, Nat.add_zero] at hfew
  have h5 := I.five
  have nls : f.l ≠ st := fun q => by
    have := (List.nodup_cons.mp (List.nodup_cons.mp hnd).2).1
    exact this (by rw [← q]; exact List.mem_cons_self ..)
  have hSub : ∀ a ∈ [o, f.l, st], a ∈ o :: st :: (f :: r).map Fr.l := by simp
  have hin : ∀ g ∈ r, g.l ∉ [o, f.l, st] := fun g hg q => by
    have hm : g.l ∈ r.map Fr.l := List.mem_map.mpr ⟨g, hg, rfl⟩
    obtain ⟨n1, n2⟩ := List.nodup_cons.mp hnd
    obtain ⟨n3, n4⟩ := List.nodup_cons.mp n2
    rw [List.map_cons] at n1 n3 n4
    obtain ⟨n5, _⟩ := List.nodup_cons.mp n4
    simp only [List.mem_cons, List.not_mem_nil, or_false] at q
    rcases q with q | q | q
    · exact n1 (by rw [← q]; exact List.mem_cons_of_mem _ (List.mem_cons_of_mem _ hm))
    · exact n5 (by rw [← q]; exact hm)
    · exact n3 (by rw [← q]; exact List.mem_cons_of_mem _ hm)
  have hlen := I.len
  rw [List.length_cons] at hlen
  refine ⟨H0, o, z, i, n, st, f.t, f.l, (r.map fun f => V.ref f.t).reverse, f.vs, .str f.n, l, mo (f :: r), rfl, I.rd, I.rem, hz, I.ex, I.ho, I.hs, h1.h, st_split I.stk, h1.t, by have := h1.l; rwa [List.append_nil] at this, nls, by omega, by rw [List.length_reverse, List.length_map]; omega, by
    rw [List.length_reverse, List.length_map]
    show (List.map _ _).length = _
    rw [List.length_map, List.length_cons], kno, ?_⟩
  intro nm b l' i' eo hn5 hp60 hi hr2 G1 t' lq ht' hl' ntl R1 g1 g2 g3 g4 e1
  rw [List.length_reverse, List.length_map] at hp60
  have hS : ∀ a ∈ o :: st :: (f :: r).map Fr.l, a ≠ t' ∧ a ≠ lq := fun a ha => ⟨fun q => I.on a ha (q ▸ ht'), fun q => I.on a ha (q ▸ hl')⟩
  have hT : ∀ a ∈ [o, f.l, st], ∀ xs, G a ≠ some (.tup xs) := fun a ha => I.notup a (hSub a ha)
  have hEx : Ex H0 G1 := ex_kp I.ex e1 fun a ha => I.fresh a (hSub a ha)
  have htt : G1 f.t = some (.tup [.str f.n, .ref f.l]) := e1.at h1.t fun q => hT _ q _ h1.t
  cases b with
  | true =>
    rw [if_pos rfl] at g4 eo
    have eS : Kp (o :: st :: (f :: r).map Fr.l) G G1 := e1.mono hSub
    refine k _ _ _ ({ f with vs := f.vs ++ [.ref t'], ds := f.ds ++ [.el nm []] } :: r) G1 eo ⟨R1, hr2, ?_, I.nd, ⟨⟨htt, ?_, ?_, ?_, h1.h⟩, h2.step e1 hT (fun vs ds c => c.step eS) (Nat.le_succ n) hin⟩, hEx, I.ho, I.hs, I.len, by omega⟩ hi
    · rw [g4, List.map_cons, List.reverse_cons]
    · rw [List.append_nil]; exact g3
    · intro G2 e2
      rw [ds_app]
      refine dpAll_snoc (h1.c G2 (eS.trans e2)) ?_
      refine .tup (SqT.of (e2.at g1 fun q => (hS _ q).1 rfl)) (.cons (.str _) (.cons (.lst (SqL.of (e2.at g2 fun q => (hS _ q).2 rfl)) .nil) .nil))
    · show (f.vs ++ [V.ref t']).length + 0 ≤ n + 1
      rw [List.length_append, List.length_singleton]
      omega
  | false =>
    rw [if_neg nofun] at g4 eo
    have hon : ∀ a ∈ o :: st :: lq :: f.l :: r.map Fr.l, a = lq ∨ a ∈ o :: st :: (f :: r).map Fr.l := fun a ha => by
      simp only [List.map_cons, List.mem_cons] at ha ⊢
      rcases ha with h | h | h | h | h
      · exact .inr (.inl h)
      · exact .inr (.inr (.inl h))
      · exact .inl h
      · exact .inr (.inr (.inr (.inl h)))
      · exact .inr (.inr (.inr (.inr h)))
    have hC : ∀ vs ds, Clo K (o :: st :: (f :: r).map Fr.l) G vs ds → Clo K (o :: st :: lq :: f.l :: r.map Fr.l) G1 vs ds := fun vs ds c => c.open (e1.mono hSub) hl' hon
    refine k _ _ _ (⟨t', lq, nm, [], [], []⟩ :: f :: r) G1 eo ⟨R1, hr2, ?_, ?_, ⟨⟨g1, ?_, ?_, ?_, ?_⟩, ⟨htt, ?_, hC _ _ h1.c, ?_, h1.h⟩, h2.step e1 hT hC (Nat.le_succ n) hin⟩, hEx, I.ho, I.hs, ?_, by omega⟩ hi
    · rw [g4]
      simp
    · have a1 := hS o (by simp)
      have a2 := hS st (by simp)
      have a3 : lq ∉ (f :: r).map Fr.l := fun h => (hS lq (by simp only [List.mem_cons]; exact .inr (.inr h))).2 rfl
      show (o :: st :: lq :: (f :: r).map Fr.l).Nodup
      obtain ⟨n1, n2⟩ := List.nodup_cons.mp hnd
      obtain ⟨n3, n4⟩ := List.nodup_cons.mp n2
      refine List.nodup_cons.mpr ⟨fun h => ?_, List.nodup_cons.mpr ⟨fun h => ?_, List.nodup_cons.mpr ⟨a3, n4⟩⟩⟩
      · rcases List.mem_cons.mp h with h | h
        · exact n1 (by rw [h]; exact List.mem_cons_self ..)
        rcases List.mem_cons.mp h with h | h
        · exact a1.2 h
        · exact n1 (List.mem_cons_of_mem _ h)
      · rcases List.mem_cons.mp h with h | h
        · exact a2.2 h
        · exact n3 h
    · exact g2
    · exact fun G2 _ => .nil
    · exact Nat.zero_le _
    · exact ex_none I.ex hl'
    · exact g3
    · show f.vs.length + 1 ≤ n + 1
      omega
    · show r.length + 1 + 1 ≤ 61
      omega
/-- a text -/
theorem InvG.text {f : Fr} {r : List Fr} {G : Hp} {Q : VK} {E : XK} (I : InvG K H0 z o st i n l (f :: r) G) (h60 : l.head? ≠ some 60) (hz : z.cps.size ≤ 200000)
    (kno : ∀ j y, rdText (mo (f :: r)).length (l.length + 1) [] l i n = .no j y → BadR K H0 E z j y)
    (k : ∀ (y l' : List Nat) (i' n' : Nat) (F' : List Fr) (G' : Hp), rdText (mo (f :: r)).length (l.length + 1) [] l i n = .ok y l' i' n' → mo F' = addK (mo (f :: r)) (.txt (sL y)) → InvG K H0 z o st i' n' l' F' G' → i < i' → Q .non G') : spText K [.ref o] G Q E := by
  obtain ⟨h1, h2⟩ := I.fr
  have hfew := h1.few
  rw [List.length_nil, Nat.add_zero] at hfew
  have hnd := I.nd
  have h5 := I.five
  have hSub : ∀ a ∈ [o, f.l], a ∈ o :: st :: (f :: r).map Fr.l := by simp
  obtain ⟨n1, n2⟩ := List.nodup_cons.mp hnd
  obtain ⟨n3, n4⟩ := List.nodup_cons.mp n2
  rw [List.map_cons] at n1 n3 n4
  obtain ⟨n5, _⟩ := List.nodup_cons.mp n4
  have hin : ∀ g ∈ r, g.l ∉ [o, f.l] := fun g hg q => by
    have hm : g.l ∈ r.map Fr.l := List.mem_map.mpr ⟨g, hg, rfl⟩
    simp only [List.mem_cons, List.not_mem_nil, or_false] at q
    rcases q with q | q
    · exact n1 (by rw [← q]; exact List.mem_cons_of_mem _ (List.mem_cons_of_mem _ hm))
    · exact n5 (by rw [← q]; exact hm)
  have hlen := I.len
  rw [List.length_cons] at hlen
  have hml : (mo (f :: r)).length = (r.map fun f => V.ref f.t).reverse.length + 1 := by
    rw [List.length_reverse, List.length_map]
    show (List.map _ _).length = _
    rw [List.length_map, List.length_cons]
  rw [hml] at kno k
  refine ⟨H0, o, z, i, n, st, f.t, f.l, (r.map fun f => V.ref f.t).reverse, f.vs, .str f.n, l, rfl, I.rd, I.rem, hz, I.ex, I.ho, st_split I.stk, h1.t, by have := h1.l; rwa [List.append_nil] at this, by omega, by rw [List.length_reverse, List.length_map]; omega, kno, ?_⟩
  intro y l' i' n' eo hr2 G1 R1 g3 e1
  obtain ⟨rfl, hc, hll⟩ := rdText_first h60 eo
  have hn5 : n ≠ 5000 := by
    unfold cntR at hc
    split at hc
    · cases hc
    split at hc
    · cases hc
    · assumption
  have hT : ∀ a ∈ [o, f.l], ∀ xs, G a ≠ some (.tup xs) := fun a ha => I.notup a (hSub a ha)
  have hEx : Ex H0 G1 := ex_kp I.ex e1 fun a ha => I.fresh a (hSub a ha)
  have htt : G1 f.t = some (.tup [.str f.n, .ref f.l]) := e1.at h1.t fun q => hT _ q _ h1.t
  have eS : Kp (o :: st :: (f :: r).map Fr.l) G G1 := e1.mono hSub
  have hl1 := I.rem.len
  have hl2 := hr2.len
  refine k y l' i' _ ({ f with vs := f.vs ++ [.str (sL y)], ds := f.ds ++ [.txt (sL y)] } :: r) G1 eo rfl ⟨R1, hr2, ?_, I.nd, ⟨⟨htt, ?_, ?_, ?_, h1.h⟩, h2.step e1 hT (fun vs ds c => c.step eS) (Nat.le_succ n) hin⟩, hEx, I.ho, I.hs, I.len, by omega⟩ (by omega)
  · exact e1.at I.stk fun q => by
      simp only [List.mem_cons, List.not_mem_nil, or_false] at q
      rcases q with q | q
      · exact n1 (by rw [← q]; exact List.mem_cons_self ..)
      · exact n3 (by rw [← q]; exact List.mem_cons_self ..)
  · rw [List.append_nil]; exact g3
  · intro G2 e2
    rw [ds_app]
    exact dpAll_snoc (h1.c G2 (eS.trans e2)) (.str _)
  · show (f.vs ++ [V.str (sL y)]).length + 0 ≤ n + 1
    rw [List.length_append, List.length_singleton]
    omega
/-- an end tag -/
theorem InvG.close {f g : Fr} {r : List Fr} {G : Hp} {Q : VK} {E : XK} (I : InvG K H0 z o st i n (60 :: 47 :: l) (f :: g :: r) G) (hz : z.cps.size ≤ 200000)
    (kno : ∀ j y, rdEnd (mo (f :: g :: r)) (60 :: 47 :: l) i n = .no j y → BadR K H0 E z j y)
    (k : ∀ (l' : List Nat) (i' n' : Nat) (F' : List Fr) (G' : Hp), rdEnd (mo (f :: g :: r)) (60 :: 47 :: l) i n = .ok (mo F') l' i' n' → InvG K H0 z o st i' n' l' F' G' → i < i' → Q .non G') : spEnd K [.ref o] G Q E := by
  obtain ⟨h1, h2, h3⟩ := I.fr
  have hnd := I.nd
  have hlen := I.len
  have hfew := h2.few
  obtain ⟨n1, n2⟩ := List.nodup_cons.mp hnd
  obtain ⟨n3, n4⟩ := List.nodup_cons.mp n2
  rw [List.map_cons, List.map_cons] at n1 n3 n4
  obtain ⟨n5, n6⟩ := List.nodup_cons.mp n4
  have hSub : ∀ a ∈ [o, st], a ∈ o :: st :: (f :: g :: r).map Fr.l := by simp
  have hS1 : ∀ a ∈ o :: st :: (g :: r).map Fr.l, a ∈ o :: st :: (f :: g :: r).map Fr.l := by
    intro a ha
    simp only [List.map_cons, List.mem_cons] at ha ⊢
    rcases ha with h | h | h | h
    · exact .inl h
    · exact .inr (.inl h)
    · exact .inr (.inr (.inr (.inl h)))
    · exact .inr (.inr (.inr (.inr h)))
  have hno : ∀ u ∈ f :: g :: r, u.l ∉ [o, st] := fun u hu q => by
    have hm : u.l ∈ (f :: g :: r).map Fr.l := List.mem_map.mpr ⟨u, hu, rfl⟩
    simp only [List.mem_cons, List.not_mem_nil, or_false] at q
    rcases q with q | q
    · exact n1 (by rw [← q]; exact List.mem_cons_of_mem _ hm)
    · exact n3 (by rw [← q]; exact hm)
  refine ⟨H0, o, z, i, n, st, f.t, f.l, ((g :: r).map fun f => V.ref f.t).reverse, l, mo (f :: g :: r), rfl, I.rd, I.rem, hz, I.ex, I.ho, st_split I.stk, h1.t, kno, fun l' i' eo hi hr2 G1 R1 g4 e1 => ?_⟩
  have hT : ∀ a ∈ [o, st], ∀ xs, G a ≠ some (.tup xs) := fun a ha => I.notup a (hSub a ha)
  have hEx : Ex H0 G1 := ex_kp I.ex e1 fun a ha => I.fresh a (hSub a ha)
  have eS : Kp (o :: st :: (f :: g :: r).map Fr.l) G G1 := e1.mono hSub
  have hC : ∀ vs ds, Clo K (o :: st :: (f :: g :: r).map Fr.l) G vs ds → Clo K (o :: st :: (g :: r).map Fr.l) G1 vs ds := fun vs ds c => (c.step eS).less hS1
  have hft : f.t ∉ o :: st :: (g :: r).map Fr.l := fun q => I.notup _ (hS1 _ q) _ h1.t
  have hfl : f.l ∉ o :: st :: (g :: r).map Fr.l := fun q => by
    rcases List.mem_cons.mp q with q | q
    · exact n1 (by rw [← q]; exact List.mem_cons_of_mem _ (List.mem_cons_self ..))
    rcases List.mem_cons.mp q with q | q
    · exact n3 (by rw [← q]; exact List.mem_cons_self ..)
    · exact n5 q
  have gft := e1.at h1.t fun q => hT _ q _ h1.t
  have gfl := e1.at h1.l (hno f (List.mem_cons_self ..))
  rw [List.append_nil] at gfl
  refine k _ _ _ ({ g with vs := g.vs ++ [.ref f.t], ds := g.ds ++ [.el f.n f.ds] } :: r) G1 eo ⟨R1, hr2, g4, ?_, ⟨⟨e1.at h2.t fun q => hT _ q _ h2.t, ?_, ?_, ?_, h2.h⟩, h3.step e1 hT hC (Nat.le_refl n) fun u hu => hno u (List.mem_cons_of_mem _ (List.mem_cons_of_mem _ hu))⟩, hEx, I.ho, I.hs, ?_, I.five⟩ hi
  · refine List.nodup_cons.mpr ⟨fun h => n1 ?_, List.nodup_cons.mpr ⟨fun h => n3 (List.mem_cons_of_mem _ h), n6⟩⟩
    rcases List.mem_cons.mp h with h | h
    · exact List.mem_cons.mpr (.inl h)
    · exact List.mem_cons_of_mem _ (List.mem_cons_of_mem _ h)
  · have := e1.at h2.l (hno g (List.mem_cons_of_mem _ (List.mem_cons_self ..)))
    rw [List.append_nil]
    exact this
  · intro G2 e2
    rw [ds_app]
    refine dpAll_snoc (h2.c G2 (eS.trans (e2.mono hS1))) ?_
    exact .tup (SqT.of (e2.at gft hft)) (.cons (.str _) (.cons (.lst (SqL.of (e2.at gfl hfl)) (h1.c G2 (eS.trans (e2.mono hS1)))) .nil))
  · show (g.vs ++ [V.ref f.t]).length + 0 ≤ n
    rw [List.length_append]
    exact hfew
  · show r.length + 1 ≤ 61
    rw [List.length_cons, List.length_cons] at hlen
    omega
/-- a turn of the reader -/
theorem InvG.part {F : List Fr} {G : Hp} {Q : VK} {E : XK} (I : InvG K H0 z o st i n l F G) (hF : 1 < F.length) (hz : z.cps.size ≤ 200000)
    (kno : ∀ j y, rdPart (mo F) l i n = .no j y → BadR K H0 E z j y)
    (k : ∀ (l' : List Nat) (i' n' : Nat) (F' : List Fr) (G' : Hp), rdPart (mo F) l i n = .ok (mo F') l' i' n' → InvG K H0 z o st i' n' l' F' G' → i < i' → Q .non G') : spPart K [.ref o] G Q E := by
  obtain ⟨f, g, r, rfl⟩ : ∃ f g r, F = f :: g :: r := by
    match F, hF with
    | f :: g :: r, _ => exact ⟨f, g, r, rfl⟩
  unfold rdPart at kno k
  refine ⟨o, z, i, n, st, l, rfl, I.rd, I.rem, fun h => ?_, fun h h60 => ?_, fun h h60 => ?_⟩
  · rw [if_pos h] at kno k
    obtain ⟨l', rfl⟩ : ∃ l', l = 60 :: 47 :: l' := by
      match l, h with
      | a :: b :: l', h =>
        have h1 := List.cons.inj h
        have h2 := List.cons.inj h1.2
        exact ⟨l', by rw [h1.1, h2.1]⟩
    exact I.close hz kno k
  · rw [if_neg h, if_pos h60] at kno k
    obtain ⟨l', rfl⟩ : ∃ l', l = 60 :: l' := by
      cases l with
      | nil => cases h60
      | cons c q => exact ⟨q, by rw [Option.some.inj h60]⟩
    exact I.begin hz kno k
  · rw [if_neg h, if_neg h60] at kno k
    refine I.text h60 hz (fun j y e => ?_) fun y l' i' n' F' G' e em I' hi => ?_
    · rw [e] at kno
      exact kno _ _ rfl
    · rw [e] at k
      exact k l' i' n' F' G' (by rw [em]) I' hi
end
def spRead2 (K : PySem.W.Frag) : Sp := fun vs H Q E => ∃ z : Str, vs = [.str z] ∧ z.cps.size ≤ 1000000 ∧
  (200000 < z.cps.size → ∀ (d : Addr) (H' : Hp), H d = none → Ex H H' → H' d = some (.xd [("limit", .str "text")]) → E (.ref (He.ga K "TooLarge")) (some d) H') ∧
  (z.cps.size ≤ 200000 → (∀ j y, rdDoc z.cps.toList = .no j y → BadR K H E z j y) ∧ ∀ (nm : Str) (t : Tr) (ds : List Tr) (l : List Nat) (i n : Nat), rdDoc z.cps.toList = .ok [(nm, t :: ds)] l i n → ∀ (v : V) (H' : Hp), Ex H H' → Dp K H' v t.d → Q v H')
section
variable {P : Program} {w : World} {K : PySem.W.Frag} {mg : Str → Option Value} {base : Heap}
theorem ok_read_document (T : TX K mg) : Can P w K mg base (L2.CX P w) 9 (He.fAd K at_read_document) ps_read_document [] (spRead2 K) := by
  obtain ⟨fd_Reading_read_root, G_Reading_read_root, ds_Reading_read_root, v_Reading_read_root, b_Reading_read_root⟩ := ok_Reading_read_root (P := P) (w := w) (base := base) T
  obtain ⟨fd_Reading_read_part, G_Reading_read_part, ds_Reading_read_part, v_Reading_read_part, b_Reading_read_part⟩ := ok_Reading_read_part (P := P) (w := w) (base := base) T
  obtain ⟨fd_Reading_init, G_Reading_init, ds_Reading_init, v_Reading_init, b_Reading_init⟩ := ok_Reading_init (P := P) (w := w) (base := base) T
  obtain ⟨fd__refuse, G__refuse, ds__refuse, v__refuse, b__refuse⟩ := ok__refuse (P := P) (w := w) (base := base) T
  obtain ⟨fd_TooLarge_init, G_TooLarge_init, ds_TooLarge_init, v_TooLarge_init, b_TooLarge_init⟩ := ok_TooLarge_init (P := P) (w := w) (base := base) T
  exact mk_read_document T fun fd F => defX F sc_read_document (fun vs H Q E h => by
    obtain ⟨z, rfl, _⟩ := h
    rfl) fun cdv A outer s H vs Q E hr h => by
    obtain ⟨z, rfl, hzm, kbig, ksm⟩ := h
    refine ⟨_, (pss_cons (ps_if (pt_cmpR op_gt (pe_callB call_len_str (by rfl) T.n_len PySem.boot_len (pa_cons (pv 0) pa_nil)) (pe_glob (v := .int 200000) rfl T.c_MOST_CHARACTERS.choose_spec ⟨_, rfl⟩) (nomark _)) (pss_one (ps_raise rfl (takes_of rfl rfl rfl rfl) (pmk_oex T.ox_TooLarge T.oi_TooLarge T.ot_TooLarge G_TooLarge_init (hr.mono (by first | decide | omega)) b_TooLarge_init v_TooLarge_init pass0 rfl T.g_TooLarge (pa_cons pe_str pa_nil)))) pss_nil)
  (pss_cons (ps_set (i := 1) sc_read_document.nd rfl (Or.inl rfl) (pe_make T.m_Reading G_Reading_init (hr.mono (by first | decide | omega)) rfl T.g_Reading b_Reading_init v_Reading_init pass0 (pa_cons (pv 0) pa_nil)))
  (pss_cons (ps_expr (pe_meth0 (pv 1) T.cl_Reading T.me_Reading_read_root G_Reading_read_root (hr.mono (by first | decide | omega)) b_Reading_read_root v_Reading_read_root (passes_call (takes_of rfl rfl rfl rfl) (fun _ _ _ _ h => h))))
  (pss_cons (ps_while (passes_of rfl) (pt_cmpR op_gt (pe_callB (cLen K rfl) (by rfl) T.n_len PySem.boot_len (pa_cons (eFld K rfl (pv 1) rfl) pa_nil)) pe_int (nomark _))
  (pss_one (ps_expr (pe_meth0 (pv 1) T.cl_Reading T.me_Reading_read_part G_Reading_read_part (hr.mono (by first | decide | omega)) b_Reading_read_part v_Reading_read_part (passes_call (takes_of rfl rfl rfl rfl) (fun _ _ _ _ h => h))))))
  (pss_cons (ps_if (pt_cmpR op_lt (eFld K rfl (pv 1) rfl) (pe_callB call_len_str (by rfl) T.n_len PySem.boot_len (pa_cons (pv 0) pa_nil)) (nomark _)) (pss_one (ps_expr (pe_call G__refuse (hr.mono (by first | decide | omega)) rfl T.g__refuse T.k__refuse b__refuse v__refuse (passes_call (takes_of rfl rfl rfl rfl) (fun _ _ _ _ h => h)) (pa_cons (pv 0) (pa_cons (eFld K rfl (pv 1) rfl) (pa_cons pe_str pa_nil)))))) pss_nil)
  (pss_one (ps_ret (pe_ix (ixL K rfl) (pe_ix (ixT K rfl) (pe_ix (ixL K rfl) (eFld K rfl (pv 1) rfl) pe_int (fun _ _ => rfl)) pe_int (fun _ _ => rfl)) pe_int (fun _ _ => rfl))))))))), ?_⟩
    have hzl : z.length = z.cps.size := rfl
    have hzs : z.length ≤ sizeLine := Nat.le_trans hzm (by decide)
    refine st_seq (st_if (b := decide (200000 < z.cps.size)) (ans_v (val_is (val_I (val_cb (va_one (val_var rfl)) fun Q q => ⟨z, rfl, hzs, q⟩) val_c) (by
      congr 1
      rw [decide_eq_decide]
      omega))) (fun hb => ?_) (fun hb => ?_))
    · exact st_raise1 (W := fun cls d _ H => E cls d H) T.ox_TooLarge T.na_TooLarge_limit val_c fun d hd => kbig (of_decide_eq_true hb) d _ hd (Ex.new hd) upd_same
    have hz : z.cps.size ≤ 200000 := by have := of_decide_eq_false hb; omega
    obtain ⟨kno, kok⟩ := ksm hz
    clear kbig ksm hb
    have hrem : remS z 0 z.cps.toList := ⟨Nat.zero_le _, rfl⟩
    dsimp only [tNext]
    refine st_seq (go_asg ⟨_, rfl, fun o dx ho hdx hne => ⟨o, dx, z, rfl, upd_same, fun G st t l hst ht hl nst nsl ntl R gst gt gl e => ⟨rfl, ?_⟩⟩⟩)
    dsimp only [gName]
    have hH : ∀ {a : Addr}, upd (upd H dx (.own o)) o (.ins (He.ga K "Reading") dx []) a = none → H a = none ∧ a ≠ o := fun {a} h => by
      have n1 : a ≠ o := fun q => by rw [q, upd_same] at h; cases h
      rw [upd_ne n1] at h
      have n2 : a ≠ dx := fun q => by rw [q, upd_same] at h; cases h
      rw [upd_ne n2] at h
      exact ⟨h, n1⟩
    have hEx : Ex H G := fun a u ha => e.at (by rw [upd_ne (ne_of_none ha ho), upd_ne (ne_of_none ha hdx)]; exact ha) (by simpa using ne_of_none ha ho)
    have hndp : (o :: st :: [l]).Nodup := by
      simp only [List.nodup_cons, List.mem_cons, List.not_mem_nil, or_false, not_or, not_false_eq_true, List.nodup_nil, and_true]
      exact ⟨⟨(hH hst).2.symm, (hH hl).2.symm⟩, nsl⟩
    have I : InvG K H z o st 0 0 z.cps.toList [⟨t, l, "", [], [], []⟩] G := ⟨R, hrem, gst, hndp, ⟨⟨gt, gl, fun _ _ => .nil, Nat.le_refl _, (hH hl).1⟩, trivial⟩, hEx, ho, (hH hst).1, by show 1 ≤ 61; decide, by decide⟩
    have fl : ∀ {G : Hp} {i n : Nat}, RdO K G o z i n st → Val (tFld K (tVar 1) "reached") [some (.str z), some (.ref o)] G (.int (i : Int)) ∧ Val (tFld K (tVar 1) "stack") [some (.str z), some (.ref o)] G (.ref st) := fun {G i n} h => by
      obtain ⟨dx, h⟩ := h
      exact ⟨fun Q q => ⟨_, rfl, o, _, dx, _, _, rfl, h, T.cl_Reading, T.na_Reading_reached, fl_Reading_reached .., q⟩, fun Q q => ⟨_, rfl, o, _, dx, _, _, rfl, h, T.cl_Reading, T.na_Reading_stack, fl_Reading_stack .., q⟩⟩
    obtain ⟨dx1, hR1⟩ := id R
    unfold rdDoc rdRoot at kno kok
    refine st_seq ⟨_, rfl, o, dx1, _, rfl, hR1, fn_Reading_read_root .., ?_⟩
    dsimp only [tNil, List.nil_append]
    refine ⟨H, o, z, 0, 0, st, _, rfl, I.rd, I.rem, hz, I.ex, fun h60 => ?_, fun h60 => ?_⟩
    rotate_left
    · rw [if_neg h60] at kno
      exact kno _ _ rfl
    rw [if_pos h60] at kno kok
    obtain ⟨l0, hl0⟩ : ∃ l0, z.cps.toList = 60 :: l0 := by
      cases h : z.cps.toList with
      | nil => rw [h] at h60; cases h60
      | cons c q => rw [h] at h60; exact ⟨q, by rw [Option.some.inj h60]⟩
    rw [hl0] at I kno kok
    refine I.begin hz (fun j y e => ?_) fun l1 i1 n1 F1 G1 e1 I1 hi1 => ?_
    · have e : rdBegin [("", [])] (60 :: l0) 0 0 = .no j y := e
      rw [e] at kno
      exact kno _ _ rfl
    have e1 : rdBegin [("", [])] (60 :: l0) 0 0 = .ok (mo F1) l1 i1 n1 := e1
    have hWB : WB (mo F1) := rdBegin_WB (by simp) e1
    rw [e1] at kno kok
    dsimp only at kno kok
    refine st_seq ⟨fun m σ G => ∃ (i n f : Nat) (l : List Nat) (F : List Fr), σ = [some (.str z), some (.ref o)] ∧ m = l.length ∧ InvG K H z o st i n l F G ∧ WB (mo F) ∧ l.length < f ∧ rdLoop f (mo F) l i n = rdLoop (l1.length + 1) (mo F1) l1 i1 n1, ⟨_, i1, n1, _, l1, F1, rfl, rfl, I1, hWB, Nat.lt_succ_self _, rfl⟩, ?_⟩
    rintro m σ G ⟨i, n, f, l, F, rfl, rfl, I, hW, hf, hq⟩
    obtain ⟨f, rfl⟩ : ∃ f', f = f' + 1 := ⟨f - 1, by omega⟩
    rw [rdLoop] at hq
    have hml : (mo F).length = F.length := List.length_map ..
    rw [hml] at hq
    have hS := SqL.of (K := K) I.stk
    refine ans_v (val_I (val_lenL (fl I.rd).2 hS) val_c) _ ?_
    rw [List.length_reverse, List.length_map]
    by_cases hF : 1 < F.length
    · rw [decide_eq_true (by omega)]
      rw [if_pos hF] at hq
      refine iteT ⟨fun σ' G' => ∃ m', m' < l.length ∧ ∃ (i n f : Nat) (l : List Nat) (F : List Fr), σ' = [some (.str z), some (.ref o)] ∧ m' = l.length ∧ InvG K H z o st i n l F G' ∧ WB (mo F) ∧ l.length < f ∧ rdLoop f (mo F) l i n = rdLoop (l1.length + 1) (mo F1) l1 i1 n1, fun _ _ h => h, ?_⟩
      obtain ⟨dx2, hR2⟩ := id I.rd
      refine ⟨_, rfl, o, dx2, _, rfl, hR2, fn_Reading_read_part .., ?_⟩
      dsimp only [tNil, List.nil_append]
      refine I.part hF hz (fun j y ey => ?_) fun l' i' n' F' G' ey I' hi' => ?_
      · rw [ey] at hq
        rw [← hq] at kno
        exact kno _ _ rfl
      · have hW' : WB (mo F') := rdPart_WB (by rw [hml]; exact hF) ey
        rw [ey] at hq
        have a1 := I.rem.len
        have a2 := I'.rem.len
        exact ⟨_, by omega, i', n', f, l', F', rfl, rfl, I', hW', by omega, hq⟩
    · rw [decide_eq_false (by omega)]
      rw [if_neg hF] at hq
      refine iteF ?_
      rw [← hq] at kno kok
      dsimp only at kno kok
      obtain ⟨fr, rfl⟩ : ∃ fr, F = [fr] := by
        match F, hF, hW with
        | [fr], _, _ => exact ⟨fr, rfl⟩
        | _ :: _ :: _, h, _ => exact absurd (by simp) h
      have hlen := I.rem.len
      refine st_seq (st_if (b := !decide (l = [])) (ans_v (val_is (val_I (fl I.rd).1 (val_cb (va_one (val_var rfl)) fun Q q => ⟨z, rfl, hzs, q⟩)) (by
        congr 1
        cases l with
        | nil =>
          rw [List.length_nil] at hlen
          rw [decide_eq_true rfl, decide_eq_false (by omega)]
          rfl
        | cons c q =>
          rw [List.length_cons] at hlen
          rw [decide_eq_true (by omega)]
          rfl))) (fun hb => ?_) (fun hb => ?_))
      · have hne : l ≠ [] := fun q => by rw [decide_eq_true q] at hb; cases hb
        rw [if_neg hne] at kno
        exact rd_refuse (val_var rfl) (fl I.rd).1 I.ex I.rem hz (kno _ _ rfl)
      have hne : l = [] := by simpa using hb
      rw [if_pos hne] at kok
      dsimp only [tNext]
      obtain ⟨h1, _⟩ := I.fr
      have hds : fr.ds ≠ [] := hW
      have hD := h1.c G Kp.refl
      have hmo : mo [fr] = [(fr.n, fr.ds)] := rfl
      rw [hmo] at kok
      have hl1 := h1.l
      generalize fr.ds = ds at hds hD kok
      generalize fr.vs = ws at hD hl1
      obtain ⟨t0, ds', rfl⟩ : ∃ t0 ds', ds = t0 :: ds' := by
        cases ds with
        | nil => exact absurd rfl hds
        | cons a b => exact ⟨a, b, rfl⟩
      obtain ⟨v, ws', rfl, hv2⟩ : ∃ v ws', ws = v :: ws' ∧ Dp K G v t0.d := by
        cases hD with
        | cons a b => exact ⟨_, _, rfl, a⟩
      have hst1 : G st = some (.lst [.ref fr.t]) := I.stk
      exact st_ret (val_ixL (val_ixT (val_ixL (fl I.rd).2 val_c (SqL.of hst1) at_cons) val_c (SqT.of h1.t) at_one) val_c (SqL.of hl1) at_cons) (kok _ _ _ _ _ _ rfl v G I.ex hv2)
end
/-! ### names, texts, documents -/
def TGx (K : PySem.W.Frag) (H : Hp) : Prop := ∀ a ∈ genT K, H a = some (TabO a)
theorem TGx.ex {K : PySem.W.Frag} {H H' : Hp} (h : TGx K H) (e : Ex H H') : TGx K H' := fun a ha => e _ _ (h a ha)
theorem TGx.at {K : PySem.W.Frag} {H : Hp} (h : TGx K H) {p : He.Defn} (hp : p ∈ tf) : H (He.cT K p).2 = some (TabO (He.cT K p).2) := h _ (List.mem_map.mpr ⟨p, hp, rfl⟩)
theorem TGx.kp {K : PySem.W.Frag} {S : List Addr} {H H' : Hp} (h : TGx K H) (e : Kp S H H') (hS : ∀ a ∈ S, ∃ xs, H a = some (.lst xs)) : TGx K H' := fun a ha => e.at (h a ha) fun z => by
  obtain ⟨xs, q⟩ := hS a z
  rw [h a ha] at q
  cases q
def spIsName (K : PySem.W.Frag) : Sp := fun vs H Q _ => ∃ z : Str, vs = [.str z] ∧ z.cps.size ≤ 100000 ∧ TGx K H ∧ ∀ H', Ex H H' → Q (.bl (nameB z)) H'
def spOnly (K : PySem.W.Frag) : Sp := fun vs H Q _ => ∃ z : Str, vs = [.str z] ∧ z.cps.size ≤ 100000 ∧ TGx K H ∧ ∀ H', Ex H H' → Q (.bl (z.cps.toList.all sgB)) H'
def spText2 (K : PySem.W.Frag) : Sp := fun vs H Q _ => ∃ z : Str, vs = [.str z] ∧ z.cps.size ≤ 100000 ∧ TGx K H ∧ ∀ H', Ex H H' → Q (.bl (txtB z)) H'
def spKids (K : PySem.W.Frag) : Sp := fun vs H Q _ => ∃ (H0 : Hp) (v : V) (t : Tr), vs = [v] ∧ Ex H0 H ∧ Dp K H0 v t.d ∧ ∀ (l : Addr) (ys : List V) (H' : Hp), Ex H H' → DpAll K H0 ys (Tr.ds (kidsT t)) → (∀ G, Ex H0 G → (H l = none → ∀ o, H' l = some o → G l = some o) → SqL K G l ys) → Q (.ref l) H'
def spBeside (K : PySem.W.Frag) : Sp := fun vs H Q _ => ∃ (l : Addr) (ys : List V) (cs : List Tr), vs = [.ref l] ∧ SqL K H l ys ∧ DpAll K H ys (Tr.ds cs) ∧ cs.length ≤ 100000 ∧ TGx K H ∧ ∀ H', Ex H H' → Q (.bl (besideB cs)) H'
def spWell (K : PySem.W.Frag) : Sp := fun vs H Q _ => ∃ (v : V) (t : Tr), vs = [v] ∧ Dp K H v t.d ∧ smallT t ∧ nod t ≤ 100001 ∧ TGx K H ∧ ∀ H', Ex H H' → Q (.bl (wellB t)) H'
def spIsDoc (K : PySem.W.Frag) : Sp := fun vs H Q _ => ∃ (v : V) (t : Tr), vs = [v] ∧ Dp K H v t.d ∧ smallT t ∧ nod t ≤ 100000 ∧ TGx K H ∧ ∀ H', Ex H H' → Q (.bl (docB t)) H'
section
variable {P : Program} {w : World} {K : PySem.W.Frag} {mg : Str → Option Value} {base : Heap}
theorem len_str {σ : L2.St} {H : Hp} {z : Str} {te : TE} (h : Val te σ H (.str z)) (hz : z.cps.size ≤ 100000) : Val (tCB (fun xs H Q => ∃ z, xs = [V.str z] ∧ z.length ≤ sizeLine ∧ Q (V.int (z.length : Int)) H) (tCons te tNil)) σ H (.int ((z.cps.size : Nat) : Int)) :=
  val_is (val_cb (v := .int (z.length : Int)) (va_one h) fun Q q => ⟨_, rfl, sz_of hz, q⟩) rfl
theorem int_le {a b : Nat} : decide ((a : Int) ≤ (b : Int)) = decide (a ≤ b) := by
  rw [decide_eq_decide]
  omega
theorem ok_is_name (T : TX K mg) (B : ∀ p ∈ tf, LamX.TabB base mg (He.cT K p).1 (He.cT K p).2) : Can P w K mg base CX0 3 (He.fAd K at_is_name) ps_is_name [] (spIsName K) := by
  obtain ⟨fd_is_letter, G_is_letter, ds_is_letter, v_is_letter, b_is_letter⟩ := ok_is_letter (P := P) (w := w) (base := base) T
  exact mk_is_name T fun fd F => def0G F sc_is_name (fun vs H Q E h => by
    obtain ⟨z, rfl, _⟩ := h
    rfl) fun A outer s H vs Q E hr h => by
    obtain ⟨z, rfl, hz, hT, k⟩ := h
    refine ⟨_, (pss_one (ps_ret (pe_and (pe_chain op_le op_le pe_int (pe_callB call_len_str (by rfl) T.n_len PySem.boot_len (pa_cons (pv 0) pa_nil)) (pe_glob (v := .int 12) rfl T.c_NAME_LETTERS.choose_spec ⟨_, rfl⟩)) (pe_one (by exact (pe_gAll (k := 1) (tgr := gName 0) (own := ["letter"]) (cs := []) (hr.mono (by first | decide | omega)) (by rfl) T.n_all (tabB_G (B at_is_name (by simp [tf]))) rfl (gnS_by (N := N_is_name) (sc := defScope s_is_name) (by decide +kernel)) (pi_str (pv 0)) (fun _ _ _ _ _ _ => by exact (pg_name (i := 0) (show List.Nodup (["letter"] : List Str) from by decide +kernel) rfl (Or.inl rfl))) (fun _ _ _ _ _ _ hr => by exact (pe_call G_is_letter (hr.mono (by first | decide | omega)) rfl T.g_is_letter T.k_is_letter b_is_letter v_is_letter pass0 (pa_cons (pv 0) pa_nil))))))))), ?_⟩
    refine s_ret (ev_is (ev_andV (ev_val fun _ _ => val_chain val_c (len_str (val_var rfl) hz) val_c) fun _ => ev_gxS (ev_var rfl) (hT.at (by simp [tf])) letB fun c G e hc => ev_call (ea_cons (ev_var rfl) ea_nil) fun H1 e1 Q q E => ⟨c, rfl, q H1 (Ex.refl _)⟩) ?_) fun H1 e1 => k H1 e1
    unfold nameB
    rw [← int_le (a := 1), ← int_le (b := 12)]
    rfl
theorem ok_has_only_signs (T : TX K mg) (B : ∀ p ∈ tf, LamX.TabB base mg (He.cT K p).1 (He.cT K p).2) : Can P w K mg base CX0 3 (He.fAd K at_has_only_signs) ps_has_only_signs [] (spOnly K) := by
  obtain ⟨fd_is_sign, G_is_sign, ds_is_sign, v_is_sign, b_is_sign⟩ := ok_is_sign (P := P) (w := w) (base := base) T
  exact mk_has_only_signs T fun fd F => def0G F sc_has_only_signs (fun vs H Q E h => by
    obtain ⟨z, rfl, _⟩ := h
    rfl) fun A outer s H vs Q E hr h => by
    obtain ⟨z, rfl, hz, hT, k⟩ := h
    refine ⟨_, (pss_one (ps_ret (by exact (pe_gAll (k := 1) (tgr := gName 0) (own := ["character"]) (cs := []) (hr.mono (by first | decide | omega)) (by rfl) T.n_all (tabB_G (B at_has_only_signs (by simp [tf]))) rfl (gnS_by (N := N_has_only_signs) (sc := defScope s_has_only_signs) (by decide +kernel)) (pi_str (pv 0)) (fun _ _ _ _ _ _ => by exact (pg_name (i := 0) (show List.Nodup (["character"] : List Str) from by decide +kernel) rfl (Or.inl rfl))) (fun _ _ _ _ _ _ hr => by exact (pe_call G_is_sign (hr.mono (by first | decide | omega)) rfl T.g_is_sign T.k_is_sign b_is_sign v_is_sign pass0 (pa_cons (pv 0) pa_nil))))))), ?_⟩
    exact s_ret (ev_gxS (ev_var rfl) (hT.at (by simp [tf])) sgB fun c G e hc => ev_call (ea_cons (ev_var rfl) ea_nil) fun H1 e1 Q q E => ⟨c, rfl, q H1 (Ex.refl _)⟩) fun H1 e1 => k H1 e1
theorem ok_is_text (T : TX K mg) (B : ∀ p ∈ tf, LamX.TabB base mg (He.cT K p).1 (He.cT K p).2) : Can P w K mg base CX0 4 (He.fAd K at_is_text) ps_is_text [] (spText2 K) := by
  obtain ⟨fd_has_only_signs, G_has_only_signs, ds_has_only_signs, v_has_only_signs, b_has_only_signs⟩ := ok_has_only_signs (P := P) (w := w) (base := base) T B
  exact mk_is_text T fun fd F => def0 F sc_is_text (fun vs H Q E h => by
    obtain ⟨z, rfl, _⟩ := h
    rfl) fun cdv A outer s H vs Q E hr h => by
    obtain ⟨z, rfl, hz, hT, k⟩ := h
    refine ⟨_, (pss_one (ps_ret (pe_and (pe_chain op_le op_le pe_int (pe_callB call_len_str (by rfl) T.n_len PySem.boot_len (pa_cons (pv 0) pa_nil)) (pe_glob (v := .int 200) rfl T.c_TEXT_CHARACTERS.choose_spec ⟨_, rfl⟩)) (pe_one (pe_call G_has_only_signs (hr.mono (by first | decide | omega)) rfl T.g_has_only_signs T.k_has_only_signs b_has_only_signs v_has_only_signs pass0 (pa_cons (pv 0) pa_nil)))))), ?_⟩
    refine s_ret (ev_is (ev_andV (ev_val fun _ _ => val_chain val_c (len_str (val_var rfl) hz) val_c) fun _ => ev_call (ea_cons (ev_var rfl) ea_nil) fun H1 e1 Q q E => ⟨z, rfl, hz, hT.ex e1, q⟩) ?_) fun H1 e1 => k H1 e1
    unfold txtB
    rw [← int_le (a := 1), ← int_le (b := 200)]
    rfl
theorem ok__children (T : TX K mg) : Can P w K mg base CX0 1 (He.fAd K at__children) ps__children [] (spKids K) := mk__children T fun fd F => def0 F sc__children (fun vs H Q E h => by
  obtain ⟨H0, v, t, rfl, _⟩ := h
  rfl) fun cdv A outer s H vs Q E hr h => by
  obtain ⟨H0, v, t, rfl, e0, hd, k⟩ := h
  refine ⟨_, (pss_one (ps_ret (pe_ifExp (pt_val (pe_callB (cIsi K rfl) (by rfl) T.n_isinstance (by decide +kernel) (pa_cons (pv 0) (pa_cons (pe_bltn (v := .ty "str") rfl T.n_str (by decide +kernel) rfl) pa_nil)))) (pe_lst pa_nil) (pe_ix (ixT K rfl) (pv 0) pe_int (fun _ _ => rfl))))), ?_⟩
  have tx := ty_dp (dp_ex e0 hd)
  cases t with
  | txt z =>
    replace tx : TyX K H v (.type "str") := tx
    refine go_ret (ans_v (val_isi (b := true) (val_var rfl) tx (by decide +kernel)) _ (iteT ⟨by show 0 ≤ sizeLine; decide, fun p hp => ?_⟩))
    exact k p [] _ (Ex.new hp) .nil fun G _ hG => SqL.of (hG hp _ upd_same)
  | el nm cs =>
    replace tx : TyX K H v (.type "tuple") := tx
    obtain ⟨a', l, ys, rfl, sx, sl, al⟩ := el_parts hd
    refine go_ret (ans_v (val_isi (b := false) (val_var rfl) tx (by decide +kernel)) _ (iteF (val_ixT (val_var rfl) val_c (ex_t e0 sx) at_one _ ?_)))
    exact k l ys H (Ex.refl _) al fun G eG _ => ex_l eG sl
theorem isT_at {H : Hp} {ys : List V} {cs : List Tr} {i : Nat} {x : V} (h : DpAll K H ys (Tr.ds cs)) (e : ys[i]? = some x) : ∃ c, TyX K H x (.type c) ∧ kitB c "str" = some (isTi cs i) := by
  obtain ⟨d, hd, hx⟩ := dpa_at h e
  rw [ds_map, List.getElem?_map] at hd
  cases q : cs[i]? with
  | none => rw [q] at hd; cases hd
  | some t =>
    rw [q] at hd
    cases hd
    obtain ⟨c, h1, h2⟩ := isT_type hx
    refine ⟨c, h1, ?_⟩
    unfold isTi
    rw [q]
    exact h2
theorem ok__has_texts_beside (T : TX K mg) (B : ∀ p ∈ tf, LamX.TabB base mg (He.cT K p).1 (He.cT K p).2) : Can P w K mg base CX0 3 (He.fAd K at__has_texts_beside) ps__has_texts_beside [] (spBeside K) := by
  exact mk__has_texts_beside T fun fd F => def0G F sc__has_texts_beside (fun vs H Q E h => by
    obtain ⟨l, ys, cs, rfl, _⟩ := h
    rfl) fun A outer s H vs Q E hr h => by
    obtain ⟨l, ys, cs, rfl, hl, hd, hz, hT, k⟩ := h
    refine ⟨_, (pss_one (ps_ret (by exact (pe_gAny (k := 1) (tgr := gTup K 2 (gCons (gName 0) (gCons (gName 1) gNil))) (own := ["one", "other"]) (cs := []) (hr.mono (by first | decide | omega)) (by rfl) T.n_any (tabB_G (B at__has_texts_beside (by simp [tf]))) rfl (gnS_by (N := N__has_texts_beside) (sc := defScope s__has_texts_beside) (by decide +kernel)) (iZp K rfl (by rfl) T.n_zip (pa_cons (pv 0) (pa_cons (pe_slice (slL K rfl) (pv 0) (po_some pe_int) po_none) pa_nil))) (fun _ _ _ _ _ _ => by exact (pg_tup rfl (pgs_cons (pg_name (i := 0) (show List.Nodup (["one", "other"] : List Str) from by decide +kernel) rfl (Or.inl rfl)) (pgs_cons (pg_name (i := 1) (show List.Nodup (["one", "other"] : List Str) from by decide +kernel) rfl (Or.inl rfl)) pgs_nil)))) (fun _ _ _ _ _ _ hr => by exact (pe_and (pe_callB (cIsi K rfl) (by rfl) T.n_isinstance (by decide +kernel) (pa_cons (pv 0) (pa_cons (pe_bltn (v := .ty "str") rfl T.n_str (by decide +kernel) rfl) pa_nil))) (pe_one (pe_callB (cIsi K rfl) (by rfl) T.n_isinstance (by decide +kernel) (pa_cons (pv 1) (pa_cons (pe_bltn (v := .ty "str") rfl T.n_str (by decide +kernel) rfl) pa_nil)))))))))), ?_⟩
    have hyl : ys.length = cs.length := by rw [dpa_len hd, ds_map, List.length_map]
    refine s_ret (ev_is (ev_gxZ (K := K) (n := cs.length - 1) (ev_var rfl) hl (el_sl (ev_var rfl) (eo_some ev_c) eo_none hl) ?_ (hT.at (by simp [tf])) (fun i => isTi cs i && isTi cs (i + 1)) fun i x y G e hi hx hy => ?_) ?_) fun H1 e1 => k H1 e1
    · show _ = min ys.length (cutV ys (some ((1 : Nat) : Int)) none).length
      by_cases h : 1 ≤ ys.length
      · rw [cut_from h, List.length_drop]
        omega
      · have : ys = [] := List.eq_nil_of_length_eq_zero (by omega)
        rw [this] at hyl ⊢
        rw [← hyl]
        rfl
    · have h1 : 1 ≤ ys.length := by omega
      have hy : (cutV ys (some ((1 : Nat) : Int)) none)[i]? = some y := hy
      rw [cut_from h1, List.getElem?_drop, Nat.add_comm] at hy
      have hd' := dpAll_ex e hd
      obtain ⟨c1, t1, k1⟩ := isT_at hd' hx
      obtain ⟨c2, t2, k2⟩ := isT_at hd' hy
      exact ev_andV (ev_val fun G' e' => val_isi (val_var rfl) (isT_at (dpAll_ex e' hd') hx).choose_spec.1 (isT_at (dpAll_ex e' hd') hx).choose_spec.2) fun _ => ev_val fun G' e' => val_isi (val_var rfl) (isT_at (dpAll_ex e' hd') hy).choose_spec.1 (isT_at (dpAll_ex e' hd') hy).choose_spec.2
    · rw [beside_res]
theorem ok__is_well_made (T : TX K mg) (B : ∀ p ∈ tf, LamX.TabB base mg (He.cT K p).1 (He.cT K p).2) : Can P w K mg base CX0 5 (He.fAd K at__is_well_made) ps__is_well_made [] (spWell K) := by
  obtain ⟨fd_is_text, G_is_text, ds_is_text, v_is_text, b_is_text⟩ := ok_is_text (P := P) (w := w) (base := base) T B
  obtain ⟨fd_is_name, G_is_name, ds_is_name, v_is_name, b_is_name⟩ := ok_is_name (P := P) (w := w) (base := base) T B
  obtain ⟨fd__has_texts_beside, G__has_texts_beside, ds__has_texts_beside, v__has_texts_beside, b__has_texts_beside⟩ := ok__has_texts_beside (P := P) (w := w) (base := base) T B
  exact mk__is_well_made T fun fd F => def0 F sc__is_well_made (fun vs H Q E h => by
    obtain ⟨v, t, rfl, _⟩ := h
    rfl) fun cdv A outer s H vs Q E hr h => by
    obtain ⟨v, t, rfl, hd, hs, hn, hT, k⟩ := h
    refine ⟨_, (pss_cons (ps_if (pt_val (pe_callB (cIsi K rfl) (by rfl) T.n_isinstance (by decide +kernel) (pa_cons (pv 0) (pa_cons (pe_bltn (v := .ty "str") rfl T.n_str (by decide +kernel) rfl) pa_nil)))) (pss_one (ps_ret (pe_call G_is_text (hr.mono (by first | decide | omega)) rfl T.g_is_text T.k_is_text b_is_text v_is_text pass0 (pa_cons (pv 0) pa_nil)))) pss_nil)
  (pss_one (ps_ret (pe_and (pe_call G_is_name (hr.mono (by first | decide | omega)) rfl T.g_is_name T.k_is_name b_is_name v_is_name pass0 (pa_cons (pe_ix (ixT K rfl) (pv 0) pe_int (fun _ _ => rfl)) pa_nil)) (pe_one (pe_not (pe_call G__has_texts_beside (hr.mono (by first | decide | omega)) rfl T.g__has_texts_beside T.k__has_texts_beside b__has_texts_beside v__has_texts_beside pass0 (pa_cons (pe_ix (ixT K rfl) (pv 0) pe_int (fun _ _ => rfl)) pa_nil)))))))), ?_⟩
    have tx := ty_dp hd
    cases t with
    | txt z =>
      replace tx : TyX K H v (.type "str") := tx
      cases hd
      rw [smallT] at hs
      refine st_seq (st_yes (ans_val (val_isi (b := true) (val_var rfl) tx (by decide +kernel))) ?_)
      exact s_ret (ev_call (ea_cons (ev_var rfl) ea_nil) fun H1 e1 Q q E => ⟨z, rfl, hs, hT.ex e1, q⟩) fun H1 e1 => k H1 e1
    | el nm cs =>
      replace tx : TyX K H v (.type "tuple") := tx
      obtain ⟨a', l, ys, rfl, sx, sl, al⟩ := el_parts hd
      rw [smallT] at hs
      have hcl : cs.length ≤ 100000 := by
        have := len_nods cs
        rw [nod] at hn
        omega
      refine st_seq (st_no (ans_val (val_isi (b := false) (val_var rfl) tx (by decide +kernel))) ?_)
      exact s_ret (ev_andV (ev_call (ea_cons (ev_val fun _ e => val_ixT (val_var rfl) val_c (ex_t e sx) at_cons) ea_nil) fun H1 e1 Q q E => ⟨nm, rfl, hs.1, hT.ex e1, q⟩) fun _ => ev_notV (ev_call (ea_cons (ev_val fun _ e => val_ixT (val_var rfl) val_c (ex_t e sx) at_one) ea_nil) fun H1 e1 Q q E => ⟨l, ys, cs, rfl, ex_l e1 sl, dpAll_ex e1 al, hcl, hT.ex e1, q⟩)) fun H1 e1 => k H1 e1
/-- what stands in the stack of nodes -/
def GoodN (K : PySem.W.Frag) (H G : Hp) (x : V) (p : Tr × Nat) : Prop := ∃ (a : Addr) (v : V), x = .ref a ∧ G a = some (.tup [v, .int (p.2 : Int)]) ∧ Dp K H v p.1.d ∧ smallT p.1
def StkG (K : PySem.W.Frag) (H G : Hp) (xs : List V) (L : List (Tr × Nat)) : Prop := xs.length = L.length ∧ ∀ (i : Nat) (x : V) (p : Tr × Nat), xs[i]? = some x → L[i]? = some p → GoodN K H G x p
theorem StkG.up {H G G' : Hp} {xs : List V} {L : List (Tr × Nat)} (h : StkG K H G xs L) (e : ∀ a ys, G a = some (.tup ys) → G' a = some (.tup ys)) : StkG K H G' xs L := ⟨h.1, fun i x p h1 h2 => by
  obtain ⟨a, v, g1, g2, g3, g4⟩ := h.2 i x p h1 h2
  exact ⟨a, v, g1, e _ _ g2, g3, g4⟩⟩
theorem StkG.snoc {H G : Hp} {xs : List V} {L : List (Tr × Nat)} {x : V} {p : Tr × Nat} (h : StkG K H G xs L) (g : GoodN K H G x p) : StkG K H G (xs ++ [x]) (L ++ [p]) := ⟨by rw [List.length_append, List.length_append, h.1]; rfl, fun i y q h1 h2 => by
  by_cases hi : i < xs.length
  · rw [List.getElem?_append_left hi] at h1
    rw [List.getElem?_append_left (by rw [← h.1]; exact hi)] at h2
    exact h.2 i y q h1 h2
  · rw [List.getElem?_append_right (by omega)] at h1
    rw [List.getElem?_append_right (by rw [← h.1]; omega), ← h.1] at h2
    cases r : i - xs.length with
    | zero =>
      rw [r] at h1 h2
      cases h1
      cases h2
      exact g
    | succ n =>
      rw [r] at h1
      cases h1⟩
theorem StkG.last {H G : Hp} {xs : List V} {L : List (Tr × Nat)} {p : Tr × Nat} (h : StkG K H G xs (L ++ [p])) : ∃ ys x, xs = ys ++ [x] ∧ StkG K H G ys L ∧ GoodN K H G x p := by
  have hl := h.1
  rw [List.length_append] at hl
  have hne : xs ≠ [] := fun z => by
    rw [z] at hl
    exact absurd hl (by show (0 : Nat) ≠ L.length + 1; omega)
  have hx := List.dropLast_concat_getLast hne
  have hdl : xs.dropLast.length = L.length := by
    rw [List.length_dropLast, hl]
    rfl
  refine ⟨xs.dropLast, xs.getLast hne, hx.symm, ⟨hdl, fun i y q h1 h2 => ?_⟩, ?_⟩
  · have hi : i < xs.dropLast.length := by
      rw [hdl]
      exact (List.getElem?_eq_some_iff.mp h2).1
    refine h.2 i y q ?_ ?_
    · rw [← hx, List.getElem?_append_left hi]
      exact h1
    · rw [List.getElem?_append_left (by rw [← hdl]; exact hi)]
      exact h2
  · refine h.2 L.length _ p ?_ ?_
    · rw [← List.getLast?_eq_some_getLast hne, List.getLast?_eq_getElem?, hl]
      rfl
    · rw [List.getElem?_append_right (Nat.le_refl _), Nat.sub_self]
      rfl
theorem ok_is_document (T : TX K mg) (B : ∀ p ∈ tf, LamX.TabB base mg (He.cT K p).1 (He.cT K p).2) : Can P w K mg base CX0 6 (He.fAd K at_is_document) ps_is_document [] (spIsDoc K) := by
  obtain ⟨fd__children, G__children, ds__children, v__children, b__children⟩ := ok__children (P := P) (w := w) (base := base) T
  obtain ⟨fd__is_well_made, G__is_well_made, ds__is_well_made, v__is_well_made, b__is_well_made⟩ := ok__is_well_made (P := P) (w := w) (base := base) T B
  exact mk_is_document T fun fd F => def0 F sc_is_document (fun vs H Q E h => by
    obtain ⟨v, t, rfl, _⟩ := h
    rfl) fun cdv A outer s H vs Q E hr h => by
    obtain ⟨v, t, rfl, hd, hs, hn, hT, k⟩ := h
    refine ⟨_, (pss_cons (ps_if (pt_val (pe_callB (cIsi K rfl) (by rfl) T.n_isinstance (by decide +kernel) (pa_cons (pv 0) (pa_cons (pe_bltn (v := .ty "str") rfl T.n_str (by decide +kernel) rfl) pa_nil)))) (pss_one (ps_ret pe_bl)) pss_nil)
  (pss_cons (ps_set (i := 1) sc_is_document.nd rfl (Or.inl rfl) pe_int)
  (pss_cons (ps_set (i := 2) sc_is_document.nd rfl (Or.inl rfl) (pe_lst (pa_cons (pe_tup (pa_cons (pv 0) (pa_cons pe_int pa_nil))) pa_nil)))
  (pss_cons (ps_while PassesOwn.never (tTruth K rfl (pv 2))
  (pss_cons (ps_asg (eBm0 K rfl PySem.F.plainAttrs_list PySem.F.slot_list_pop PySem.F.type_list_pop mt_pop (pv 2)) (pg_tup rfl (pgs_cons (pg_name (i := 3) sc_is_document.nd rfl (Or.inl rfl)) (pgs_cons (pg_name (i := 4) sc_is_document.nd rfl (Or.inl rfl)) pgs_nil))))
  (pss_cons (ps_aug (i := 1) sc_is_document.nd rfl (Or.inl rfl) (pe_callB (cLen K rfl) (by rfl) T.n_len PySem.boot_len (pa_cons (pe_call G__children (hr.mono (by first | decide | omega)) rfl T.g__children T.k__children b__children v__children pass0 (pa_cons (pv 3) pa_nil)) pa_nil)) ip_add)
  (pss_cons (ps_if (PW.pt (pw_or (pt_cmpR op_gt (pv 1) (pe_glob (v := .int 5000) rfl T.c_MOST_NODES.choose_spec ⟨_, rfl⟩) (nomark _)) (pw_or (pt_cmpR op_gt (pv 4) (pe_glob (v := .int 60) rfl T.c_MOST_DEPTH.choose_spec ⟨_, rfl⟩) (nomark _)) (pw_or1 (pt_not (pt_val (pe_call G__is_well_made (hr.mono (by first | decide | omega)) rfl T.g__is_well_made T.k__is_well_made b__is_well_made v__is_well_made pass0 (pa_cons (pv 3) pa_nil)))))))) (pss_one (ps_ret pe_bl)) pss_nil)
  (pss_one (ps_for PassesOwn.never rfl (iLst K rfl (pe_call G__children (hr.mono (by first | decide | omega)) rfl T.g__children T.k__children b__children v__children pass0 (pa_cons (pv 3) pa_nil))) (pg_name (i := 5) sc_is_document.nd rfl (Or.inl rfl))
  (pss_one (ps_expr (eBm K rfl PySem.F.plainAttrs_list PySem.F.slot_list_append PySem.F.type_list_append mt_append (pv 2) (pa_cons (pe_tup (pa_cons (pv 5) (pa_cons (pe_op op_add (pv 4) pe_int) pa_nil))) pa_nil))))))))))
  (pss_one (ps_ret pe_bl)))))), ?_⟩
    have tx := ty_dp hd
    cases ht : t with
    | txt z =>
      subst ht
      replace tx : TyX K H v (.type "str") := tx
      exact st_seq (st_yes (ans_val (val_isi (b := true) (val_var rfl) tx (by decide +kernel))) (go_ret (k H (Ex.refl _))))
    | el nm cs =>
      have hB : docB t = (okAt 1 t && decide (nod t ≤ 5000)) := by
        rw [ht]
        rfl
      have tx : TyX K H v (.type "tuple") := by
        rw [ht] at tx
        exact tx
      clear ht
      refine st_seq (st_no (ans_val (val_isi (b := false) (val_var rfl) tx (by decide +kernel))) ?_)
      dsimp only [tNext]
      refine st_seq (go_asg ?_)
      dsimp only [tC, gName]
      refine st_seq (go_asg ⟨_, rfl, by show 2 ≤ sizeLine; decide, fun q hq => ⟨by show 1 ≤ sizeLine; decide, fun p hp => ?_⟩⟩)
      dsimp only [gName]
      have hpH : H p = none := fresh_back (Ex.new hq) hp
      have hqp : q ≠ p := fun z => by
        rw [← z, upd_same] at hp
        cases hp
      refine q_while (fun n σ G => ∃ (L : List (Tr × Nat)) (xs : List V) (m : Nat) (v3 v4 v5 : Option V), σ = [some v, some (.int (m : Int)), some (.ref p), v3, v4, v5] ∧ Ex H G ∧ G p = some (.lst xs) ∧ StkG K H G xs L ∧ m + stkN L = nod t + L.length ∧ m ≤ 5000 ∧ L.length ≤ m ∧ okAt 1 t = stkOk L ∧ n = stkN L) (nod t) ?_ ?_
      · refine ⟨[(t, 1)], _, 1, none, none, none, rfl, (Ex.new hq).mut hpH, upd_same, ⟨rfl, fun i x r h1 h2 => ?_⟩, ?_, by decide, Nat.le_refl _, ?_, ?_⟩
        · cases i with
          | zero =>
            cases h1
            cases h2
            exact ⟨q, v, rfl, by rw [upd_ne hqp, upd_same]; rfl, hd, hs⟩
          | succ i => cases h1
        · unfold stkN
          simp
          omega
        · unfold stkOk
          simp
        · unfold stkN
          simp
      rintro n σ G ⟨L, xs, m, v3, v4, v5, rfl, eG, hGp, hL, hm, hm5, hLm, hok, rfl⟩
      refine ⟨!xs.isEmpty, fun H1 e Q q => ⟨_, rfl, _, .inl ⟨xs, SqL.of (e _ _ hGp), rfl⟩, q H1 (Ex.refl _)⟩, fun hb G1 e1 => ?_, fun hb G1 e1 => ?_⟩
      · rcases List.eq_nil_or_concat L with rfl | ⟨L', pr, hcc⟩
        · have : xs = [] := List.eq_nil_of_length_eq_zero hL.1
          rw [this] at hb
          cases hb
        rw [List.concat_eq_append] at hcc
        subst hcc
        obtain ⟨t', d⟩ := pr
        obtain ⟨ys, x, rfl, hLs, a, v', rfl, hGa, hdv, hsm⟩ := hL.last
        replace hsm : smallT t' := hsm
        replace hdv : Dp K H v' t'.d := hdv
        replace hGa : G a = some (.tup [v', .int (d : Int)]) := hGa
        refine ⟨fun σ2 G2 => ∃ m', m' < stkN (L' ++ [(t', d)]) ∧ ∃ (L : List (Tr × Nat)) (xs : List V) (m : Nat) (v3 v4 v5 : Option V), σ2 = [some v, some (.int (m : Int)), some (.ref p), v3, v4, v5] ∧ Ex H G2 ∧ G2 p = some (.lst xs) ∧ StkG K H G2 xs L ∧ m + stkN L = nod t + L.length ∧ m ≤ 5000 ∧ L.length ≤ m ∧ okAt 1 t = stkOk L ∧ m' = stkN L, fun _ _ h => h, ?_⟩
        have hap : a ≠ p := fun z => by
          rw [z, hGp] at hGa
          cases hGa
        have hGp1 := e1 _ _ hGp
        refine st_seq ⟨_, rfl, .inl ⟨rfl, _, SqL.of hGp1⟩, p, _, V.ref a, rfl, rfl, hGp1, by simp, a, _, rfl, SqT.of (by rw [upd_ne hap]; exact e1 _ _ hGa), rfl, _, _, rfl, _, _, rfl, rfl, ?_⟩
        have e2 : Ex H (upd G1 p (.lst (ys ++ [V.ref a]).dropLast)) := (eG.trans e1).mut hpH
        have hG2p : upd G1 p (.lst (ys ++ [V.ref a]).dropLast) p = some (.lst ys) := by rw [upd_same, List.dropLast_concat]
        have hL2 : StkG K H (upd G1 p (.lst (ys ++ [V.ref a]).dropLast)) ys L' := hLs.up fun b zs hb => by
          rw [upd_ne (fun z => by rw [z, hGp] at hb; cases hb)]
          exact e1 _ _ hb
        generalize upd G1 p (.lst (ys ++ [V.ref a]).dropLast) = G2 at e2 hG2p hL2 ⊢
        rw [stkN_app] at hm ⊢
        rw [stk_app] at hok
        have hone : stkN [(t', d)] = nod t' := by
          unfold stkN
          simp
        have hone2 : stkOk [(t', d)] = okAt d t' := by
          unfold stkOk
          simp
        rw [hone, nod_eq] at hm ⊢
        rw [hone2, okAt_eq d t'] at hok
        rw [List.length_append] at hm hLm
        have hLm : L'.length + 1 ≤ m := hLm
        have hm : m + (stkN L' + (1 + nods (kidsT t'))) = nod t + (L'.length + 1) := hm
        have hkl := len_nods (kidsT t')
        have hL'l := stkN_len L'
        refine q_aug (f := fun i j => i + j) (a := (m : Int)) (b := ((kidsT t').length : Int)) rfl (fun H1 e Q q => ⟨_, rfl, H, v', t', rfl, e2.trans e, hdv, fun l zs H2 e3 hdz hc => ⟨l, zs, rfl, .inl (hc H2 ((e2.trans e).trans e3) fun _ _ h => h), by
          have := dpa_len hdz
          rw [ds_map, List.length_map] at this
          rw [this]
          exact q H2 e3⟩⟩) fun G3 e3 => ?_
        have hbad : (decide (((m : Int) + ((kidsT t').length : Int)) > 5000) || (decide ((d : Int) > 60) || !wellB t')) = true → docB t = false := fun hbd => by
          rw [hB]
          rw [Bool.or_eq_true, Bool.or_eq_true, decide_eq_true_eq, decide_eq_true_eq, Bool.not_eq_true'] at hbd
          rcases hbd with h1 | h1 | h1
          · rw [decide_eq_false (show ¬ nod t ≤ 5000 by omega), Bool.and_false]
          · rw [hok, decide_eq_false (show ¬ d ≤ 60 by omega)]
            simp
          · rw [hok, h1]
            simp
        refine q_when (b := (decide (((m : Int) + ((kidsT t').length : Int)) > 5000) || (decide ((d : Int) > 60) || !wellB t'))) (et_or (et_test (ev_val fun _ _ => val_I (g := fun i j => .bl (decide (i > j))) (val_var rfl) val_c)) fun _ => et_or (et_test (ev_val fun _ _ => val_I (g := fun i j => .bl (decide (i > j))) (val_var rfl) val_c)) fun _ => et_not (et_B (ev_call (ea_cons (ev_var rfl) ea_nil) fun H1 e Q q E => ⟨v', t', rfl, dp_ex ((e2.trans e3).trans e) hdv, hsm, by
          have := nod_eq t'
          omega, hT.ex ((e2.trans e3).trans e), q⟩))) (fun hbd G4 e4 => ?_) fun hbd G4 e4 => ?_
        · have := hbad hbd
          refine go_ret ?_
          rw [this] at k
          exact k G4 ((e2.trans e3).trans e4)
        rw [Bool.or_eq_false_iff, Bool.or_eq_false_iff, decide_eq_false_iff_not, decide_eq_false_iff_not, Bool.not_eq_false'] at hbd
        obtain ⟨b1, b2, b3⟩ := hbd
        have e24 := (e2.trans e3).trans e4
        have hG4p := e4 _ _ (e3 _ _ hG2p)
        refine ⟨_, rfl, H, v', t', rfl, e24, hdv, fun l zs G5 e5 hdz hc => ⟨l, rfl, ⟨zs, hc G5 (e24.trans e5) fun _ _ h => h⟩, ?_⟩⟩
        have hG5p := e5 _ _ hG4p
        have hzl : zs.length = (kidsT t').length := by
          have := dpa_len hdz
          rwa [ds_map, List.length_map] at this
        have hsmk : ∀ c ∈ kidsT t', smallT c := fun c hcc => by
          cases t' with
          | txt z => cases hcc
          | el n cs =>
            rw [smallT] at hsm
            exact smallTs_mem hsm.2 hcc
        refine for_list (xs := zs) (fun i σ' G' => ∃ v5 : Option V, σ' = [some v, some (.int ((m : Int) + ((kidsT t').length : Int))), some (.ref p), some v', some (.int (d : Int)), v5] ∧ Ex H G' ∧ Kp [p] G5 G' ∧ ∃ ws : List V, G' p = some (.lst ws) ∧ StkG K H G' ws (L' ++ ((kidsT t').take i).map fun c => (c, d + 1))) ⟨v5, rfl, e24.trans e5, Kp.refl, ys, hG5p, ?_⟩ (fun i σ' G' hi h => ?_) (fun i x σ' G' hx h => ?_) fun σ' G' h => ?_
        · rw [List.take_zero, List.map_nil, List.append_nil]
          exact hL2.up fun b zs hb => e5 _ _ (e4 _ _ (e3 _ _ hb))
        · obtain ⟨w5, rfl, eG', kG', ws, hw, hst⟩ := h
          refine hc G' eG' fun hl o ho => kG'.at ho ?_
          intro z
          rw [List.mem_singleton.mp z, hG4p] at hl
          cases hl
        · obtain ⟨w5, rfl, eG', kG', ws, hw, hst⟩ := h
          obtain ⟨dd, hdd, hdx⟩ := dpa_at hdz hx
          rw [ds_map, List.getElem?_map] at hdd
          cases hc5 : (kidsT t')[i]? with
          | none => rw [hc5] at hdd; cases hdd
          | some c =>
            rw [hc5] at hdd
            cases hdd
            have hwl : ws.length ≤ 100000 := by
              have h1 := hst.1
              rw [List.length_append, List.length_map, List.length_take] at h1
              omega
            refine ⟨_, rfl, .inl ⟨rfl, _, SqL.of hw⟩, _, rfl, _, rfl, _, _, rfl, rfl, by show 2 ≤ sizeLine; decide, fun q' hq' => ⟨p, ws, _, rfl, rfl, by rw [upd_ne (ne_of_none hw hq')]; exact hw, sz_lt (by
              have h1 := hst.1
              rw [List.length_append, List.length_map, List.length_take] at h1
              omega), ?_⟩⟩
            have hqp' : q' ≠ p := fun z => by
              rw [z, hw] at hq'
              cases hq'
            refine ⟨some x, rfl, (eG'.mut (fresh_back eG' hq')).mut hpH, (kG'.trans (Kp.new hq')).trans (Kp.put (by simp)), _, upd_same, ?_⟩
            rw [List.take_add_one, hc5, List.map_append, ← List.append_assoc]
            refine (hst.up fun b zs hb => ?_).snoc ⟨q', x, rfl, ?_, hdx, hsmk c (List.mem_of_getElem? hc5)⟩
            · rw [upd_ne (fun z => by rw [z, hw] at hb; cases hb), upd_ne (ne_of_none hb hq')]
              exact hb
            · rw [upd_ne hqp', upd_same]
              rfl
        · obtain ⟨w5, rfl, eG', kG', ws, hw, hst⟩ := h
          rw [hzl, List.take_length] at hst
          refine ⟨stkN L' + nods (kidsT t'), by omega, L' ++ (kidsT t').map (fun c => (c, d + 1)), ws, m + (kidsT t').length, some v', some (.int (d : Int)), w5, rfl, eG', hw, hst, ?_, by omega, by rw [List.length_append, List.length_map]; omega, ?_, ?_⟩
          · rw [stkN_app, stkN_kids, List.length_append, List.length_map]
            omega
          · rw [hok, stk_app, stk_kids, decide_eq_true (show d ≤ 60 by omega), b3]
            simp
          · rw [stkN_app, stkN_kids]
      · have : L = [] := by
          cases xs with
          | nil => exact List.eq_nil_of_length_eq_zero hL.1.symm
          | cons y ys => cases hb
        subst this
        refine go_ret ?_
        have hBt : docB t = true := by
          rw [hB, hok, decide_eq_true (show nod t ≤ 5000 by
            have h0 : stkN [] = 0 := rfl
            rw [h0] at hm
            have hm : m + 0 = nod t + 0 := hm
            omega)]
          rfl
        rw [hBt] at k
        exact k G1 (eG.trans e1)
end
/-! ### two trees that are equal -/
theorem paired_app {α β : Type} {R : α → β → Prop} : ∀ {xs ys : List α} {L M : List β}, Paired R xs L → Paired R ys M → Paired R (xs ++ ys) (L ++ M)
  | _, _, _, _, .nil, h => h
  | _, _, _, _, .cons r rs, h => .cons r (paired_app rs h)
theorem paired_last {α β : Type} {R : α → β → Prop} {t : β} : ∀ {L : List β} {xs : List α}, Paired R xs (L ++ [t]) → ∃ ys x, xs = ys ++ [x] ∧ Paired R ys L ∧ R x t
  | [], _, .cons r .nil => ⟨[], _, rfl, .nil, r⟩
  | _ :: _, _, .cons r rs => by
    obtain ⟨ys, x, e, h, q⟩ := paired_last rs
    exact ⟨_ :: ys, x, by rw [e]; rfl, .cons r h, q⟩
def GoodP (K : PySem.W.Frag) (H G : Hp) (x : V) (t : Tr) : Prop := ∃ (a : Addr) (v u : V), x = .ref a ∧ G a = some (.tup [v, u]) ∧ Dp K H v t.d ∧ Dp K H u t.d ∧ ∃ d, okAt d t = true
theorem goodP_up {K : PySem.W.Frag} {H G G' : Hp} {xs : List V} {L : List Tr} (h : Paired (GoodP K H G) xs L) (e : ∀ a ys, G a = some (.tup ys) → G' a = some (.tup ys)) : Paired (GoodP K H G') xs L := Paired.mapP h fun x t ⟨a, v, u, g1, g2, g3⟩ => ⟨a, v, u, g1, e _ _ g2, g3⟩
theorem goodP_zip {K : PySem.W.Frag} {H G : Hp} : ∀ {L : List (Addr × V × V)} {cs : List Tr} {ys zs : List V}, L.map (·.2) = ys.zip zs → DpAll K H ys (Tr.ds cs) → DpAll K H zs (Tr.ds cs) → (∀ p ∈ L, G p.1 = some (.tup [p.2.1, p.2.2])) → (∃ d, oksAt d cs = true) → Paired (GoodP K H G) (L.map fun p => V.ref p.1) cs
  | L, [], ys, zs, h, h1, h2, _, _ => by
    rw [Tr.ds] at h1
    cases h1
    have : L = [] := List.map_eq_nil_iff.mp h
    subst this
    exact .nil
  | L, c :: cs, ys, zs, h, h1, h2, hG, ⟨d, hok⟩ => by
    rw [oksAt, Bool.and_eq_true] at hok
    rw [Tr.ds] at h1 h2
    cases h1 with
    | cons a1 b1 =>
    cases h2 with
    | cons a2 b2 =>
    cases L with
    | nil => cases h
    | cons p L =>
      rw [List.map_cons, List.zip_cons_cons, List.cons.injEq] at h
      refine .cons ⟨p.1, _, _, rfl, hG p (List.mem_cons_self ..), ?_, ?_, d, hok.1⟩ (goodP_zip h.2 b1 b2 (fun q hq => hG q (List.mem_cons_of_mem _ hq)) ⟨d, hok.2⟩)
      · rw [h.1]; exact a1
      · rw [h.1]; exact a2
theorem nods_appD : ∀ as bs : List Tr, nods (as ++ bs) = nods as + nods bs
  | [], bs => by rw [nods, List.nil_append, Nat.zero_add]
  | a :: as, bs => by
    rw [List.cons_append, nods, nods, nods_appD as bs]
    omega
def spSameT (K : PySem.W.Frag) : Sp := fun vs H Q _ => ∃ (v u : V) (t : Tr), vs = [v, u] ∧ Dp K H v t.d ∧ Dp K H u t.d ∧ nod t ≤ 100000 ∧ (∃ d, okAt d t = true) ∧ ∀ H', Ex H H' → Q (.bl true) H'
theorem okZ {z : Str} (h : ∀ c ∈ z.cps.toList, c < 1114112) : SeqAt.shaped (.str z) = true := by
  have : PyData.strOk z = true := by
    show z.cps.all _ = true
    rw [← Array.all_toList, List.all_eq_true]
    intro c hc
    exact decide_eq_true (h c hc)
  simp [SeqAt.shaped, PyData.canLay0, PyData.depth, this]
theorem sg_lt {c : Nat} (h : sgB c = true) : c < 1114112 := by
  unfold sgB at h
  rw [Bool.or_eq_true, Bool.and_eq_true] at h
  rcases h with h | h
  · have := Nat.eq_of_beq_eq_true h
    omega
  · have := Nat.le_of_ble_eq_true h.2
    omega
theorem let_lt {c : Nat} (h : letB c = true) : c < 1114112 := by
  unfold letB at h
  rw [Bool.and_eq_true] at h
  have := Nat.le_of_ble_eq_true h.2
  omega
theorem eqv_str {z : Str} (h : SeqAt.shaped (.str z) = true) : PyData.eqv (.str z) (.str z) = true := SeqAt.eqv_refl _ (SeqAt.canLay_of_shaped h)
section
variable {P : Program} {w : World} {K : PySem.W.Frag} {mg : Str → Option Value} {base : Heap}
theorem val_neS {σ : L2.St} {H : Hp} {ta tb : TE} {z : Str} (h1 : Val ta σ H (.str z)) (h2 : Val tb σ H (.str z)) (hz : SeqAt.shaped (.str z) = true) : Val (tOp (rNeD K) ta tb) σ H (.bl false) :=
  val_op h1 h2 fun Q q => ⟨.str z, .str z, .str z, .str z, hz, hz, by rw [eqv_str hz]; exact q⟩
theorem ok_same_tree (T : TX K mg) : Can P w K mg base CX0 1 (He.fAd K at_same_tree) ps_same_tree [] (spSameT K) := by
  exact mk_same_tree T fun fd F => def0 F sc_same_tree (fun vs H Q E h => by
    obtain ⟨v, u, t, rfl, _⟩ := h
    rfl) fun cdv A outer s H vs Q E hr h => by
    obtain ⟨v, u, t, rfl, hv, hu, hn, hok, k⟩ := h
    refine ⟨_, (pss_cons (ps_set (i := 2) sc_same_tree.nd rfl (Or.inl rfl) (pe_lst (pa_cons (pe_tup (pa_cons (pv 0) (pa_cons (pv 1) pa_nil))) pa_nil)))
  (pss_cons (ps_while PassesOwn.never (tTruth K rfl (pv 2))
  (pss_cons (ps_asg (eBm0 K rfl PySem.F.plainAttrs_list PySem.F.slot_list_pop PySem.F.type_list_pop mt_pop (pv 2)) (pg_tup rfl (pgs_cons (pg_name (i := 3) sc_same_tree.nd rfl (Or.inl rfl)) (pgs_cons (pg_name (i := 4) sc_same_tree.nd rfl (Or.inl rfl)) pgs_nil))))
  (pss_one (ps_if (PW.pt (pw_or (pt_val (pe_callB (cIsi K rfl) (by rfl) T.n_isinstance (by decide +kernel) (pa_cons (pv 3) (pa_cons (pe_bltn (v := .ty "str") rfl T.n_str (by decide +kernel) rfl) pa_nil)))) (pw_or1 (pt_val (pe_callB (cIsi K rfl) (by rfl) T.n_isinstance (by decide +kernel) (pa_cons (pv 4) (pa_cons (pe_bltn (v := .ty "str") rfl T.n_str (by decide +kernel) rfl) pa_nil))))))) (pss_one (ps_if (pt_cmpR (oNeD K rfl hr.units) (pv 3) (pv 4) (nomark _)) (pss_one (ps_ret pe_bl)) pss_nil)) (pss_one (ps_if (PW.pt (pw_or (pt_cmpR (oNeD K rfl hr.units) (pe_ix (ixT K rfl) (pv 3) pe_int (fun _ _ => rfl)) (pe_ix (ixT K rfl) (pv 4) pe_int (fun _ _ => rfl)) (nomark _)) (pw_or1 (pt_cmpR op_ne (pe_callB (cLen K rfl) (by rfl) T.n_len PySem.boot_len (pa_cons (pe_ix (ixT K rfl) (pv 3) pe_int (fun _ _ => rfl)) pa_nil)) (pe_callB (cLen K rfl) (by rfl) T.n_len PySem.boot_len (pa_cons (pe_ix (ixT K rfl) (pv 4) pe_int (fun _ _ => rfl)) pa_nil)) (nomark _))))) (pss_one (ps_ret pe_bl)) (pss_one (ps_expr (eBm K rfl PySem.F.plainAttrs_list PySem.F.slot_list_extend PySem.F.type_list_extend mt_extend (pv 2) (pa_cons (pe_lstZip K rfl rfl (by rfl) T.n_list (by rfl) T.n_zip (pa_cons (pe_ix (ixT K rfl) (pv 3) pe_int (fun _ _ => rfl)) (pa_cons (pe_ix (ixT K rfl) (pv 4) pe_int (fun _ _ => rfl)) pa_nil))) pa_nil))))))))))
  (pss_one (ps_ret pe_bl)))), ?_⟩
    refine st_seq (go_asg ⟨_, rfl, _, rfl, by show 2 ≤ sizeLine; decide, fun q hq => ⟨by show 1 ≤ sizeLine; decide, fun p hp => ?_⟩⟩)
    dsimp only [gName]
    have hpH : H p = none := fresh_back (Ex.new hq) hp
    have hqp : q ≠ p := fun z => by
      rw [← z, upd_same] at hp
      cases hp
    refine q_while (fun n σ G => ∃ (L : List Tr) (xs : List V) (v3 v4 : Option V), σ = [some v, some u, some (.ref p), v3, v4] ∧ Ex H G ∧ G p = some (.lst xs) ∧ Paired (GoodP K H G) xs L ∧ nods L ≤ nod t ∧ n = nods L) (nod t) ?_ ?_
    · refine ⟨[t], _, none, none, rfl, (Ex.new hq).mut hpH, upd_same, .cons ⟨q, v, u, rfl, by rw [upd_ne hqp, upd_same], hv, hu, hok⟩ .nil, ?_, ?_⟩
      · rw [nods, nods]
        exact Nat.le_refl _
      · rw [nods, nods]
        rfl
    rintro n σ G ⟨L, xs, v3, v4, rfl, eG, hGp, hL, hm, rfl⟩
    refine ⟨!xs.isEmpty, fun H1 e Q q => ⟨_, rfl, _, .inl ⟨xs, SqL.of (e _ _ hGp), rfl⟩, q H1 (Ex.refl _)⟩, fun hb G1 e1 => ?_, fun hb G1 e1 => ?_⟩
    · rcases List.eq_nil_or_concat L with rfl | ⟨L', t', hcc⟩
      · cases hL
        cases hb
      rw [List.concat_eq_append] at hcc
      subst hcc
      obtain ⟨ys, x, rfl, hLs, a, v', u', rfl, hGa, hdv, hdu, dd, hokt⟩ := paired_last hL
      have hsn : nods (L' ++ [t']) = nods L' + nod t' := nods_snoc L' t'
      refine ⟨fun σ2 G2 => ∃ m', m' < nods (L' ++ [t']) ∧ ∃ (L : List Tr) (xs : List V) (v3 v4 : Option V), σ2 = [some v, some u, some (.ref p), v3, v4] ∧ Ex H G2 ∧ G2 p = some (.lst xs) ∧ Paired (GoodP K H G2) xs L ∧ nods L ≤ nod t ∧ m' = nods L, fun _ _ h => h, ?_⟩
      have hap : a ≠ p := fun z => by
        rw [z, hGp] at hGa
        cases hGa
      have hGp1 := e1 _ _ hGp
      refine st_seq ⟨_, rfl, .inl ⟨rfl, _, SqL.of hGp1⟩, p, _, V.ref a, rfl, rfl, hGp1, by simp, a, _, rfl, SqT.of (by rw [upd_ne hap]; exact e1 _ _ hGa), rfl, _, _, rfl, _, _, rfl, rfl, ?_⟩
      have e2 : Ex H (upd G1 p (.lst (ys ++ [V.ref a]).dropLast)) := (eG.trans e1).mut hpH
      have hG2p : upd G1 p (.lst (ys ++ [V.ref a]).dropLast) p = some (.lst ys) := by rw [upd_same, List.dropLast_concat]
      have hL2 : Paired (GoodP K H (upd G1 p (.lst (ys ++ [V.ref a]).dropLast))) ys L' := goodP_up hLs fun b zs hb => by
        rw [upd_ne (fun z => by rw [z, hGp] at hb; cases hb)]
        exact e1 _ _ hb
      generalize upd G1 p (.lst (ys ++ [V.ref a]).dropLast) = G2 at e2 hG2p hL2 ⊢
      have tx := ty_dp (dp_ex e2 hdv)
      have ty := ty_dp (dp_ex e2 hdu)
      cases t' with
      | txt z =>
        replace tx : TyX K G2 v' (.type "str") := tx
        cases hdv
        cases hdu
        rw [okAt, Bool.and_eq_true] at hokt
        refine st_yes (ans_or2 (a := true) (b := true) (ans_val (val_isi (b := true) (val_var rfl) tx (by decide +kernel))) nofun) ?_
        refine st_no (ans_v (val_neS (val_var rfl) (val_var rfl) (okZ fun c hc => sg_lt ((text_parts hokt.2).2.2 c hc)))) ?_
        have hsn' : nods (L' ++ [.txt z]) = nods L' + 1 := by rw [hsn, nod]
        exact ⟨nods L', by omega, L', ys, _, _, rfl, e2, hG2p, hL2, by omega, rfl⟩
      | el nm cs =>
        replace tx : TyX K G2 v' (.type "tuple") := tx
        replace ty : TyX K G2 u' (.type "tuple") := ty
        rw [okAt, wellB, Bool.and_eq_true, Bool.and_eq_true, Bool.and_eq_true] at hokt
        obtain ⟨a1, l1, ys1, rfl, sx1, sl1, al1⟩ := el_parts hdv
        obtain ⟨a2, l2, ys2, rfl, sx2, sl2, al2⟩ := el_parts hdu
        have hy1 : ys1.length = cs.length := by rw [dpa_len al1, ds_map, List.length_map]
        have hy2 : ys2.length = cs.length := by rw [dpa_len al2, ds_map, List.length_map]
        have hsn' : nods (L' ++ [.el nm cs]) = nods L' + (1 + nods cs) := by rw [hsn, nod]
        refine st_no (ans_or2 (a := false) (b := false) (ans_val (val_isi (b := false) (val_var rfl) tx (by decide +kernel))) fun _ => ans_val (val_isi (b := false) (val_var rfl) ty (by decide +kernel))) ?_
        refine st_no (ans_or2 (a := false) (b := false) (ans_v (val_neS (val_ixT (val_var rfl) val_c (ex_t e2 sx1) at_cons) (val_ixT (val_var rfl) val_c (ex_t e2 sx2) at_cons) (okZ fun c hc => let_lt ((name_parts hokt.1.2.1).2.2 c hc)))) fun _ => ans_v (val_is (val_ne (val_lenL (val_ixT (val_var rfl) val_c (ex_t e2 sx1) at_one) (ex_l e2 sl1)) (val_lenL (val_ixT (val_var rfl) val_c (ex_t e2 sx2) at_one) (ex_l e2 sl2)) rfl) (by rw [hy1, hy2]; simp))) ?_
        refine ⟨_, rfl, .inl ⟨rfl, _, SqL.of hG2p⟩, val_ixT (val_var rfl) val_c (ex_t e2 sx1) at_one _ (val_ixT (val_var rfl) val_c (ex_t e2 sx2) at_one _ ⟨l1, l2, ys1, ys2, rfl, ex_l e2 sl1, ex_l e2 sl2, fun q3 L3 G3 hq3 ex3 hq4 hL3 hL4 => ⟨p, q3, ys, _, rfl, rfl, ex3 _ _ hG2p, hq4, ?_, ?_⟩⟩)⟩
        · have h1 := congrArg List.length hL4
          rw [List.length_map, List.length_zip] at h1
          have h2 := hL2.length
          have h3 := len_nods L'
          have h4 := len_nods cs
          rw [List.length_map]
          exact sz_of (by omega)
        · have hLp : ∀ b zs, G3 b = some (.tup zs) → upd G3 p (.lst (ys ++ L3.map fun p => V.ref p.1)) b = some (.tup zs) := fun b zs hb => by
            rw [upd_ne (fun z => by rw [z, ex3 _ _ hG2p] at hb; cases hb)]
            exact hb
          refine ⟨nods (L' ++ cs), ?_, L' ++ cs, _, _, _, rfl, (e2.trans ex3).mut hpH, upd_same, paired_app (goodP_up hL2 fun b zs hb => hLp b zs (ex3 _ _ hb)) (goodP_zip hL4 al1 al2 (fun p' hp' => hLp _ _ (hL3 p' hp').2.2) ⟨_, hokt.2⟩), ?_, rfl⟩
          · rw [hsn', nods_appD]
            omega
          · rw [nods_appD]
            omega
    · have : xs = [] := by
        cases xs with
        | nil => rfl
        | cons y ys => cases hb
      refine go_ret ?_
      exact k G1 (eG.trans e1)
end
/-! ### any small tree as a text, by the law -/
def spWritten2 (K : PySem.W.Frag) (n : Nat) : Sp := fun vs H Q _ => ∃ (x : V) (b : Bool) (t : Tr) (k : Nat), vs = [x, .bl b] ∧ k < n ∧ fitT k t ∧ nod t ≤ 100000 ∧ (wr b t).length ≤ 50000 ∧ Dp K H x t.d ∧ ∀ H', Ex H H' → Q (.str (sL (wr b t))) H'
theorem nod_in : ∀ {cs : List Tr} {c : Tr}, c ∈ cs → nod c ≤ nods cs
  | x :: cs, c, h => by
    rw [nods]
    rcases List.mem_cons.mp h with e | e
    · rw [e]; omega
    · have := nod_in e
      omega
theorem wr_in (b : Bool) : ∀ {cs : List Tr} {c : Tr}, c ∈ cs → (wr b c).length ≤ (wrs b cs).length
  | x :: cs, c, h => by
    rw [wrs, List.length_append]
    rcases List.mem_cons.mp h with e | e
    · rw [e]; omega
    · have := wr_in b e
      omega
theorem fit_okTr : ∀ {k : Nat} {t : Tr}, okTr k t → fitT k t
  | k, .txt z, h => by
    have h' : okText 5 z := by cases k <;> exact h
    have := h'.2.1
    cases k <;> (show z.cps.size ≤ 1000; omega)
  | 0, .el _ _, h => h.elim
  | k + 1, .el n cs, h => ⟨name_len h.1, fun c hc => fit_okTr (h.2.2.2 c hc)⟩
theorem fit_okAt : ∀ {t : Tr} (k d : Nat), okAt d t = true → d + k = 61 → fitT k t
  | .txt z, k, d, h, _ => by
    rw [okAt, Bool.and_eq_true] at h
    have := (text_parts h.2).2.1
    rw [Array.length_toList] at this
    cases k <;> (show z.cps.size ≤ 1000; omega)
  | .el n cs, 0, d, h, hd => by
    rw [okAt, Bool.and_eq_true, Bool.and_eq_true, decide_eq_true_eq] at h
    have := h.1.1
    omega
  | .el n cs, k + 1, d, h, hd => by
    rw [okAt, wellB, Bool.and_eq_true, Bool.and_eq_true, Bool.and_eq_true] at h
    obtain ⟨⟨_, hnm, _⟩, hks⟩ := h
    rw [oksAt_all, List.all_eq_true] at hks
    exact ⟨(name_parts hnm).2.1, fun c hc => fit_okAt k (d + 1) (hks c hc) (by omega)⟩
theorem small_at : ∀ {t : Tr} (d : Nat), okAt d t = true → smallT t
  | .txt z, d, h => by
    rw [okAt, Bool.and_eq_true] at h
    have := (text_parts h.2).2.1
    rw [Array.length_toList] at this
    rw [smallT]
    omega
  | .el n cs, d, h => by
    rw [okAt, wellB, Bool.and_eq_true, Bool.and_eq_true, Bool.and_eq_true] at h
    obtain ⟨⟨_, hnm, _⟩, hks⟩ := h
    rw [oksAt_all, List.all_eq_true] at hks
    have := (name_parts hnm).2.1
    rw [Array.length_toList] at this
    rw [smallT]
    exact ⟨by omega, smallTs_of fun c hc => small_at (d + 1) (hks c hc)⟩
mutual
theorem cost_nod : ∀ t : Tr, cost t ≤ 3 * nod t
  | .txt _ => by rw [cost, nod]; decide
  | .el _ cs => by
    have := costs_nod cs
    rw [cost, nod]
    omega
theorem costs_nod : ∀ cs : List Tr, costs cs ≤ 3 * nods cs
  | [] => by rw [costs, nods]; exact Nat.le_refl _
  | c :: cs => by
    have h1 := cost_nod c
    have h2 := costs_nod cs
    rw [costs, nods]
    omega
end
section
variable {P : Program} {w : World} {K : PySem.W.Frag} {mg : Str → Option Value} {base : Heap}
theorem ok__law_written2 (T : TX K mg) : ∀ n, Can P w K mg base CX0 (n + 2) (He.fAd K at__law_written) ps__law_written [] (spWritten2 K n)
  | 0 => by
    obtain ⟨fd, _, b⟩ := mk__law_written (P := P) (w := w) (base := base) (CX := CX0) (k := 0) (sp := fun _ _ _ _ => False) T fun fd F => ⟨fun _ _ _ _ h => h.elim, fun _ _ _ _ _ _ _ _ _ _ _ _ _ h => h.elim⟩
    exact ⟨fd, ⟨fun _ _ _ _ ⟨_, _, _, _, _, h, _⟩ => absurd h (Nat.not_lt_zero _), fun _ _ _ _ _ _ _ _ _ _ _ _ _ ⟨_, _, _, _, _, h, _⟩ => absurd h (Nat.not_lt_zero _)⟩, b⟩
  | n + 1 => by
    obtain ⟨fd_s, G__law_written, ds_s, v__law_written, b__law_written⟩ := ok__law_written2 T n
    obtain ⟨fd__law_escaped, G__law_escaped, ds__law_escaped, v__law_escaped, b__law_escaped⟩ := ok__law_escaped (P := P) (w := w) (base := base) T
    exact mk__law_written T fun fd F => def0 F sc__law_written (fun vs H Q E h => by
      obtain ⟨x, b, t, k, rfl, _⟩ := h
      rfl) fun cdv A outer s H vs Q E hr h => by
      obtain ⟨x, b, t, k, rfl, hk, hok, hnd, hlen, hx, kk⟩ := h
      refine ⟨_, (pss_cons (ps_if (pt_val (pe_callB (cIsi K rfl) (by rfl) T.n_isinstance (by decide +kernel) (pa_cons (pv 0) (pa_cons (pe_bltn (v := .ty "str") rfl T.n_str (by decide +kernel) rfl) pa_nil)))) (pss_one (ps_ret (pe_call G__law_escaped (hr.mono (by first | decide | omega)) rfl T.g__law_escaped T.k__law_escaped b__law_escaped v__law_escaped pass0 (pa_cons (pv 0) pa_nil)))) pss_nil)
  (pss_cons (ps_if (PW.pt (pw_and (pt_cmpR op_eq (pe_callB (cLen K rfl) (by rfl) T.n_len PySem.boot_len (pa_cons (pe_ix (ixT K rfl) (pv 0) pe_int (fun _ _ => rfl)) pa_nil)) pe_int (nomark _)) (pw_and1 (pt_not (pt_val (pv 1)))))) (pss_one (ps_ret (pe_op op_add_str (pe_op op_add_str pe_str (pe_ix (ixT K rfl) (pv 0) pe_int (fun _ _ => rfl))) pe_str))) pss_nil)
  (pss_cons (ps_set (i := 2) sc__law_written.nd rfl (Or.inl rfl) (pe_join pe_str (by exact (pe_lc (own := [("child", 3)]) (g := gName 3) (tt := tYes) rfl sc__law_written.nd (iLst K rfl (pe_ix (ixT K rfl) (pv 0) pe_int (fun _ _ => rfl))) (blkOk_by (own := [("child", 3)]) (N := N__law_written) (sc := defScope s__law_written) (by decide +kernel)) (fun _ _ _ _ _ => by exact (pg_name (i := 3) sc__law_written.nd rfl (Or.inl rfl))) (fun _ _ _ _ _ => by exact pts_nil) (fun _ _ _ _ _ => by exact (pe_call G__law_written (hr.mono (by first | decide | omega)) rfl T.g__law_written T.k__law_written b__law_written v__law_written pass0 (pa_cons (pv 3) (pa_cons (pv 1) pa_nil))))))))
  (pss_one (ps_ret (pe_op op_add_str (pe_op op_add_str (pe_op op_add_str (pe_op op_add_str (pe_op op_add_str (pe_op op_add_str pe_str (pe_ix (ixT K rfl) (pv 0) pe_int (fun _ _ => rfl))) pe_str) (pv 2)) pe_str) (pe_ix (ixT K rfl) (pv 0) pe_int (fun _ _ => rfl))) pe_str)))))), ?_⟩
      have tx := ty_dp hx
      cases t with
      | txt z =>
        have hz : z.cps.size ≤ 1000 := by cases k <;> exact hok
        cases hx
        replace tx : TyX K H (.str z) (.type "str") := tx
        refine st_seq (st_yes (ans_val (val_isi (b := true) (val_var rfl) tx (by decide +kernel))) ?_)
        refine go_ret ?_
        refine ⟨_, rfl, z, rfl, hz, fun H' e => ?_⟩
        have := kk H' e
        rw [wr] at this
        exact this
      | el nm cs =>
        obtain ⟨k', rfl⟩ : ∃ k', k = k' + 1 := by
          cases k with
          | zero => exact hok.elim
          | succ k' => exact ⟨k', rfl⟩
        obtain ⟨hnl, hcs⟩ := hok
        have hc3 := len_nods cs
        rw [nod] at hnd
        replace tx : TyX K H x (.type "tuple") := tx
        obtain ⟨a, l, ys, rfl, sx, sl, al⟩ := el_parts hx
        have hyl : ys.length = cs.length := by rw [dpa_len al, ds_map, List.length_map]
        have nmv : ∀ {σ : L2.St} {G : Hp}, σ[0]? = some (some (.ref a)) → Ex H G → Val (tOp (rIxT K) (tVar 0) (tC (.int 0))) σ G (.str (sL nm.cps.toList)) := fun hσ e => val_is (val_ixT (val_var hσ) val_c (ex_t e sx) at_cons) (by rw [sL_of])
        have c1 : ∀ {σ : L2.St} {G : Hp} (z : Str) (q : List Nat), z.cps.toList = q → Val (tC (.str z)) σ G (.str (sL q)) := fun z q e => val_is val_c (by rw [← e, sL_of])
        refine st_seq (st_no (ans_val (val_isi (b := false) (val_var rfl) tx (by decide +kernel))) ?_)
        refine st_seq (st_if (ans_and3 (ans_v (val_eq (val_lenL (val_ixT (val_var rfl) val_c sx at_one) sl) val_c rfl)) fun _ => ans_not (ans_val (val_var rfl))) (fun h => ?_) (fun h => ?_))
        · have h0 : cs = [] ∧ b = false := by
            have h1 := Bool.and_eq_true_iff.mp h
            have h2 := V.int.inj (of_decide_eq_true h1.1)
            refine ⟨List.length_eq_zero_iff.mp (by omega), ?_⟩
            cases b with
            | true => cases h1.2
            | false => rfl
          obtain ⟨rfl, rfl⟩ := h0
          refine st_ret (val_is (val_sL (val_sL (c1 "<" [60] (by decide +kernel)) (nmv rfl (Ex.refl _)) (by simp only [List.length_append, List.length_cons, List.length_nil]; omega)) (c1 "/>" [47, 62] (by decide +kernel)) (by simp only [List.length_append, List.length_cons, List.length_nil]; omega)) ?_) (kk H (Ex.refl _))
          rw [wr]
          rfl
        · have hw : wr b (.el nm cs) = [60] ++ nm.cps.toList ++ [62] ++ wrs b cs ++ [60, 47] ++ nm.cps.toList ++ [62] := by
            rw [wr, if_neg]
            intro z
            rw [hyl] at h
            cases cs with
            | nil =>
              cases b with
              | true => cases z
              | false => cases h
            | cons _ _ => cases z
          have hwl : (wrs b cs).length ≤ 50000 := by
            rw [hw] at hlen
            simp only [List.length_append] at hlen
            omega
          dsimp only [tNext]
          refine st_seq (go_asg ?_)
          refine ⟨⟨_, rfl⟩, ?_⟩
          refine ⟨_, rfl, a, _, 1, _, rfl, rfl, sx, at_one, l, rfl, ⟨_, sl⟩, fun D hD => lc_list (xs := ys) (fun i G => Ex H G ∧ ∃ zs : List Str, G D = some (.lst (zs.map V.str)) ∧ zs.length = i ∧ zs.map (·.cps.toList) = (cs.take i).map (wr b)) ⟨Ex.new hD, [], upd_same, rfl, rfl⟩ (fun i G _ ⟨e, _⟩ => ex_l e sl) ?_ ?_⟩
          · rintro i y G hy ⟨e, zs, hG, hl, hm⟩
            obtain ⟨c, hc, hyc⟩ := dsAt al hy
            have hi := lt_of_at hc
            refine ⟨rfl, ?_⟩
            refine ⟨_, rfl, _, rfl, y, b, c, k', rfl, by omega, hcs c (List.mem_of_getElem? hc), by have := nod_in (List.mem_of_getElem? hc); omega, by have := wr_in b (List.mem_of_getElem? hc); omega, dp_ex e hyc, fun G2 e2 => ?_⟩
            refine ⟨_, e2 _ _ hG, sz_lt (by rw [List.length_map]; omega), (e.trans e2).mut hD, zs ++ [sL (wr b c)], by rw [upd_same, List.map_append]; rfl, by rw [List.length_append, hl]; rfl, ?_⟩
            rw [List.map_append, hm, List.take_succ, hc, List.map_append]
            rfl
          · rintro G ⟨e, zs, hG, hl, hm⟩
            rw [hyl, List.take_length] at hm
            refine ⟨_, D, zs, rfl, rfl, .inl (SqL.of hG), ?_, ?_⟩
            · rw [sum_len]
              have : (zs.map (·.cps.toList)).flatten.length ≤ 50000 := by rw [hm, ← wrs_flat]; exact hwl
              show _ + zs.length * 0 ≤ _
              omega
            · rw [nosign, join0, hm, ← wrs_flat]
              dsimp only [gName]
              refine st_ret (val_is (val_sL (val_sL (val_sL (val_sL (val_sL (val_sL (c1 "<" [60] (by decide +kernel)) (nmv rfl e) (by simp only [List.length_append, List.length_cons, List.length_nil]; omega)) (c1 ">" [62] (by decide +kernel)) (by simp only [List.length_append, List.length_cons, List.length_nil]; omega)) (val_var rfl) (by simp only [List.length_append, List.length_cons, List.length_nil]; omega)) (c1 "</" [60, 47] (by decide +kernel)) (by simp only [List.length_append, List.length_cons, List.length_nil]; omega)) (nmv rfl e) (by simp only [List.length_append, List.length_cons, List.length_nil]; omega)) (c1 ">" [62] (by decide +kernel)) (by simp only [List.length_append, List.length_cons, List.length_nil]; omega)) ?_) (kk G e)
              rw [hw]
end
/-! ### reading a text, changing a text -/
theorem cut_fromL {z : Str} {j : Nat} : (cutS z (some (j : Int)) none).cps.size = z.cps.size - j := by
  have e : (cutS z (some (j : Int)) none).cps.toList = (z.cps.toList.drop (min j z.cps.size)).take (z.cps.size - min j z.cps.size) := by
    unfold cutS
    rw [HT.sIx_nat, HT.sIx_none]
    rfl
  rw [← Array.length_toList, e, List.length_take, List.length_drop, Array.length_toList]
  omega
theorem cut_toL {z : Str} {j : Nat} : (cutS z none (some (j : Int))).cps.size = min j z.cps.size := by
  have h0 : remS z 0 z.cps.toList := ⟨Nat.zero_le _, rfl⟩
  have := h0.cut (k := j)
  rw [Nat.zero_add] at this
  have e : cutS z none (some (j : Int)) = sL (z.cps.toList.take j) := this
  rw [e, ← Array.length_toList, sL_list, List.length_take, Array.length_toList]
theorem size_app (a b : Str) : (a ++ b).cps.size = a.cps.size + b.cps.size := by
  show (a.cps ++ b.cps).size = _
  rw [Array.size_append]
def chSigns : List Str := ["<", ">", "/", "a", "&", "&lt;", "x", "\n", "<a/>", "<b>", "</b>", "</a>", ""]
theorem ch_len : ∀ y ∈ chSigns, y.cps.size ≤ 4 := by decide +kernel
def spChg : Sp := fun vs H Q _ => ∃ (d : Addr) (z : Str), vs = [.ref d, .str z] ∧ z.cps.size ≤ 50000 ∧ Dr H d ∧ ∀ (z' : Str) (H' : Hp), z'.cps.size ≤ z.cps.size + 8 → Dr H' d → Kp [d] H H' → Q (.str z') H'
def spLR (K : PySem.W.Frag) : Sp := fun vs H Q _ => ∃ z : Str, vs = [.str z] ∧ z.cps.size ≤ 200000 ∧ (∀ j y, rdDoc z.cps.toList = .no j y → ∀ H', Ex H H' → Q .non H') ∧
  ∀ (nm : Str) (t : Tr) (ds : List Tr) (l : List Nat) (i n : Nat), rdDoc z.cps.toList = .ok [(nm, t :: ds)] l i n → ∀ (v : V) (H' : Hp), Ex H H' → Dp K H' v t.d → Q v H'
section
variable {P : Program} {w : World} {K : PySem.W.Frag} {mg : Str → Option Value} {base : Heap}
theorem ok__law_read (T : TX K mg) : Can P w K mg base CX0 11 (He.fAd K at__law_read) ps__law_read [] (spLR K) := by
  obtain ⟨fd_read_document, G_read_document, ds_read_document, v_read_document, b_read_document⟩ := ok_read_document (P := P) (w := w) (base := base) T
  exact mk__law_read T fun fd F => def0 F sc__law_read (fun vs H Q E h => by
    obtain ⟨z, rfl, _⟩ := h
    rfl) fun cdv A outer s H vs Q E hr h => by
    obtain ⟨z, rfl, hz, kno, kok⟩ := h
    refine ⟨_, (pss_one (ps_try_as (i := 1) rfl rfl sc__law_read.nd rfl rfl ⟨rfl, by decide, .inl T.g_TextError⟩ takes0 (fun W pn xe tk _ => (pss_one (ps_ret (pe_call G_read_document (hr.mono (by first | decide | omega)) rfl T.g_read_document T.k_read_document b_read_document v_read_document (passes_call (E := fun cls d H => ∀ σ, W cls d σ H) tk (fun _ _ σ _ h => h σ)) (pa_cons (pv 0) pa_nil))))) (fun a oe cls d pn hz hf => ps_len (n := 2) rfl (pss_one (ps_ret pe_non))))), ?_⟩
    refine ⟨_, rfl, z, rfl, by omega, fun hb => absurd hb (by omega), fun hs => ⟨fun j y e d H' hd e' hx σ => ⟨true, T.ex_TextError_TextError, fun _ a ha hl => ?_, nofun⟩, fun nm t ds l i n e v H' e' hv => ?_⟩⟩
    · exact go_ret (kno j y e H' e')
    · exact kok nm t ds l i n e v H' e' hv
theorem ok__law_changed (T : TX K mg) : Can P w K mg base CX0 2 (He.fAd K at__law_changed) ps__law_changed [] spChg := by
  obtain ⟨fd__law_take, G__law_take, ds__law_take, v__law_take, b__law_take⟩ := ok__law_take (P := P) (w := w) (base := base) T
  exact mk__law_changed T fun fd F => def0 F sc__law_changed (fun vs H Q E h => by
    obtain ⟨d, z, rfl, _⟩ := h
    rfl) fun cdv A outer s H vs Q E hr h => by
    obtain ⟨d, z, rfl, hz, D, k⟩ := h
    refine ⟨_, (pss_cons (ps_set (i := 2) sc__law_changed.nd rfl (Or.inl rfl) (pe_call G__law_take (hr.mono (by first | decide | omega)) rfl T.g__law_take T.k__law_take b__law_take v__law_take pass0 (pa_cons (pv 0) (pa_cons (pe_op op_add (pe_callB call_len_str (by rfl) T.n_len PySem.boot_len (pa_cons (pv 1) pa_nil)) pe_int) pa_nil))))
  (pss_cons (ps_set (i := 3) sc__law_changed.nd rfl (Or.inl rfl) (pe_lst (pa_cons pe_str (pa_cons pe_str (pa_cons pe_str (pa_cons pe_str (pa_cons pe_str (pa_cons pe_str (pa_cons pe_str (pa_cons pe_str (pa_cons pe_str (pa_cons pe_str (pa_cons pe_str (pa_cons pe_str (pa_cons pe_str pa_nil)))))))))))))))
  (pss_cons (ps_set (i := 4) sc__law_changed.nd rfl (Or.inl rfl) (pe_ix (ixL K rfl) (pv 3) (pe_call G__law_take (hr.mono (by first | decide | omega)) rfl T.g__law_take T.k__law_take b__law_take v__law_take pass0 (pa_cons (pv 0) (pa_cons (pe_callB (cLen K rfl) (by rfl) T.n_len PySem.boot_len (pa_cons (pv 3) pa_nil)) pa_nil))) (fun _ _ => rfl)))
  (pss_cons (ps_set (i := 5) sc__law_changed.nd rfl (Or.inl rfl) (pe_call G__law_take (hr.mono (by first | decide | omega)) rfl T.g__law_take T.k__law_take b__law_take v__law_take pass0 (pa_cons (pv 0) (pa_cons pe_int pa_nil))))
  (pss_cons (ps_if (pt_cmpR op_eq (pv 5) pe_int (nomark _)) (pss_one (ps_ret (pe_op op_add_str (pe_op op_add_str (pe_slice sl_str (pv 1) po_none (po_some (pv 2))) (pv 4)) (pe_slice sl_str (pv 1) (po_some (pv 2)) po_none)))) pss_nil)
  (pss_cons (ps_if (pt_cmpR op_eq (pv 5) pe_int (nomark _)) (pss_one (ps_ret (pe_op op_add_str (pe_slice sl_str (pv 1) po_none (po_some (pv 2))) (pe_slice sl_str (pv 1) (po_some (pe_op op_add (pv 2) pe_int)) po_none)))) pss_nil)
  (pss_cons (ps_if (pt_cmpR op_eq (pv 5) pe_int (nomark _)) (pss_one (ps_ret (pe_op op_add_str (pe_op op_add_str (pe_slice sl_str (pv 1) po_none (po_some (pv 2))) (pv 4)) (pe_slice sl_str (pv 1) (po_some (pe_op op_add (pv 2) pe_int)) po_none)))) pss_nil)
  (pss_cons (ps_set (i := 6) sc__law_changed.nd rfl (Or.inl rfl) (pe_op op_add (pv 2) (pe_call G__law_take (hr.mono (by first | decide | omega)) rfl T.g__law_take T.k__law_take b__law_take v__law_take pass0 (pa_cons (pv 0) (pa_cons pe_int pa_nil)))))
  (pss_one (ps_ret (pe_op op_add_str (pe_slice sl_str (pv 1) po_none (po_some (pv 6))) (pe_slice sl_str (pv 1) (po_some (pv 2)) po_none)))))))))))), ?_⟩
    have hzl : z.length = z.cps.size := rfl
    have hzs : z.length ≤ sizeLine := sz_of (by omega)
    refine st_seq (go_asg (rd_take rfl (val_I (g := fun i j => .int (i + j)) (len_str (val_var rfl) (by omega)) val_c) (by omega) D fun at_ H1 a0 a1 D1 e1 => ?_))
    dsimp only [gName]
    obtain ⟨j, rfl⟩ : ∃ n : Nat, at_ = (n : Int) := ⟨at_.toNat, by omega⟩
    have hj : j ≤ z.cps.size := by omega
    refine st_seq (go_asg ⟨by show 13 ≤ sizeLine; decide, fun p hp => ?_⟩)
    dsimp only [gName]
    have D2 := D1.put (o := .lst (chSigns.map V.str)) hp
    have k2 := e1.trans (Kp.new (S := [d]) (o := .lst (chSigns.map V.str)) hp)
    have hp2 : upd H1 p (.lst (chSigns.map V.str)) p = some (.lst (chSigns.map V.str)) := upd_same
    have hpd : p ≠ d := D1.ne hp
    have hpe : (HO.lst [V.str "<", .str ">", .str "/", .str "a", .str "&", .str "&lt;", .str "x", .str "\n", .str "<a/>", .str "<b>", .str "</b>", .str "</a>", .str ""]) = .lst (chSigns.map V.str) := rfl
    refine st_seq (go_asg ⟨_, rfl, rd_take rfl (val_lenL (val_var rfl) (SqL.of hp2)) (by show (0 : Int) < ((13 : Nat) : Int); decide) D2 fun q H3 q0 q1 D3 e3 => ?_⟩)
    obtain ⟨q, rfl⟩ : ∃ n : Nat, q = (n : Int) := ⟨q.toNat, by omega⟩
    have hq : q < chSigns.length := by
      have q1 : (q : Int) < ((13 : Nat) : Int) := q1
      show q < 13
      omega
    have hzq : (chSigns.map V.str)[q]? = some (.str chSigns[q]) := by rw [List.getElem?_map, List.getElem?_eq_getElem hq]; rfl
    have hy := ch_len _ (List.getElem_mem hq)
    generalize chSigns[q] = y at hzq hy
    refine ⟨p, _, _, _, rfl, rfl, SqL.of (e3.at hp2 (by simpa using hpd)), atI_nat hzq, ?_⟩
    dsimp only [gName]
    have k3 := k2.trans e3
    refine st_seq (go_asg (rd_take rfl val_c (by decide) D3 fun kind H4 q0 q1 D4 e4 => ?_))
    dsimp only [gName]
    have k4 := k3.trans e4
    have hto : ∀ i : Nat, (cutS z none (some (i : Int))).length = min i z.cps.size := fun i => cut_toL
    have hfr : ∀ i : Nat, (cutS z (some (i : Int)) none).length = z.cps.size - i := fun i => cut_fromL
    have hyl : y.length ≤ 4 := hy
    have hap : ∀ a b : Str, (a ++ b).length = a.length + b.length := size_app
    have fin : ∀ (z' : Str), z'.length ≤ z.length + 8 → Q (.str z') H4 := fun z' h => k z' H4 h D4 k4
    refine st_seq (st_if (b := decide (kind = 0)) (ans_v (val_is (val_eq (val_var rfl) val_c rfl) (by
      congr 1
      rw [decide_eq_decide]
      exact ⟨fun h => V.int.inj h, fun h => by rw [h]⟩))) (fun hb => ?_) (fun hb => ?_))
    · refine go_ret ⟨_, rfl, _, rfl, _, rfl, z, rfl, hzs, _, rfl, _, _, rfl, rfl, sz_of (by rw [hto]; omega), _, rfl, _, rfl, _, rfl, z, rfl, hzs, _, _, rfl, rfl, sz_of (by rw [hap, hto, hfr]; omega), fin _ (by rw [hap, hap, hto, hfr]; omega)⟩
    have nx1 : ∀ i : Nat, ((i : Int) + 1) = ((i + 1 : Nat) : Int) := fun i => by omega
    dsimp only [tNext]
    refine st_seq (st_if (b := decide (kind = 1)) (ans_v (val_is (val_eq (val_var rfl) val_c rfl) (by
      congr 1
      rw [decide_eq_decide]
      exact ⟨fun h => V.int.inj h, fun h => by rw [h]⟩))) (fun hb => ?_) (fun hb => ?_))
    · refine go_ret ⟨_, rfl, _, rfl, _, rfl, z, rfl, hzs, _, rfl, _, rfl, _, _, rfl, rfl, _, rfl, z, rfl, hzs, _, _, rfl, rfl, sz_of (by rw [nx1, hto, hfr]; omega), fin _ (by rw [nx1, hap, hto, hfr]; omega)⟩
    dsimp only [tNext]
    refine st_seq (st_if (b := decide (kind = 2)) (ans_v (val_is (val_eq (val_var rfl) val_c rfl) (by
      congr 1
      rw [decide_eq_decide]
      exact ⟨fun h => V.int.inj h, fun h => by rw [h]⟩))) (fun hb => ?_) (fun hb => ?_))
    · refine go_ret ⟨_, rfl, _, rfl, _, rfl, z, rfl, hzs, _, rfl, _, _, rfl, rfl, sz_of (by rw [hto]; omega), _, rfl, _, rfl, _, _, rfl, rfl, _, rfl, z, rfl, hzs, _, _, rfl, rfl, sz_of (by rw [nx1, hap, hto, hfr]; omega), fin _ (by rw [nx1, hap, hap, hto, hfr]; omega)⟩
    dsimp only [tNext]
    refine st_seq (go_asg ⟨_, rfl, rd_take rfl val_c (by decide) D4 fun b H5 b0 b1 D5 e5 => ⟨_, _, rfl, rfl, ?_⟩⟩)
    dsimp only [gName]
    obtain ⟨b, rfl⟩ : ∃ n : Nat, b = (n : Int) := ⟨b.toNat, by omega⟩
    have nx2 : ((j : Int) + (b : Int)) = ((j + b : Nat) : Int) := by omega
    refine go_ret ⟨_, rfl, _, rfl, _, rfl, z, rfl, hzs, _, rfl, _, rfl, _, rfl, z, rfl, hzs, _, _, rfl, rfl, sz_of (by rw [nx2, hto, hfr]; omega), k _ H5 ?_ D5 (k4.trans e5)⟩
    show (cutS z none (some ((j : Int) + (b : Int))) ++ cutS z (some (j : Int)) none).length ≤ z.length + 8
    rw [nx2, hap, hto, hfr]
    omega
end
/-! ### the law -/
def spLaw (K : PySem.W.Frag) : Sp := fun vs H Q _ => ∃ (a : Addr) (ns : List Int), vs = [.ref a] ∧ SqL K H a (ns.map V.int) ∧ ns.length ≤ 63 ∧ TGx K H ∧ ∀ H', TGx K H' → Q (.bl true) H'
theorem law_start {K : PySem.W.Frag} {H : Hp} {a : Addr} {ns : List Int} (hl : ns.length ≤ 63) (_ : ∀ z ∈ ns, Builtin.Int.intBits z ≤ 1048576) (hO : ∀ p ∈ tf, H (He.cT K p).2 = some (.tbl #[])) (hS : SqL K H a (ns.map V.int)) : spTab (genT K) (spLaw K) [.ref a] H (fun v _ => v = .bl true) fun _ _ _ => False := by
  have hG : ∀ b ∈ genT K, H b = some (.tbl #[]) := fun b hb => by
    obtain ⟨p, hp, rfl⟩ := List.mem_map.mp hb
    exact hO p hp
  refine ⟨hG, a, ns, rfl, ?_, hl, fun b hb => if_pos hb, fun H' h => ⟨h, fun _ => rfl⟩⟩
  have out : ∀ {b : Addr} {o : HO}, H b = some o → o ≠ .tbl #[] → extT (genT K) H b = some o := fun {b o} e n => by
    have : b ∉ genT K := fun z => n (by
      have := hG b z
      rw [e] at this
      exact Option.some.inj this)
    rw [← e]
    exact if_neg this
  rcases hS with (h | ⟨o, h⟩) | h
  · exact .inl (.inl (out h nofun))
  · exact .inl (.inr ⟨o, out h nofun⟩)
  · exact .inr h
def EvE (K : PySem.W.Frag) (te : TE) (σ : L2.St) (H : Hp) (d : PyData) : Prop := ∀ H1, Ex H H1 → ∀ Q : VK, (∀ v H2, Ex H1 H2 → Dp K H2 v d → Q v H2) → te σ H1 Q
section
variable {K : PySem.W.Frag} {σ : L2.St} {H : Hp} {ta tb te tf : TE} {v : V} {d : PyData}
theorem ee_val (h : Ev te σ H v) (hd : Dp K H v d) : EvE K te σ H d := fun H1 e _ q => h H1 e _ fun H2 e2 => q v H2 e2 (dp_ex (e.trans e2) hd)
theorem ee_call {sp : Sp} {dvs vs : List V} {E : XK} {ta : TA} (h : EvA ta σ H vs) (hs : ∀ H1, Ex H H1 → ∀ Q : VK, (∀ v H2, Ex H1 H2 → Dp K H2 v d → Q v H2) → sp (vs ++ dvs) H1 Q E) : EvE K (tCall sp dvs E ta) σ H d := fun H1 e Q q =>
  h H1 e _ fun H2 e2 => hs H2 (e.trans e2) Q fun v H3 e3 dv => q v H3 (e2.trans e3) dv
theorem isdoc_of {t : Tr} (h : EvE K te σ H t.d) (hT : TGx K H) (hs : smallT t) (hn : nod t ≤ 100000) : Ev (tCall (spIsDoc K) [] E0 (tCons te tNil)) σ H (.bl (docB t)) := fun H1 e Q q =>
  h H1 e _ fun v H2 e2 dv => ⟨v, t, rfl, dv, hs, hn, hT.ex (e.trans e2), fun H' e' => q H' (e2.trans e')⟩
theorem rv_ne {x y : V} (s : scal x y = true) : RV rNe x y H (.bl (!decide (x = y))) := fun H1 e Q q => ⟨s, q _ (Ex.refl _)⟩
theorem rv_isN {x : V} : RV (fun x y H Q => y = V.non ∧ Q (.bl (decide (x = V.non))) H) x .non H (.bl (decide (x = .non))) := fun H1 e Q q => ⟨rfl, q _ (Ex.refl _)⟩
end
section
variable {P : Program} {w : World} {K : PySem.W.Frag} {mg : Str → Option Value} {base : Heap}
theorem ok_law (T : TX K mg) (B : ∀ p ∈ tf, LamX.TabB base mg (He.cT K p).1 (He.cT K p).2) (fd : FuncData) (F : FunD K "law" "law" (defArgs s_law) (defBody s_law) (defScope s_law) [] [] (He.fAd K at_law) fd) : FnOk P w K mg base CX0 70 (He.fAd K at_law) fd ps_law (spLaw K) := by
  obtain ⟨fd__law_draws, G__law_draws, ds__law_draws, v__law_draws, b__law_draws⟩ := ok__law_draws (P := P) (w := w) (base := base) T
  obtain ⟨fd__law_take, G__law_take, ds__law_take, v__law_take, b__law_take⟩ := ok__law_take (P := P) (w := w) (base := base) T
  obtain ⟨fd__law_changed, G__law_changed, ds__law_changed, v__law_changed, b__law_changed⟩ := ok__law_changed (P := P) (w := w) (base := base) T
  obtain ⟨fd__law_read, G__law_read, ds__law_read, v__law_read, b__law_read⟩ := ok__law_read (P := P) (w := w) (base := base) T
  obtain ⟨fd_write_document, G_write_document, ds_write_document, v_write_document, b_write_document⟩ := ok_write_document (P := P) (w := w) (base := base) T
  obtain ⟨fd_same_tree, G_same_tree, ds_same_tree, v_same_tree, b_same_tree⟩ := ok_same_tree (P := P) (w := w) (base := base) T
  obtain ⟨fd_is_document, G_is_document, ds_is_document, v_is_document, b_is_document⟩ := ok_is_document (P := P) (w := w) (base := base) T B
  obtain ⟨fd_t, G__law_tree, ds_t, v__law_tree, b__law_tree⟩ := ok__law_tree (P := P) (w := w) (base := base) T 4
  obtain ⟨fd_w, G__law_written, ds_w, v__law_written, b__law_written⟩ := ok__law_written2 (P := P) (w := w) (base := base) T 62
  refine def0 F sc_law (fun vs H Q E h => by
    obtain ⟨a, ns, rfl, _⟩ := h
    rfl) fun cdv A outer s H vs Q E hr h => ?_
  obtain ⟨a, ns, rfl, hS, hl, hT, k⟩ := h
  refine ⟨_, (pss_cons (ps_set (i := 1) sc_law.nd rfl (Or.inl rfl) (pe_call G__law_draws (hr.mono (by first | decide | omega)) rfl T.g__law_draws T.k__law_draws b__law_draws v__law_draws pass0 (pa_cons (pv 0) pa_nil)))
  (pss_cons (ps_set (i := 2) sc_law.nd rfl (Or.inl rfl) (pe_call G__law_written (hr.mono (by first | decide | omega)) rfl T.g__law_written T.k__law_written b__law_written v__law_written pass0 (pa_cons (pe_call G__law_tree (hr.mono (by first | decide | omega)) rfl T.g__law_tree T.k__law_tree b__law_tree v__law_tree pass0 (pa_cons (pv 1) (pa_cons pe_int (pa_cons (pe_lst (pa_cons pe_str (pa_cons pe_str pa_nil))) pa_nil)))) (pa_cons (pe_cmpR op_eq (pe_call G__law_take (hr.mono (by first | decide | omega)) rfl T.g__law_take T.k__law_take b__law_take v__law_take pass0 (pa_cons (pv 1) (pa_cons pe_int pa_nil))) pe_int (nomark _)) pa_nil))))
  (pss_cons (ps_for PassesOwn.never rfl (pi_range1 rfl T.n_range (pa_cons pe_int pa_nil)) (pg_name (i := 3) sc_law.nd rfl (Or.inl rfl))
  (pss_cons (ps_set (i := 2) sc_law.nd rfl (Or.inl rfl) (pe_call G__law_changed (hr.mono (by first | decide | omega)) rfl T.g__law_changed T.k__law_changed b__law_changed v__law_changed pass0 (pa_cons (pv 1) (pa_cons (pv 2) pa_nil))))
  (pss_cons (ps_set (i := 4) sc_law.nd rfl (Or.inl rfl) (pe_call G__law_read (hr.mono (by first | decide | omega)) rfl T.g__law_read T.k__law_read b__law_read v__law_read pass0 (pa_cons (pv 2) pa_nil)))
  (pss_one (ps_if (pt_cmpR op_notN (pv 4) pe_non (nomark _)) (pss_cons (ps_if (pt_cmpR op_isnot_bl (pe_call G_is_document (hr.mono (by first | decide | omega)) rfl T.g_is_document T.k_is_document b_is_document v_is_document pass0 (pa_cons (pv 4) pa_nil)) pe_bl (nomark _)) (pss_one (ps_ret pe_bl)) pss_nil)
  (pss_cons (ps_set (i := 5) sc_law.nd rfl (Or.inl rfl) (pe_call G_write_document (hr.mono (by first | decide | omega)) rfl T.g_write_document T.k_write_document b_write_document v_write_document pass0 (pa_cons (pv 4) pa_nil)))
  (pss_cons (ps_set (i := 6) sc_law.nd rfl (Or.inl rfl) (pe_call G__law_read (hr.mono (by first | decide | omega)) rfl T.g__law_read T.k__law_read b__law_read v__law_read pass0 (pa_cons (pv 5) pa_nil)))
  (pss_cons (ps_if (PW.pt (pw_or (pt_cmpR op_isN (pv 6) pe_non (nomark _)) (pw_or (pt_not (pt_val (pe_call G_same_tree (hr.mono (by first | decide | omega)) rfl T.g_same_tree T.k_same_tree b_same_tree v_same_tree pass0 (pa_cons (pv 6) (pa_cons (pv 4) pa_nil))))) (pw_or1 (pt_cmpR op_ne (pe_call G_write_document (hr.mono (by first | decide | omega)) rfl T.g_write_document T.k_write_document b_write_document v_write_document pass0 (pa_cons (pv 6) pa_nil)) (pv 5) (nomark _)))))) (pss_one (ps_ret pe_bl)) pss_nil)
  (pss_one (ps_if (PW.pt (pw_or (pt_cmpR op_ne (pe_call G__law_written (hr.mono (by first | decide | omega)) rfl T.g__law_written T.k__law_written b__law_written v__law_written pass0 (pa_cons (pv 4) (pa_cons pe_bl pa_nil))) (pv 5) (nomark _)) (pw_or1 (pt_cmpR op_gt (pe_callB call_len_str (by rfl) T.n_len PySem.boot_len (pa_cons (pv 5) pa_nil)) (pe_callB call_len_str (by rfl) T.n_len PySem.boot_len (pa_cons (pv 2) pa_nil)) (nomark _))))) (pss_one (ps_ret pe_bl)) pss_nil)))))) pss_nil)))))
  (pss_one (ps_ret pe_bl))))), ?_⟩
  have tk : ∀ {G G' : Hp} {d : Addr}, TGx K G → Dr G d → Kp [d] G G' → TGx K G' := fun {G G' d} h D e => h.kp e fun a ha => by
    rw [List.mem_singleton.mp ha]
    obtain ⟨ns, q⟩ := D
    exact ⟨_, q⟩
  refine st_seq (go_asg ⟨_, rfl, a, ns, rfl, hS, hl, fun d H1 hd D1 e1 => ?_⟩)
  dsimp only [gName]
  have T1 := hT.ex e1
  refine st_seq (go_asg ⟨_, rfl, by show 2 ≤ sizeLine; decide, fun p hp => ⟨d, p, 3, ["a", "b"], rfl, by decide, D1.put hp, D1.ne hp, upd_same, by simp, by decide, by decide +kernel, fun v nm cs H3 hok D3 e3 N => rd_take rfl val_c (by decide) D3 fun q H4 q0 q1 D4 e4 => ⟨rfl, ?_⟩⟩⟩)
  have T3 := tk (T1.ex (Ex.new hp)) (D1.put hp) e3
  have T4 := tk T3 D3 e4
  have hdp : Dp K H4 v (Tr.el nm cs).d := N H4 fun x o h1 h2 => e4.at h2 fun z => by
    rw [List.mem_singleton.mp z] at h1
    exact (D1.put hp).on h1
  have hnod : nod (.el nm cs) ≤ 364 := Nat.le_trans (nod_le hok) (by decide)
  have hlen : ∀ b, (wr b (.el nm cs)).length ≤ 3200 := fun b => Nat.le_trans (wr_len b hok) (by decide)
  refine ⟨v, _, .el nm cs, 4, rfl, by decide, fit_okTr hok, by omega, Nat.le_trans (hlen _) (by decide), hdp, fun H5 e5 => ?_⟩
  dsimp only [gName]
  have D5 := D4.keep e5
  have T5 := T4.ex e5
  have hz0 : (sL (wr (decide (V.int q = V.int 0)) (.el nm cs))).cps.size ≤ 3200 := by
    rw [← Array.length_toList, sL_list]
    exact hlen _
  generalize sL (wr (decide (V.int q = V.int 0)) (.el nm cs)) = z0 at hz0
  clear hdp hnod hlen hok N
  refine st_seq (st_forR (n := 6) (va_one val_c) (by decide) (fun i σ G => ∃ (z : Str) (v3 v4 v5 v6 : Option V), σ = [some (.ref a), some (.ref d), some (.str z), v3, v4, v5, v6] ∧ Dr G d ∧ TGx K G ∧ z.cps.size ≤ 3200 + 8 * i) ⟨z0, _, _, _, _, rfl, D5, T5, hz0⟩ ?_ ?_)
  · rintro i σ G hi ⟨z, v3, v4, v5, v6, rfl, DG, TG, hz⟩
    refine st_seq (go_asg ⟨_, rfl, _, rfl, d, z, rfl, by omega, DG, fun y H6 hy D6 e6 => ?_⟩)
    dsimp only [gName]
    have T6 := tk TG DG e6
    have hy2 : y.cps.size ≤ 3200 + 8 * (i + 1) := by omega
    refine st_seq (go_asg ⟨_, rfl, y, rfl, by omega, fun j x e H7 e7 => ?_, fun nm t ds l i1 n1 e v H7 e7 hv => ?_⟩)
    · dsimp only [gName]
      refine st_no (ans_v (b := false) (val_op (val_var rfl) val_c fun Q q => ⟨rfl, q⟩)) ?_
      exact ⟨y, _, _, _, _, rfl, D6.keep e7, T6.ex e7, hy2⟩
    · dsimp only [gName]
      obtain ⟨⟨nm', cs, rfl⟩, hdoc, hlen⟩ := doc_of_read e
      replace hlen : (wr false (.el nm' cs)).length ≤ y.cps.size := by
        have e0 : y.cps.toList.length = y.cps.size := Array.length_toList
        rw [← e0]
        exact hlen
      obtain ⟨a', l', ys, rfl, -, -, -⟩ := el_parts hv
      have T7 := T6.ex e7
      have D7 := D6.keep e7
      have hok : okAt 1 (.el nm' cs) = true := by
        rw [docB, Bool.and_eq_true] at hdoc
        exact hdoc.1
      have hnw := nod_wr _ 1 hok
      have hcost := cost_nod (.el nm' cs)
      have hfit := fit_okAt 60 1 hok rfl
      obtain ⟨i2, n2, hrd⟩ := read_of_doc hdoc
      refine st_yes (ans_v (b := true) (val_op (val_var rfl) val_c fun Q q => ⟨rfl, q⟩)) ?_
      refine q_when (b := false) (et_test (ev_op (isdoc_of (ee_val (ev_var rfl) hv) T7 (small_at 1 hok) (by omega)) ev_c fun H1 e Q q => ⟨_, _, rfl, rfl, by rw [hdoc]; exact q _ (Ex.refl _)⟩)) (fun z => by cases z) fun _ H8 e8 => ?_
      have hsz : ∀ b, (sL (wr b (.el nm' cs))).cps.size = (wr b (.el nm' cs)).length := fun b => by rw [← Array.length_toList, sL_list]
      have hv8 := dp_ex e8 hv
      refine st_seq (go_asg ⟨_, rfl, _, .el nm' cs, 60, rfl, hv8, hfit, by omega, by omega, fun H9 e9 => ?_⟩)
      dsimp only [gName]
      have hv9 := dp_ex e9 hv8
      refine st_seq (go_asg ⟨_, rfl, sL (wr false (.el nm' cs)), rfl, by rw [hsz]; omega, fun j x e' => ?_, fun nm2 t2 ds2 l2 i3 n3 e' v2 Ha ea hv2 => ?_⟩)
      · rw [sL_list, hrd] at e'
        cases e'
      rw [sL_list, hrd] at e'
      cases e'
      dsimp only [gName]
      have hva := dp_ex ea hv9
      obtain ⟨a2, l2', ys2, rfl, -, -, -⟩ := el_parts hv2
      have wrE : ∀ {σ : L2.St} {G : Hp} {j : Nat} {u : V}, Ex Ha G → σ[j]? = some (some u) → Dp K Ha u (Tr.el nm' cs).d → Ev (tCall (spWrite K) [] E0 (tCons (tVar j) tNil)) σ G (.str (sL (wr false (.el nm' cs)))) := fun {σ G j u} eG h hd =>
        ev_call (ea_cons (ev_var h) ea_nil) fun H' e' Q q E => ⟨u, .el nm' cs, 60, rfl, dp_ex (eG.trans e') hd, hfit, by omega, by omega, fun H'' e'' => q H'' e''⟩
      refine q_when (b := false) (et_or (a := false) (et_test (ev_is (ev_op (ev_var rfl) ev_c rv_isN) (by simp))) fun _ => et_or (a := false) (et_not (a := true) (et_B (ev_call (ea_cons (ev_var rfl) (ea_cons (ev_var rfl) ea_nil)) fun H' e' Q q E => ⟨_, _, .el nm' cs, rfl, dp_ex e' hv2, dp_ex e' hva, by omega, ⟨1, hok⟩, fun H'' e'' => q H'' e''⟩))) fun _ =>
        et_test (ev_is (ev_op (wrE (Ex.refl _) rfl hv2) (ev_var rfl) (rv_ne rfl)) (by simp))) (fun z => by cases z) fun _ Hb eb => ?_
      refine s_when (b := false) (et_or (a := false) (et_test (ev_is (ev_op (ev_call (ea_cons (ev_var rfl) (ea_cons ev_c ea_nil)) fun H' e' Q q E => ⟨_, false, .el nm' cs, 60, rfl, by decide, hfit, by omega, by omega, dp_ex (eb.trans e') hva, fun H'' e'' => q H'' e''⟩) (ev_var rfl) (rv_ne rfl)) (by simp))) fun _ =>
        et_test (ev_val fun _ _ => val_is (val_I (g := fun i j => .bl (decide (j < i))) (len_str (val_var rfl) (by rw [hsz]; omega)) (len_str (val_var rfl) (by omega))) (by rw [hsz, decide_eq_false (by omega)]))) (fun z => by cases z) fun _ Hc ec => ?_
      have eZ := (((e8.trans e9).trans ea).trans eb).trans ec
      exact ⟨y, _, _, _, _, rfl, D7.keep eZ, T7.ex eZ, hy2⟩
  · rintro σ G ⟨z, v3, v4, v5, v6, rfl, DG, TG, hz⟩
    dsimp only
    exact go_ret (k G TG)
end

/-! ### the head and the end -/
abbrev R : PySem.W.OpenRow := PySem.W.OpenLaw.row PySem.Challenge.rw_topiary_k21_whole_any_text_is_refused_or
abbrev hk : PySem.W.Hook := He.hookX 5 fa fn ts tf (moreB fx)
def obs (s : PySem.W.SharedT) : He.AlX := He.obsX 5 fa fn ts tf (moreB fx) (HandSHeadRun.getT s)
theorem obs_eq (s : PySem.W.SharedT) : obs s = hk.obs s.abs := He.obsX_eq (HandSHeadRun.getT_eq s)
def names : List Str := ["TopiaryError", "TextError", "TooLarge", "is_sign", "has_only_signs", "is_letter", "is_name", "is_text", "_children", "_has_texts_beside", "_is_well_made", "is_document", "same_tree", "_refuse", "Reading", "read_document", "_written", "write_document", "_law_draws", "_law_take", "_law_string", "_law_tree", "_law_escaped", "_law_written", "_law_read", "_law_changed", "NAME_LETTERS", "TEXT_CHARACTERS", "MOST_NODES", "MOST_DEPTH", "MOST_CHARACTERS", "WRITTEN_SIGNS"]
theorem run (w : World) : HandSHeadRun.RunEq R (PySem.W.view R.prog [38]) hk obs 3000 names w := by
  intro os
  kernel_rfl
theorem facts {w : World} {K : PySem.W.Frag} {h g : Heap} {mg : Str → Option Value} {f : Addr} (X : K.In h) (G : h.Ns mainGlobals mg) (hfa : mg ("law" : Str) = some (.ref f)) (c : He.SaysX fa fn ts tf (moreB fx) w g K) :
    ∃ fd : FuncData, (∀ (s : Shared) (v : Value), BindsTo s fd ⟨[v], []⟩ [("script", v)]) ∧ ∀ base : Heap, K.In base → base.Ns mainGlobals mg → (∀ p ∈ tf, LamX.TabB base mg (He.cT K p).1 (He.cT K p).2) → FnOk (PySem.Challenge.rw_topiary_k21_whole_any_text_is_refused_or).prog w K mg base (L2.CX0) 70 f fd ["script"] (spTab (genT K) (spLaw K)) := by
  have T : TX K mg := txt_ofY X G c
  obtain ⟨fd, F⟩ := T.d 35 _ rfl
  have e := hfa.symm.trans T.g_law
  cases e
  exact ⟨fd, fun s v => FunD.bindsA (ps := ["script"]) F (fun _ _ _ _ _ _ us hl => match us, hl with | [_], _ => rfl) s [v] rfl, fun base _ _ B => fn_tabs (genT K) (ok_law T B fd F)⟩
end Tp
open PySem PySem.W PySem.Calls PyProof.Rows
set_option maxRecDepth 100000 in
set_option maxHeartbeats 0 in
theorem PySem.Challenge.cw_topiary_k21_whole_any_text_is_refused_or_holds : PySem.Challenge.rw_topiary_k21_whole_any_text_is_refused_or.Holds := by
  w_on; o_law
  refine HandSHeadRun.head_any (r := OpenLaw.row PySem.Challenge.rw_topiary_k21_whole_any_text_is_refused_or) (q := view (OpenLaw.row PySem.Challenge.rw_topiary_k21_whole_any_text_is_refused_or).prog [38]) (H := Tp.hk) (ob := Tp.obs) (M := 3000) (loose := Tp.names) (d := HandSHeadRun.topDef (OpenLaw.row PySem.Challenge.rw_topiary_k21_whole_any_text_is_refused_or).prog 38) (kwd := []) Tp.obs_eq
    (by kernel_rfl) (fun s => by kernel_rfl) Tp.run (by kernel_rfl) (by kernel_rfl) (by kernel_rfl) (by rfl) (by first | assumption | decide +kernel) (by decide +kernel) ⟨rfl, rfl, rfl, rfl, rfl, by decide +kernel⟩ ?hw ?hc
  case hw => w_witness2
  case hc =>
    refine Tp.endsY (tf := Tp.tf) (l := PySem.Challenge.rw_topiary_k21_whole_any_text_is_refused_or) (n := 63) (k := 70) (x := "script") (CX := fun _ => L2.CX0) rfl (by decide) (by kernel_rfl) ⟨rfl, by decide, by decide⟩ ?F (fun _ _ _ _ _ z => z)
    intro w mg fa h Y G hmg0
    obtain ⟨K, KX, c⟩ := Y
    have hmg : mg ("law" : PySem.Str) = some (.ref fa) := by
      have e : (HandSHeadRun.topDef (OpenLaw.row PySem.Challenge.rw_topiary_k21_whole_any_text_is_refused_or).prog 38).name = ("law" : PySem.Str) := by kernel_rfl
      rw [← e]
      exact hmg0
    obtain ⟨fd, hb, hF⟩ := Tp.facts (w := w) KX G hmg c
    exact ⟨K, fd, Tp.spTab (Tp.genT K) (Tp.spLaw K), KX, c.hd, c.out, c.empty, hb, fun H a ns hl hz hO hS => Tp.law_start hl hz hO hS, hF⟩
