import PyProof.Rows.All
import Wide.All
import OpenK.AllK
import Wide.FinOn
import KE.KStateDown
import Lean
import HandS.ForMost
import HandS.ForExc
import HandS.Defaults
import HandS.More
import HandS.IsInst
import HandS.Codes
import HandS.CallLocal
import HandS.Star
import HandS.Sort
import HandS.SortOrd
import HandS.SortInts
import HandS.Zip
import HandS.Conv
import HandS.ClsMeth
import HandS.DictComp
import HandS.Walk
import HandS.Flow
import HandS.Style
import HandS.WrittenGet
import HandS.Head0
import HandS.Head1
import HandS.Head2
import HandS.HeadEnd
import HandS.HeadHook1
import HandS.HeadHook2
import HandS.HeadHook3
import HandS.HeadHook4
import HandS.Lambda
import HandS.EndTab
import HandS.SortKw
import HandS.ListItems
import KE.KDictZip
import KE.OsPair
import KE.SortKeyHeap
import KE.GoesMore
import HandS.Keys
import HandS.Text
import HandS.RaiseMore
import HandS.ExcOwn
import HandS.WordsExc
import HandS.ExcIs
import KE.KExcIs
import HandS.ExcInit
import HandS.RaiseFrom
import HandS.SuiteRaise
import HandS.ExcInitHot
import HandS.Finally
import HandS.FStr
import HandS.ExcField
import KE.KDictCopyH
import KE.KDictSum
import PyProof.DictUpdate
import PySem.Challenge.RW_whokeeps_k27_texts_that_tell_no_program
set_option Elab.async false
set_option linter.all false
set_option maxRecDepth 100000
set_option maxHeartbeats 4000000
/-! What is asked of the top, beside the library's facts; defs by their promises. -/
namespace WB
open PySem PySem.Spec PyProof.Rows L2 He
/-- one more fact of the top -/
inductive Fx where
  /-- attributes of the class c are read in the usual way; c.m is the def m -/
  | cfun (c m : Str)
  /-- is an instance of the class a one of the class b? -/
  | kit (a b : Str) (r : Bool)
  | kitT (a : Str) (t : String) (r : Bool)
  | kitN (t : String) (b : Str) (r : Bool)
  /-- what isinstance asks of a class of one's own -/
  | isi (a : Str)
  /-- the module's name x is a tuple of texts -/
  | tup (x : Str) (vs : List Str)
  /-- the table t has the def f under k -/
  | tdef (t k f : Str)
  /-- the table t has a tuple of texts under k; no entry -/
  | ttup (t k : Str) (vs : List Str)
  | tnone (t k : Str)
  /-- the def f's code object, whose table is P -/
  | lamT (f : Str) (P : Addr)
  /-- an own exception class c without an __init__ of its own -/
  | exc (c : Str)
  /-- an own exception class c with an own __init__, by which it gets the field f -/
  | oex (c f : Str)
  /-- c.m is a built-in one -/
  | cblt (c m b : Str)
  /-- what isinstance, and the reading of fields, ask of the exception class c -/
  | xis (c : Str)
  /-- except d takes c -/
  | exm (c d : Str)
  /-- the keys of the table t are just these texts, or some of them -/
  | keys (t : Str) (ks : List Str)
def keysB (K : PySem.W.Frag) (a : Addr) (ks : List Str) : Bool := match K.lookup a with
  | some ⟨_, _, .dict es _, _⟩ => es.toList.all fun e => !e.refKey && ks.any fun k => e.key.isStr k
  | _ => false
theorem keysB_no {K : PySem.W.Frag} {a : Addr} {ks : List Str} {x : Str} (h : keysB K a ks = true) (hx : x ∉ ks) : PySem.W.nsIn K a x = some none := by
  unfold keysB at h
  unfold PySem.W.nsIn
  split at h
  · rename_i c d es n sl ho
    rw [ho]
    have each : ∀ e ∈ es.toList, e.refKey = false ∧ e.key.isStr x = false := fun e he => by
      have q := List.all_eq_true.mp h e he
      rw [Bool.and_eq_true, Bool.not_eq_true'] at q
      refine ⟨q.1, ?_⟩
      obtain ⟨k, hk, ek⟩ := List.any_eq_true.mp q.2
      cases z : e.key.isStr x with
      | false => rfl
      | true =>
        exfalso
        revert ek z
        cases e.key with
        | str s t =>
          intro ek z
          have e1 : s = k := by simpa [Value.isStr] using ek
          have e2 : s = x := by simpa [Value.isStr] using z
          exact hx (by rw [← e2, e1]; exact hk)
        | _ => intro ek; exact absurd ek (by simp [Value.isStr])
    have f0 : es.toList.find? (fun e => e.key.isStr x) = none := List.find?_eq_none.mpr fun e he z => by rw [(each e he).2] at z; cases z
    have a0 : es.toList.any (fun e => e.refKey) = false := by
      rw [List.any_eq_false]
      intro e he z
      rw [(each e he).1] at z
      cases z
    dsimp only
    rw [f0]
    dsimp only
    rw [if_neg (by rw [a0]; decide)]
  · cases h
def strsB (K : PySem.W.Frag) (a : Addr) (vs : List Str) : Bool := match K.lookup a with
  | some ⟨.type c, _, .seq its _, _⟩ => decide (c = "tuple") && (decide (its.size ≤ sizeLine) && relAll (vs.map V.str) its.toList)
  | _ => false
theorem strsB_ok {K : PySem.W.Frag} {a : Addr} {vs : List Str} (h : strsB K a vs = true) (H : Hp) : SqT K H a (vs.map V.str) := by
  unfold strsB at h
  cases q : K.lookup a with
  | none =>
    rw [q] at h
    cases h
  | some o =>
    obtain ⟨oc, od, dt, osl⟩ := o
    rw [q] at h
    cases oc with
    | type c =>
      cases dt with
      | seq its n =>
        obtain ⟨h1, h2⟩ := ba (show (decide (c = "tuple") && (decide (its.size ≤ sizeLine) && relAll (vs.map V.str) its.toList)) = true from h)
        obtain ⟨h3, h4⟩ := ba h2
        exact .inr ⟨_, its, n, q, congrArg Value.type (of_decide_eq_true h1), rfl, of_decide_eq_true h3, relAll_ok h4⟩
      | _ => cases h
    | _ => cases dt <;> cases h
/-- the address under a text in a table -/
def ta (K : PySem.W.Frag) (t k : Str) : Addr := match PySem.W.nsIn K (ga K t) k with
  | some (some (.ref a)) => a
  | _ => 0
def valIs (r : Option PySem.W.CFound) (a : Addr) : Bool := match r with
  | some (.val (.ref b)) => decide (b = a)
  | _ => false
theorem valIs_ok {r : Option PySem.W.CFound} {a : Addr} (h : valIs r a = true) : r = some (.val (.ref a)) := by
  unfold valIs at h
  split at h
  · rw [of_decide_eq_true h]
  · cases h
def oexB (K : PySem.W.Frag) (C : Addr) : Bool := match K.lookup C with
  | some ⟨.type t, _, .cls cd, sl⟩ => decide (t = "type") && (match cd.mro, sl.toList with
    | .ref D :: bm, [_, _, _, _, some (.builtin n), _] => decide (D = C) && (decide (n = "ValueError.__new__") && (PySem.HandSPX.refsVE bm && (cd.hasDict && !cd.hasDel)))
    | _, _ => false)
  | _ => false
theorem oexB_ok {K : PySem.W.Frag} {C : Addr} (h : oexB K C = true) : ∃ nm q N bs bm sn sub ab col dd k0 k1 k2 k3 k5, K.lookup C = some (excClassObj nm q C N bs bm true sn sub ab col dd k0 k1 k2 k3 k5 "ValueError.__new__") ∧ PySem.HandSPX.refsVE bm = true := by
  unfold oexB at h
  split at h
  · rename_i t dd cd sl e
    obtain ⟨h1, h2⟩ := ba h
    split at h2
    · rename_i D bm k0 k1 k2 k3 n k5 em es
      obtain ⟨h3, h4⟩ := ba h2
      obtain ⟨h5, h6⟩ := ba h4
      obtain ⟨h7, h8⟩ := ba h6
      obtain ⟨h9, h10⟩ := ba h8
      obtain ⟨nm, bs, mro, N, q, hd, sn, sub, ab, col, del⟩ := cd
      dsimp only at em h9 h10
      have e1 := of_decide_eq_true h1
      have e2 := of_decide_eq_true h3
      have e3 := of_decide_eq_true h5
      have e4 : del = false := by cases del <;> first | rfl | cases h10
      subst e1 e2 e3 em h9 e4
      refine ⟨nm, q, N, bs, bm, sn, sub, ab, col, dd, k0, k1, k2, k3, k5, ?_, h7⟩
      rw [e]
      have e5 : sl = #[k0, k1, k2, k3, some (.builtin "ValueError.__new__"), k5] := Array.toList_inj.mp es
      rw [e5]
    · cases h2
  · cases h
def bltB (K : PySem.W.Frag) (P : Addr) : Bool := match K.lookup (ga K "__builtins__") with
  | some ⟨.type c, some d, .plain, _⟩ => decide (c = "module") && (decide (d = builtinsNs) && (decide (ga K "__builtins__" ≠ builtinsNs) && (decide (ga K "__builtins__" ≠ mainGlobals) && decide (ga K "__builtins__" ≠ P))))
  | _ => false
theorem bltB_ok {K : PySem.W.Frag} {P : Addr} {h : Heap} {mg : Str → Option Value} (KX : K.In h) (hm : mg "__builtins__" = some (.ref (ga K "__builtins__"))) (e : bltB K P = true) : h.BuiltinsAt mg P := by
  unfold bltB at e
  cases q : K.lookup (ga K "__builtins__") with
  | none =>
    rw [q] at e
    cases e
  | some o =>
    obtain ⟨oc, od, dt, osl⟩ := o
    rw [q] at e
    cases oc with
    | type c =>
      cases od with
      | some d =>
        cases dt with
        | plain =>
          obtain ⟨h1, h2⟩ := ba e
          obtain ⟨h3, h4⟩ := ba h2
          obtain ⟨h5, h6⟩ := ba h4
          obtain ⟨h7, h8⟩ := ba h6
          exact ⟨_, _, hm, of_decide_eq_true h5, of_decide_eq_true h7, of_decide_eq_true h8, KX _ _ q, congrArg Value.type (of_decide_eq_true h1), congrArg some (of_decide_eq_true h3), rfl⟩
        | _ => cases e
      | none => cases dt <;> cases e
    | _ => cases od <;> cases dt <;> cases e
def Fx.ok (K : PySem.W.Frag) : Fx → Bool
  | .cfun c m => PySem.W.readsIn K (ga K c) (.type "type") && (eqO (PySem.W.specialIn K (.ref (ga K c)) "__getattribute__") (some (some (.builtin "type.__getattribute__"))) &&
      valIs (PySem.W.findCls K (.ref (ga K c)) (.type "type") m) (ma K (ga K c) m))
  | .kit a b r => decide (PySem.W.kitOne K (.ref (ga K a)) (.ref (ga K b)) = some r)
  | .kitT a t r => decide (PySem.W.kitOne K (.ref (ga K a)) (.type t) = some r)
  | .kitN t b r => decide (PySem.W.kitOne K (.type t) (.ref (ga K b)) = some r)
  | .isi a => eqO (PySem.W.findIn K (.ref (ga K a)) "__class__") (some (some (.builtin "object.__class__"))) && (eqO (PySem.W.specialIn K (.builtin "object.__class__") "__get__") (some (some (.builtin "getset_descriptor.__get__"))) &&
      (decide (PySem.W.takesIn K (.builtin "object.__class__") = some true) && decide (PySem.W.mroIn K (ga K a) (.type "object") = some true)))
  | .tup x vs => strsB K (ga K x) vs
  | .tdef t k f => eqO (PySem.W.nsIn K (ga K t) k) (some (some (.ref (ga K f))))
  | .ttup t k vs => eqO (PySem.W.nsIn K (ga K t) k) (some (some (.ref (ta K t k)))) && strsB K (ta K t k) vs
  | .tnone t k => eqO (PySem.W.nsIn K (ga K t) k) (some none)
  | .lamT f P => PySem.W.codeHdIn K (codeOf K (f, none)) P && (decide (mainGlobals ≠ P) && bltB K P)
  | .exc c => PySem.W.excIn K (ga K c) [.type "ValueError", .type "Exception", .type "BaseException", .type "object"] "ValueError.__new__" && (PySem.W.keepIn K (.ref (ga K c)) && (decide (PySem.W.subIn K (.ref (ga K c)) (.type "BaseException") = some true) && decide (PySem.W.typeIn K (.ref (ga K c)) = some (.type "type"))))
  | .oex c f => oexB K (ga K c) && (eqO (PySem.W.findIn K (.ref (ga K c)) "__setattr__") (some (some (.builtin "object.__setattr__"))) && (decide (PySem.W.subIn K (.ref (ga K c)) (.type "BaseException") = some true) && (decide (PySem.W.typeIn K (.ref (ga K c)) = some (.type "type")) && (PySem.W.keepIn K (.ref (ga K c)) &&
      (eqO (PySem.W.findIn K (.ref (ga K c)) "__init__") (some (some (.ref (ma K (ga K c) "__init__")))) && (decide (PySem.W.typeIn K (.ref (ma K (ga K c) "__init__")) = some (.type "function")) && eqO (PySem.W.findIn K (.ref (ga K c)) f) (some none)))))))
  | .cblt c m b => PySem.W.readsIn K (ga K c) (.type "type") && (eqO (PySem.W.specialIn K (.ref (ga K c)) "__getattribute__") (some (some (.builtin "type.__getattribute__"))) && (match PySem.W.findCls K (.ref (ga K c)) (.type "type") m with
      | some (.val (.builtin n)) => decide ((n : Str) = b)
      | _ => false))
  | .xis c => eqO (PySem.W.findIn K (.ref (ga K c)) "__getattribute__") (some (some (.builtin "BaseException.__getattribute__"))) && (eqO (PySem.W.findIn K (.ref (ga K c)) "__getattr__") (some none) && (decide (PySem.W.subIn K (.ref (ga K c)) (.type "BaseException") = some true) && (PySem.W.hasDictIn K (ga K c) &&
      (eqO (PySem.W.findIn K (.ref (ga K c)) "__class__") (some (some (.builtin "object.__class__"))) && (eqO (PySem.W.specialIn K (.builtin "object.__class__") "__get__") (some (some (.builtin "getset_descriptor.__get__"))) && (decide (PySem.W.takesIn K (.builtin "object.__class__") = some true) &&
      (decide (PySem.W.mroIn K (ga K c) (.type "object") = some true) && (PySem.W.clsIn K (ga K c)).isSome)))))))
  | .exm c d => decide (PySem.W.exmOne K (.ref (ga K c)) (.ref (ga K d)) = some true)
  | .keys t ks => keysB K (ga K t) ks
/-- what the making of a lambda asks of the base -/
theorem lamT_ok {K : PySem.W.Frag} {f : Str} {P : Addr} {h : Heap} {mg : Str → Option Value} (KX : K.In h) (hm : mg "__builtins__" = some (.ref (ga K "__builtins__"))) (e : (Fx.lamT f P).ok K = true) : LamX.TabB h mg (codeOf K (f, none)) P := by
  obtain ⟨h1, h2⟩ := ba (show (PySem.W.codeHdIn K (codeOf K (f, none)) P && (decide (mainGlobals ≠ P) && bltB K P)) = true from e)
  obtain ⟨h3, h4⟩ := ba h2
  exact ⟨PySem.W.codeHd_of_K KX h1, bltB_ok KX hm h4, of_decide_eq_true h3⟩
abbrev AlW : Type := AlT × Bool
/-- the table at P is empty, and not in K -/
def tabE (g : Addr → Option Obj) (K : PySem.W.Frag) (P : Addr) : Bool := (K.lookup P).isNone && (match g P with
  | some o => emptyTab o
  | none => false)
def obsW (fa : List Fa) (fn : List DefD) (ts : List Tab) (fx : List Fx) (tl : List Addr) (g : Addr → Option Obj) (as : List Addr) : AlW := (obsT fa fn ts (frG g as), (fx.all fun f => f.ok (frG g as)) && tl.all fun P => tabE g (frG g as) P)
def valW (fn : List DefD) (ts : List Tab) (w : World) : AlW := (valT fn ts w, true)
structure SaysW (fa : List Fa) (fn : List DefD) (ts : List Tab) (fx : List Fx) (w : World) (K : PySem.W.Frag) : Prop where
  t : SaysT fa fn ts w K
  x : (fx.all fun f => f.ok K) = true
/-- the tables are empty at the top's end -/
def TabsE (tl : List Addr) (K : PySem.W.Frag) (h : Heap) : Prop := ∀ P ∈ tl, K.lookup P = none ∧ h.get? P = some { cls := .none, data := .fields #[] }
theorem tabE_ok {K : PySem.W.Frag} {h : Heap} {tl : List Addr} (e : (tl.all fun P => tabE h.get? K P) = true) : TabsE tl K h := fun P hP => by
  obtain ⟨h1, h2⟩ := ba (show ((K.lookup P).isNone && (match h.get? P with | some o => emptyTab o | none => false)) = true from List.all_eq_true.mp e P hP)
  refine ⟨Option.isNone_iff_eq_none.mp h1, ?_⟩
  cases q : h.get? P with
  | none =>
    rw [q] at h2
    cases h2
  | some o =>
    rw [q] at h2
    rw [emptyTab_eq h2]
def hookW (as : List Addr) (fa : List Fa) (fn : List DefD) (ts : List Tab) (fx : List Fx) (tl : List Addr) : PySem.W.Hook where
  α := AlW
  obs := fun s => obsW fa fn ts fx tl s.heap.get? as
  val := fun w => valW fn ts w
  says := fun w h => ∃ K : PySem.W.Frag, K.In h ∧ SaysW fa fn ts fx w K ∧ TabsE tl K h
  of := fun w s e => by
    obtain ⟨h1, h2⟩ := ba (show ((fx.all fun f => f.ok (frG s.heap.get? as)) && tl.all fun P => tabE s.heap.get? (frG s.heap.get? as) P) = true from congrArg (fun z : AlW => z.2) e)
    exact ⟨_, frG_in, ⟨congrArg (fun z : AlW => z.1) e, h1⟩, tabE_ok h2⟩
  keeps := fun _ _ _ ⟨K, hK, c, d⟩ k => ⟨K, PySem.W.Frag.In.keeps hK k, c, fun P hP => ⟨(d P hP).1, k _ _ (d P hP).2⟩⟩
theorem obW_eq {as : List Addr} {fa : List Fa} {fn : List DefD} {ts : List Tab} {fx : List Fx} {tl : List Addr} (s : PySem.W.SharedT) : obsW fa fn ts fx tl (HandSHeadRun.getT s) as = (hookW as fa fn ts fx tl).obs s.abs := by
  have e : HandSHeadRun.getT s = s.abs.heap.get? := funext (HandSHeadRun.getT_eq s)
  show obsW fa fn ts fx tl (HandSHeadRun.getT s) as = obsW fa fn ts fx tl s.abs.heap.get? as
  rw [e]
section
variable {fa : List Fa} {fn : List DefD} {ts : List Tab} {fx : List Fx} {w : World} {K : PySem.W.Frag}
theorem SaysW.fxs (c : SaysW fa fn ts fx w K) (i : Nat) {f : Fx} (h : fx[i]? = some f := by rfl) : f.ok K = true :=
  List.all_eq_true.mp c.x f (List.mem_of_getElem? h)
end
/-- what the walk of the defs asks of the top: the facts of K, and that the module's names are K's -/
structure Says (fa : List Fa) (fn : List DefD) (ts : List Tab) (fx : List Fx) (w : World) (K : PySem.W.Frag) (mg : Str → Option Value) : Prop where
  c : SaysW fa fn ts fx w K
  h : ∃ h : Heap, K.In h ∧ h.Ns mainGlobals mg
section
variable {fa : List Fa} {fn : List DefD} {ts : List Tab} {fx : List Fx} {w : World} {K : PySem.W.Frag} {mg : Str → Option Value}
theorem Says.def_ (T : Says fa fn ts fx w K mg) (i : Nat) {d : DefD} (h : fn[i]? = some d := by rfl) : ∃ fd, FunD K d.name d.qual d.params d.body d.scope (d.dvs K) (d.kws K) (fAd K d.at_) fd := T.c.t.d.def_ i h
theorem Says.glo (T : Says fa fn ts fx w K mg) (i : Nat) {x : Str} (h : fa[i]? = some (.glo x) := by rfl) : mg x = some (.ref (ga K x)) := let ⟨_, X, G⟩ := T.h; glo_ok X G (T.c.t.d.fact i h)
theorem Says.free (T : Says fa fn ts fx w K mg) (i : Nat) {x : Str} (h : fa[i]? = some (.free x) := by rfl) : mg x = none := let ⟨_, X, G⟩ := T.h; free_ok X G (T.c.t.d.fact i h)
theorem Says.int (T : Says fa fn ts fx w K mg) (i : Nat) {x : Str} {n : Int} (h : fa[i]? = some (.int x n) := by rfl) : ∃ t, mg x = some (.int n t) := let ⟨_, X, G⟩ := T.h; int_ok X G (T.c.t.d.fact i h)
theorem Says.str (T : Says fa fn ts fx w K mg) (i : Nat) {x z : Str} (h : fa[i]? = some (.str x z) := by rfl) : ∃ t, mg x = some (.str z t) := let ⟨_, X, G⟩ := T.h; str_ok X G (T.c.t.d.fact i h)
theorem Says.cls (T : Says fa fn ts fx w K mg) (i : Nat) {x : Str} (h : fa[i]? = some (.cls x) := by rfl) : Cls K (ga K x) := cls_ok (T.c.t.d.fact i h)
theorem Says.noat (T : Says fa fn ts fx w K mg) (i : Nat) {x f : Str} (h : fa[i]? = some (.noat x f) := by rfl) : NoAttr K (ga K x) f := noat_ok (T.c.t.d.fact i h)
theorem Says.meth (T : Says fa fn ts fx w K mg) (i : Nat) {x m : Str} (h : fa[i]? = some (.meth x m) := by rfl) : Meth K (ga K x) m (ma K (ga K x) m) := meth_ok (T.c.t.d.fact i h)
theorem Says.mkr (T : Says fa fn ts fx w K mg) (i : Nat) {x : Str} (h : fa[i]? = some (.mkr x) := by rfl) : Mk K (ga K x) (ma K (ga K x) "__init__") := mkr_ok (T.c.t.d.fact i h)
theorem Says.fxs (T : Says fa fn ts fx w K mg) (i : Nat) {f : Fx} (h : fx[i]? = some f := by rfl) : f.ok K = true := T.c.fxs i h
end
end WB
/-! The text by places: a generated part. -/
namespace WK
open PySem PySem.Spec PyProof.Rows L2 He WB
def top (i : Nat) : Stmt := PySem.Challenge.pw_whokeeps_k27_texts_that_tell_no_program.main.body.getD i (.Pass ⟨0, 0, 0, 0⟩)
abbrev s_BadProgram_init : Stmt := inClass (top 2) 0
abbrev s_BadText_init : Stmt := inClass (top 8) 0
abbrev s_is_within : Stmt := top 17
abbrev s_is_word_of : Stmt := top 18
abbrev s_is_deed : Stmt := top 19
abbrev s_check_program : Stmt := top 20
abbrev s_number_of : Stmt := top 23
abbrev s_part_of : Stmt := top 24
abbrev s_deed_of : Stmt := top 25
abbrev s_read : Stmt := top 26
abbrev s__law_mix : Stmt := top 28
abbrev s__law_next : Stmt := top 29
abbrev s__law_alike : Stmt := top 30
abbrev s__law_model : Stmt := top 31
abbrev s__law_parts : Stmt := top 32
abbrev s__law_walk : Stmt := top 33
abbrev s__law_reach : Stmt := top 34
abbrev s__law_thing : Stmt := top 35
abbrev s__law_make : Stmt := top 36
abbrev s__law_has : Stmt := top 37
abbrev s__law_may : Stmt := top 38
abbrev s__law_write : Stmt := top 39
abbrev s__law_tell : Stmt := top 40
abbrev s__law_settle : Stmt := top 41
abbrev s__law_do_part : Stmt := top 42
abbrev s__law_do_more : Stmt := top 43
abbrev s__law_do : Stmt := top 44
abbrev s__law_part : Stmt := top 45
abbrev s__law_held : Stmt := top 46
abbrev s__law_deed : Stmt := top 47
abbrev s__law_program : Stmt := top 48
abbrev s__law_text : Stmt := top 49
abbrev s__law_word : Stmt := top 50
abbrev s__law_row : Stmt := top 51
abbrev s__law_due : Stmt := top 52
abbrev s__law_told : Stmt := top 53
abbrev s__law_changed : Stmt := top 54
abbrev s_law : Stmt := top 55
theorem sc_BadProgram_init : FnScope ["self", "place"] ["self", "place"] (defScope s_BadProgram_init) := ⟨rfl, rfl, rfl, by decide +kernel, rfl, by decide +kernel, by decide +kernel⟩
theorem sc_BadText_init : FnScope ["self", "row"] ["self", "row"] (defScope s_BadText_init) := ⟨rfl, rfl, rfl, by decide +kernel, rfl, by decide +kernel, by decide +kernel⟩
theorem sc_is_within : FnScope ["number", "least", "most"] ["number", "least", "most"] (defScope s_is_within) := ⟨rfl, rfl, rfl, by decide +kernel, rfl, by decide +kernel, by decide +kernel⟩
theorem sc_is_word_of : FnScope ["shape", "word"] ["shape", "word"] (defScope s_is_word_of) := ⟨rfl, rfl, rfl, by decide +kernel, rfl, by decide +kernel, by decide +kernel⟩
theorem sc_is_deed : FnScope ["deed", "word", "parts", "shapes", "shape", "part"] ["deed"] (defScope s_is_deed) := ⟨rfl, rfl, rfl, by decide +kernel, rfl, by decide +kernel, by decide +kernel⟩
theorem sc_check_program : FnScope ["program", "place", "deed"] ["program"] (defScope s_check_program) := ⟨rfl, rfl, rfl, by decide +kernel, rfl, by decide +kernel, by decide +kernel⟩
theorem sc_number_of : FnScope ["word", "number", "figures"] ["word"] (defScope s_number_of) := ⟨rfl, rfl, rfl, by decide +kernel, rfl, by decide +kernel, by decide +kernel⟩
theorem sc_part_of : FnScope ["shape", "word"] ["shape", "word"] (defScope s_part_of) := ⟨rfl, rfl, rfl, by decide +kernel, rfl, by decide +kernel, by decide +kernel⟩
theorem sc_deed_of : FnScope ["row", "word", "parts", "shapes", "shape", "part"] ["row"] (defScope s_deed_of) := ⟨rfl, rfl, rfl, by decide +kernel, rfl, by decide +kernel, by decide +kernel⟩
theorem sc_read : FnScope ["text", "rows", "row", "program", "found"] ["text"] (defScope s_read) := ⟨rfl, rfl, rfl, by decide +kernel, rfl, by decide +kernel, by decide +kernel⟩
theorem sc__law_mix : FnScope ["_law_script", "_law_seed", "_law_mixed", "_law_cell"] ["_law_script", "_law_seed"] (defScope s__law_mix) := ⟨rfl, rfl, rfl, by decide +kernel, rfl, by decide +kernel, by decide +kernel⟩
theorem sc__law_next : FnScope ["_law_h", "_law_many", "_law_at", "_law_cell"] ["_law_h", "_law_many"] (defScope s__law_next) := ⟨rfl, rfl, rfl, by decide +kernel, rfl, by decide +kernel, by decide +kernel⟩
theorem sc__law_alike : FnScope ["_law_found", "_law_due_here", "_law_k"] ["_law_found", "_law_due_here"] (defScope s__law_alike) := ⟨rfl, rfl, rfl, by decide +kernel, rfl, by decide +kernel, by decide +kernel⟩
theorem sc__law_model : FnScope ["_law_name"] [] (defScope s__law_model) := ⟨rfl, rfl, rfl, by decide +kernel, rfl, by decide +kernel, by decide +kernel⟩
theorem sc__law_parts : FnScope ["_law_thing_here", "_law_place"] ["_law_thing_here"] (defScope s__law_parts) := ⟨rfl, rfl, rfl, by decide +kernel, rfl, by decide +kernel, by decide +kernel⟩
theorem sc__law_walk : FnScope ["_law_m", "_law_values", "_law_found", "_law_value", "_law_left", "_law_number", "_law_parts_here", "_law_part_here"] ["_law_m", "_law_values"] (defScope s__law_walk) := ⟨rfl, rfl, rfl, by decide +kernel, rfl, by decide +kernel, by decide +kernel⟩
theorem sc__law_reach : FnScope ["_law_m", "_law_name"] ["_law_m"] (defScope s__law_reach) := ⟨rfl, rfl, rfl, by decide +kernel, rfl, by decide +kernel, by decide +kernel⟩
theorem sc__law_thing : FnScope ["_law_m", "_law_name", "_law_value"] ["_law_m", "_law_name"] (defScope s__law_thing) := ⟨rfl, rfl, rfl, by decide +kernel, rfl, by decide +kernel, by decide +kernel⟩
theorem sc__law_make : FnScope ["_law_m", "_law_kind", "_law_letter", "_law_held_here"] ["_law_m", "_law_kind"] (defScope s__law_make) := ⟨rfl, rfl, rfl, by decide +kernel, rfl, by decide +kernel, by decide +kernel⟩
theorem sc__law_has : FnScope ["_law_thing_here", "_law_part_here"] ["_law_thing_here", "_law_part_here"] (defScope s__law_has) := ⟨rfl, rfl, rfl, by decide +kernel, rfl, by decide +kernel, by decide +kernel⟩
theorem sc__law_may : FnScope ["_law_thing_here", "_law_part_here"] ["_law_thing_here", "_law_part_here"] (defScope s__law_may) := ⟨rfl, rfl, rfl, by decide +kernel, rfl, by decide +kernel, by decide +kernel⟩
theorem sc__law_write : FnScope ["_law_thing_here", "_law_word_here", "_law_part_here", "_law_value"] ["_law_thing_here", "_law_word_here", "_law_part_here", "_law_value"] (defScope s__law_write) := ⟨rfl, rfl, rfl, by decide +kernel, rfl, by decide +kernel, by decide +kernel⟩
theorem sc__law_tell : FnScope ["_law_m", "_law_found", "_law_thing_here"] ["_law_m"] (defScope s__law_tell) := ⟨rfl, rfl, rfl, by decide +kernel, rfl, by decide +kernel, by decide +kernel⟩
theorem sc__law_settle : FnScope ["_law_m", "_law_done", "_law_some", "_law_found", "_law_things", "_law_k"] ["_law_m"] (defScope s__law_settle) := ⟨rfl, rfl, rfl, by decide +kernel, rfl, by decide +kernel, by decide +kernel⟩
theorem sc__law_do_part : FnScope ["_law_m", "_law_deed_here", "_law_thing_here", "_law_part_here", "_law_good", "_law_value"] ["_law_m", "_law_deed_here"] (defScope s__law_do_part) := ⟨rfl, rfl, rfl, by decide +kernel, rfl, by decide +kernel, by decide +kernel⟩
theorem sc__law_do_more : FnScope ["_law_m", "_law_deed_here", "_law_thing_here", "_law_sees"] ["_law_m", "_law_deed_here"] (defScope s__law_do_more) := ⟨rfl, rfl, rfl, by decide +kernel, rfl, by decide +kernel, by decide +kernel⟩
theorem sc__law_do : FnScope ["_law_m", "_law_deed_here", "_law_word_here", "_law_some"] ["_law_m", "_law_deed_here"] (defScope s__law_do) := ⟨rfl, rfl, rfl, by decide +kernel, rfl, by decide +kernel, by decide +kernel⟩
theorem sc__law_part : FnScope ["_law_h", "_law_thing_here"] ["_law_h", "_law_thing_here"] (defScope s__law_part) := ⟨rfl, rfl, rfl, by decide +kernel, rfl, by decide +kernel, by decide +kernel⟩
theorem sc__law_held : FnScope ["_law_m", "_law_kinds", "_law_found", "_law_name", "_law_thing_here"] ["_law_m", "_law_kinds"] (defScope s__law_held) := ⟨rfl, rfl, rfl, by decide +kernel, rfl, by decide +kernel, by decide +kernel⟩
theorem sc__law_deed : FnScope ["_law_h", "_law_m", "_law_every", "_law_name", "_law_some", "_law_other", "_law_turn", "_law_thing_here", "_law_part_here", "_law_value", "_law_watches", "_law_any_one", "_law_rows", "_law_goal"] ["_law_h", "_law_m"] (defScope s__law_deed) := ⟨rfl, rfl, rfl, by decide +kernel, rfl, by decide +kernel, by decide +kernel⟩
theorem sc__law_program : FnScope ["_law_h", "_law_most", "_law_m", "_law_found", "_law_k"] ["_law_h", "_law_most"] (defScope s__law_program) := ⟨rfl, rfl, rfl, by decide +kernel, rfl, by decide +kernel, by decide +kernel⟩
theorem sc__law_text : FnScope ["_law_program_here", "_law_rows", "_law_deed_here", "_law_part_here"] ["_law_program_here"] (defScope s__law_text) := ⟨rfl, rfl, rfl, by decide +kernel, rfl, by decide +kernel, by decide +kernel⟩
theorem sc__law_word : FnScope ["_law_word_here", "_law_shape", "_law_few", "_law_most", "_law_number"] ["_law_word_here", "_law_shape"] (defScope s__law_word) := ⟨rfl, rfl, rfl, by decide +kernel, rfl, by decide +kernel, by decide +kernel⟩
theorem sc__law_row : FnScope ["_law_row_here", "_law_shapes", "_law_words", "_law_found", "_law_word_here", "_law_shape"] ["_law_row_here"] (defScope s__law_row) := ⟨rfl, rfl, rfl, by decide +kernel, rfl, by decide +kernel, by decide +kernel⟩
theorem sc__law_due : FnScope ["_law_text_here", "_law_rows", "_law_row_here", "_law_found", "_law_k", "_law_bad"] ["_law_text_here"] (defScope s__law_due) := ⟨rfl, rfl, rfl, by decide +kernel, rfl, by decide +kernel, by decide +kernel⟩
theorem sc__law_told : FnScope ["_law_text_here", "e", "_law_other"] ["_law_text_here"] (defScope s__law_told) := ⟨rfl, rfl, rfl, by decide +kernel, rfl, by decide +kernel, by decide +kernel⟩
theorem sc__law_changed : FnScope ["_law_h", "_law_text_here", "_law_turn", "_law_at", "_law_sign", "_law_rows", "_law_k", "_law_some", "_law_words", "_law_j", "_law_odd"] ["_law_h", "_law_text_here"] (defScope s__law_changed) := ⟨rfl, rfl, rfl, by decide +kernel, rfl, by decide +kernel, by decide +kernel⟩
theorem sc_law : FnScope ["_law_script", "_law_h", "_law_odd", "_law_turn", "_law_text_here", "_law_k", "_law_some", "_law_again"] ["_law_script"] (defScope s_law) := ⟨rfl, rfl, rfl, by decide +kernel, rfl, by decide +kernel, by decide +kernel⟩
def d_is_within : DefD := ⟨("is_within", none), "is_within", "is_within", defArgs s_is_within, defBody s_is_within, defScope s_is_within, [], []⟩
def d_is_word_of : DefD := ⟨("is_word_of", none), "is_word_of", "is_word_of", defArgs s_is_word_of, defBody s_is_word_of, defScope s_is_word_of, [], []⟩
def d_is_deed : DefD := ⟨("is_deed", none), "is_deed", "is_deed", defArgs s_is_deed, defBody s_is_deed, defScope s_is_deed, [], []⟩
def d_check_program : DefD := ⟨("check_program", none), "check_program", "check_program", defArgs s_check_program, defBody s_check_program, defScope s_check_program, [], []⟩
def d_number_of : DefD := ⟨("number_of", none), "number_of", "number_of", defArgs s_number_of, defBody s_number_of, defScope s_number_of, [], []⟩
def d_part_of : DefD := ⟨("part_of", none), "part_of", "part_of", defArgs s_part_of, defBody s_part_of, defScope s_part_of, [], []⟩
def d_deed_of : DefD := ⟨("deed_of", none), "deed_of", "deed_of", defArgs s_deed_of, defBody s_deed_of, defScope s_deed_of, [], []⟩
def d_read : DefD := ⟨("read", none), "read", "read", defArgs s_read, defBody s_read, defScope s_read, [], []⟩
def d__law_mix : DefD := ⟨("_law_mix", none), "_law_mix", "_law_mix", defArgs s__law_mix, defBody s__law_mix, defScope s__law_mix, [], []⟩
def d__law_next : DefD := ⟨("_law_next", none), "_law_next", "_law_next", defArgs s__law_next, defBody s__law_next, defScope s__law_next, [], []⟩
def d__law_alike : DefD := ⟨("_law_alike", none), "_law_alike", "_law_alike", defArgs s__law_alike, defBody s__law_alike, defScope s__law_alike, [], []⟩
def d__law_model : DefD := ⟨("_law_model", none), "_law_model", "_law_model", defArgs s__law_model, defBody s__law_model, defScope s__law_model, [], []⟩
def d__law_parts : DefD := ⟨("_law_parts", none), "_law_parts", "_law_parts", defArgs s__law_parts, defBody s__law_parts, defScope s__law_parts, [], []⟩
def d__law_walk : DefD := ⟨("_law_walk", none), "_law_walk", "_law_walk", defArgs s__law_walk, defBody s__law_walk, defScope s__law_walk, [], []⟩
def d__law_reach : DefD := ⟨("_law_reach", none), "_law_reach", "_law_reach", defArgs s__law_reach, defBody s__law_reach, defScope s__law_reach, [], []⟩
def d__law_thing : DefD := ⟨("_law_thing", none), "_law_thing", "_law_thing", defArgs s__law_thing, defBody s__law_thing, defScope s__law_thing, [], []⟩
def d__law_make : DefD := ⟨("_law_make", none), "_law_make", "_law_make", defArgs s__law_make, defBody s__law_make, defScope s__law_make, [], []⟩
def d__law_has : DefD := ⟨("_law_has", none), "_law_has", "_law_has", defArgs s__law_has, defBody s__law_has, defScope s__law_has, [], []⟩
def d__law_may : DefD := ⟨("_law_may", none), "_law_may", "_law_may", defArgs s__law_may, defBody s__law_may, defScope s__law_may, [], []⟩
def d__law_write : DefD := ⟨("_law_write", none), "_law_write", "_law_write", defArgs s__law_write, defBody s__law_write, defScope s__law_write, [], []⟩
def d__law_tell : DefD := ⟨("_law_tell", none), "_law_tell", "_law_tell", defArgs s__law_tell, defBody s__law_tell, defScope s__law_tell, [], []⟩
def d__law_settle : DefD := ⟨("_law_settle", none), "_law_settle", "_law_settle", defArgs s__law_settle, defBody s__law_settle, defScope s__law_settle, [], []⟩
def d__law_do_part : DefD := ⟨("_law_do_part", none), "_law_do_part", "_law_do_part", defArgs s__law_do_part, defBody s__law_do_part, defScope s__law_do_part, [], []⟩
def d__law_do_more : DefD := ⟨("_law_do_more", none), "_law_do_more", "_law_do_more", defArgs s__law_do_more, defBody s__law_do_more, defScope s__law_do_more, [], []⟩
def d__law_do : DefD := ⟨("_law_do", none), "_law_do", "_law_do", defArgs s__law_do, defBody s__law_do, defScope s__law_do, [], []⟩
def d__law_part : DefD := ⟨("_law_part", none), "_law_part", "_law_part", defArgs s__law_part, defBody s__law_part, defScope s__law_part, [], []⟩
def d__law_held : DefD := ⟨("_law_held", none), "_law_held", "_law_held", defArgs s__law_held, defBody s__law_held, defScope s__law_held, [], []⟩
def d__law_deed : DefD := ⟨("_law_deed", none), "_law_deed", "_law_deed", defArgs s__law_deed, defBody s__law_deed, defScope s__law_deed, [], []⟩
def d__law_program : DefD := ⟨("_law_program", none), "_law_program", "_law_program", defArgs s__law_program, defBody s__law_program, defScope s__law_program, [], []⟩
def d__law_text : DefD := ⟨("_law_text", none), "_law_text", "_law_text", defArgs s__law_text, defBody s__law_text, defScope s__law_text, [], []⟩
def d__law_word : DefD := ⟨("_law_word", none), "_law_word", "_law_word", defArgs s__law_word, defBody s__law_word, defScope s__law_word, [], []⟩
def d__law_row : DefD := ⟨("_law_row", none), "_law_row", "_law_row", defArgs s__law_row, defBody s__law_row, defScope s__law_row, [], []⟩
def d__law_due : DefD := ⟨("_law_due", none), "_law_due", "_law_due", defArgs s__law_due, defBody s__law_due, defScope s__law_due, [], []⟩
def d__law_told : DefD := ⟨("_law_told", none), "_law_told", "_law_told", defArgs s__law_told, defBody s__law_told, defScope s__law_told, [], []⟩
def d__law_changed : DefD := ⟨("_law_changed", none), "_law_changed", "_law_changed", defArgs s__law_changed, defBody s__law_changed, defScope s__law_changed, [], []⟩
def d_law : DefD := ⟨("law", none), "law", "law", defArgs s_law, defBody s_law, defScope s_law, [], []⟩
def d_BadProgram_init : DefD := ⟨("BadProgram", some "__init__"), "__init__", "BadProgram.__init__", defArgs s_BadProgram_init, defBody s_BadProgram_init, defScope s_BadProgram_init, [], []⟩
def d_BadText_init : DefD := ⟨("BadText", some "__init__"), "__init__", "BadText.__init__", defArgs s_BadText_init, defBody s_BadText_init, defScope s_BadText_init, [], []⟩
def fn0 : List DefD := [d_is_within, d_is_word_of, d_is_deed, d_check_program, d_number_of, d_part_of, d_deed_of, d_read, d__law_mix, d__law_next, d__law_alike, d__law_model, d__law_parts, d__law_walk, d__law_reach, d__law_thing, d__law_make, d__law_has, d__law_may, d__law_write, d__law_tell, d__law_settle, d__law_do_part, d__law_do_more, d__law_do]
def fn1 : List DefD := [d__law_part, d__law_held, d__law_deed, d__law_program, d__law_text, d__law_word, d__law_row, d__law_due, d__law_told, d__law_changed, d_law, d_BadProgram_init, d_BadText_init]
def fn : List DefD := fn0 ++ (fn1)
def fa0 : List Fa := [.glo "is_within", .glo "is_word_of", .glo "is_deed", .glo "check_program", .glo "number_of", .glo "part_of", .glo "deed_of", .glo "read", .glo "_law_mix", .glo "_law_next", .glo "_law_alike", .glo "_law_model", .glo "_law_parts", .glo "_law_walk", .glo "_law_reach", .glo "_law_thing", .glo "_law_make", .glo "_law_has", .glo "_law_may", .glo "_law_write", .glo "_law_tell", .glo "_law_settle", .glo "_law_do_part", .glo "_law_do_more", .glo "_law_do"]
def fa1 : List Fa := [.glo "_law_part", .glo "_law_held", .glo "_law_deed", .glo "_law_program", .glo "_law_text", .glo "_law_word", .glo "_law_row", .glo "_law_due", .glo "_law_told", .glo "_law_changed", .glo "law", .glo "LETTERS", .glo "KINDS", .glo "NAMES", .int "MOST_DEEDS" 120, .int "MOST_NUMBER" 99, .int "MOST_PART" 9, .glo "SHAPES", .str "NO_GOAL" "-", .glo "__builtins__", .free "len", .free "isinstance", .free "sorted", .free "list", .free "range"]
def fa2 : List Fa := [.free "dict", .free "max", .free "min", .free "zip", .free "all", .free "enumerate", .free "str", .free "int", .free "bool", .free "tuple", .free "sum", .free "any", .free "set", .glo "WhoError", .glo "BadProgram", .glo "BadYoung", .glo "BadSteps", .glo "NoThing", .glo "BadTimes", .glo "BadPhotos", .glo "BadText", .free "ValueError"]
def fa : List Fa := fa0 ++ (fa1 ++ (fa2))
def fx0 : List Fx := [.lamT "_law_parts" 215, .keys "SHAPES" ["make", "num", "copy", "drop", "put", "take", "cut", "watch", "last", "ask", "settle", "say"], .cblt "WhoError" "__init__" "ValueError.__init__", .oex "BadProgram" "place", .xis "BadProgram", .exm "BadProgram" "WhoError", .kitT "BadProgram" "ValueError" true, .kit "BadProgram" "BadProgram" true, .kit "BadProgram" "BadYoung" false, .kit "BadProgram" "BadSteps" false, .kit "BadProgram" "NoThing" false, .kit "BadProgram" "BadTimes" false, .kit "BadProgram" "BadPhotos" false, .kit "BadProgram" "BadText" false, .exc "BadYoung", .xis "BadYoung", .exm "BadYoung" "WhoError", .kitT "BadYoung" "ValueError" true, .kit "BadYoung" "BadProgram" false, .kit "BadYoung" "BadYoung" true, .kit "BadYoung" "BadSteps" false, .kit "BadYoung" "NoThing" false, .kit "BadYoung" "BadTimes" false, .kit "BadYoung" "BadPhotos" false, .kit "BadYoung" "BadText" false]
def fx1 : List Fx := [.exc "BadSteps", .xis "BadSteps", .exm "BadSteps" "WhoError", .kitT "BadSteps" "ValueError" true, .kit "BadSteps" "BadProgram" false, .kit "BadSteps" "BadYoung" false, .kit "BadSteps" "BadSteps" true, .kit "BadSteps" "NoThing" false, .kit "BadSteps" "BadTimes" false, .kit "BadSteps" "BadPhotos" false, .kit "BadSteps" "BadText" false, .exc "NoThing", .xis "NoThing", .exm "NoThing" "WhoError", .kitT "NoThing" "ValueError" true, .kit "NoThing" "BadProgram" false, .kit "NoThing" "BadYoung" false, .kit "NoThing" "BadSteps" false, .kit "NoThing" "NoThing" true, .kit "NoThing" "BadTimes" false, .kit "NoThing" "BadPhotos" false, .kit "NoThing" "BadText" false, .exc "BadTimes", .xis "BadTimes", .exm "BadTimes" "WhoError"]
def fx2 : List Fx := [.kitT "BadTimes" "ValueError" true, .kit "BadTimes" "BadProgram" false, .kit "BadTimes" "BadYoung" false, .kit "BadTimes" "BadSteps" false, .kit "BadTimes" "NoThing" false, .kit "BadTimes" "BadTimes" true, .kit "BadTimes" "BadPhotos" false, .kit "BadTimes" "BadText" false, .exc "BadPhotos", .xis "BadPhotos", .exm "BadPhotos" "WhoError", .kitT "BadPhotos" "ValueError" true, .kit "BadPhotos" "BadProgram" false, .kit "BadPhotos" "BadYoung" false, .kit "BadPhotos" "BadSteps" false, .kit "BadPhotos" "NoThing" false, .kit "BadPhotos" "BadTimes" false, .kit "BadPhotos" "BadPhotos" true, .kit "BadPhotos" "BadText" false, .oex "BadText" "row", .xis "BadText", .exm "BadText" "WhoError", .kitT "BadText" "ValueError" true, .kit "BadText" "BadProgram" false, .kit "BadText" "BadYoung" false]
def fx3 : List Fx := [.kit "BadText" "BadSteps" false, .kit "BadText" "NoThing" false, .kit "BadText" "BadTimes" false, .kit "BadText" "BadPhotos" false, .kit "BadText" "BadText" true, .exm "BadProgram" "BadProgram", .tup "LETTERS" ["a", "b", "c", "d"], .tup "KINDS" ["record", "row", "book"], .tup "NAMES" ["p", "q", "r", "s", "t", "u", "v", "w"], .ttup "SHAPES" "make" ["name", "kind"], .ttup "SHAPES" "num" ["name", "number"], .ttup "SHAPES" "copy" ["name", "name"], .ttup "SHAPES" "drop" ["name"], .ttup "SHAPES" "put" ["name", "part", "name"], .ttup "SHAPES" "take" ["name", "name", "part"], .ttup "SHAPES" "cut" ["name", "part"], .ttup "SHAPES" "watch" ["name", "name"], .ttup "SHAPES" "last" ["name", "goal"], .ttup "SHAPES" "ask" ["name", "name"], .ttup "SHAPES" "settle" [], .ttup "SHAPES" "say" ["name"]]
def fx : List Fx := fx0 ++ (fx1 ++ (fx2 ++ (fx3)))
def ts : List Tab := [((fun K => ga K "SHAPES"), ["make", "num", "copy", "drop", "put", "take", "cut", "watch", "last", "ask", "settle", "say"])]
def tl : List Addr := [215]
abbrev Tx (w : World) (K : PySem.W.Frag) (mg : Str → Option Value) : Prop := Says fa fn ts fx w K mg
section
variable {w : World} {K : PySem.W.Frag} {mg : Str → Option Value}
theorem g_is_within (T : Tx w K mg) : mg "is_within" = some (.ref (ga K "is_within")) := T.glo 0
theorem g_is_word_of (T : Tx w K mg) : mg "is_word_of" = some (.ref (ga K "is_word_of")) := T.glo 1
theorem g_is_deed (T : Tx w K mg) : mg "is_deed" = some (.ref (ga K "is_deed")) := T.glo 2
theorem g_check_program (T : Tx w K mg) : mg "check_program" = some (.ref (ga K "check_program")) := T.glo 3
theorem g_number_of (T : Tx w K mg) : mg "number_of" = some (.ref (ga K "number_of")) := T.glo 4
theorem g_part_of (T : Tx w K mg) : mg "part_of" = some (.ref (ga K "part_of")) := T.glo 5
theorem g_deed_of (T : Tx w K mg) : mg "deed_of" = some (.ref (ga K "deed_of")) := T.glo 6
theorem g_read (T : Tx w K mg) : mg "read" = some (.ref (ga K "read")) := T.glo 7
theorem g__law_mix (T : Tx w K mg) : mg "_law_mix" = some (.ref (ga K "_law_mix")) := T.glo 8
theorem g__law_next (T : Tx w K mg) : mg "_law_next" = some (.ref (ga K "_law_next")) := T.glo 9
theorem g__law_alike (T : Tx w K mg) : mg "_law_alike" = some (.ref (ga K "_law_alike")) := T.glo 10
theorem g__law_model (T : Tx w K mg) : mg "_law_model" = some (.ref (ga K "_law_model")) := T.glo 11
theorem g__law_parts (T : Tx w K mg) : mg "_law_parts" = some (.ref (ga K "_law_parts")) := T.glo 12
theorem g__law_walk (T : Tx w K mg) : mg "_law_walk" = some (.ref (ga K "_law_walk")) := T.glo 13
theorem g__law_reach (T : Tx w K mg) : mg "_law_reach" = some (.ref (ga K "_law_reach")) := T.glo 14
theorem g__law_thing (T : Tx w K mg) : mg "_law_thing" = some (.ref (ga K "_law_thing")) := T.glo 15
theorem g__law_make (T : Tx w K mg) : mg "_law_make" = some (.ref (ga K "_law_make")) := T.glo 16
theorem g__law_has (T : Tx w K mg) : mg "_law_has" = some (.ref (ga K "_law_has")) := T.glo 17
theorem g__law_may (T : Tx w K mg) : mg "_law_may" = some (.ref (ga K "_law_may")) := T.glo 18
theorem g__law_write (T : Tx w K mg) : mg "_law_write" = some (.ref (ga K "_law_write")) := T.glo 19
theorem g__law_tell (T : Tx w K mg) : mg "_law_tell" = some (.ref (ga K "_law_tell")) := T.glo 20
theorem g__law_settle (T : Tx w K mg) : mg "_law_settle" = some (.ref (ga K "_law_settle")) := T.glo 21
theorem g__law_do_part (T : Tx w K mg) : mg "_law_do_part" = some (.ref (ga K "_law_do_part")) := T.glo 22
theorem g__law_do_more (T : Tx w K mg) : mg "_law_do_more" = some (.ref (ga K "_law_do_more")) := T.glo 23
theorem g__law_do (T : Tx w K mg) : mg "_law_do" = some (.ref (ga K "_law_do")) := T.glo 24
theorem g__law_part (T : Tx w K mg) : mg "_law_part" = some (.ref (ga K "_law_part")) := T.glo 25
theorem g__law_held (T : Tx w K mg) : mg "_law_held" = some (.ref (ga K "_law_held")) := T.glo 26
theorem g__law_deed (T : Tx w K mg) : mg "_law_deed" = some (.ref (ga K "_law_deed")) := T.glo 27
theorem g__law_program (T : Tx w K mg) : mg "_law_program" = some (.ref (ga K "_law_program")) := T.glo 28
theorem g__law_text (T : Tx w K mg) : mg "_law_text" = some (.ref (ga K "_law_text")) := T.glo 29
theorem g__law_word (T : Tx w K mg) : mg "_law_word" = some (.ref (ga K "_law_word")) := T.glo 30
theorem g__law_row (T : Tx w K mg) : mg "_law_row" = some (.ref (ga K "_law_row")) := T.glo 31
theorem g__law_due (T : Tx w K mg) : mg "_law_due" = some (.ref (ga K "_law_due")) := T.glo 32
theorem g__law_told (T : Tx w K mg) : mg "_law_told" = some (.ref (ga K "_law_told")) := T.glo 33
theorem g__law_changed (T : Tx w K mg) : mg "_law_changed" = some (.ref (ga K "_law_changed")) := T.glo 34
theorem g_law (T : Tx w K mg) : mg "law" = some (.ref (ga K "law")) := T.glo 35
theorem g_LETTERS (T : Tx w K mg) : mg "LETTERS" = some (.ref (ga K "LETTERS")) := T.glo 36
theorem g_KINDS (T : Tx w K mg) : mg "KINDS" = some (.ref (ga K "KINDS")) := T.glo 37
theorem g_NAMES (T : Tx w K mg) : mg "NAMES" = some (.ref (ga K "NAMES")) := T.glo 38
theorem i_MOST_DEEDS (T : Tx w K mg) : ∃ t, mg "MOST_DEEDS" = some (.int 120 t) := T.int 39
theorem i_MOST_NUMBER (T : Tx w K mg) : ∃ t, mg "MOST_NUMBER" = some (.int 99 t) := T.int 40
theorem i_MOST_PART (T : Tx w K mg) : ∃ t, mg "MOST_PART" = some (.int 9 t) := T.int 41
theorem g_SHAPES (T : Tx w K mg) : mg "SHAPES" = some (.ref (ga K "SHAPES")) := T.glo 42
theorem i_NO_GOAL (T : Tx w K mg) : ∃ t, mg "NO_GOAL" = some (.str "-" t) := T.str 43
theorem g___builtins__ (T : Tx w K mg) : mg "__builtins__" = some (.ref (ga K "__builtins__")) := T.glo 44
theorem z_len (T : Tx w K mg) : mg "len" = none := T.free 45
theorem z_isinstance (T : Tx w K mg) : mg "isinstance" = none := T.free 46
theorem z_sorted (T : Tx w K mg) : mg "sorted" = none := T.free 47
theorem z_list (T : Tx w K mg) : mg "list" = none := T.free 48
theorem z_range (T : Tx w K mg) : mg "range" = none := T.free 49
theorem z_dict (T : Tx w K mg) : mg "dict" = none := T.free 50
theorem z_max (T : Tx w K mg) : mg "max" = none := T.free 51
theorem z_min (T : Tx w K mg) : mg "min" = none := T.free 52
theorem z_zip (T : Tx w K mg) : mg "zip" = none := T.free 53
theorem z_all (T : Tx w K mg) : mg "all" = none := T.free 54
theorem z_enumerate (T : Tx w K mg) : mg "enumerate" = none := T.free 55
theorem z_str (T : Tx w K mg) : mg "str" = none := T.free 56
theorem z_int (T : Tx w K mg) : mg "int" = none := T.free 57
theorem z_bool (T : Tx w K mg) : mg "bool" = none := T.free 58
theorem z_tuple (T : Tx w K mg) : mg "tuple" = none := T.free 59
theorem z_sum (T : Tx w K mg) : mg "sum" = none := T.free 60
theorem z_any (T : Tx w K mg) : mg "any" = none := T.free 61
theorem z_set (T : Tx w K mg) : mg "set" = none := T.free 62
theorem g_WhoError (T : Tx w K mg) : mg "WhoError" = some (.ref (ga K "WhoError")) := T.glo 63
theorem g_BadProgram (T : Tx w K mg) : mg "BadProgram" = some (.ref (ga K "BadProgram")) := T.glo 64
theorem g_BadYoung (T : Tx w K mg) : mg "BadYoung" = some (.ref (ga K "BadYoung")) := T.glo 65
theorem g_BadSteps (T : Tx w K mg) : mg "BadSteps" = some (.ref (ga K "BadSteps")) := T.glo 66
theorem g_NoThing (T : Tx w K mg) : mg "NoThing" = some (.ref (ga K "NoThing")) := T.glo 67
theorem g_BadTimes (T : Tx w K mg) : mg "BadTimes" = some (.ref (ga K "BadTimes")) := T.glo 68
theorem g_BadPhotos (T : Tx w K mg) : mg "BadPhotos" = some (.ref (ga K "BadPhotos")) := T.glo 69
theorem g_BadText (T : Tx w K mg) : mg "BadText" = some (.ref (ga K "BadText")) := T.glo 70
theorem z_ValueError (T : Tx w K mg) : mg "ValueError" = none := T.free 71
theorem x_lam__law_parts (T : Tx w K mg) : (Fx.lamT "_law_parts" 215).ok K = true := T.fxs 0
theorem x_keys_SHAPES (T : Tx w K mg) : (Fx.keys "SHAPES" ["make", "num", "copy", "drop", "put", "take", "cut", "watch", "last", "ask", "settle", "say"]).ok K = true := T.fxs 1
theorem x_cblt (T : Tx w K mg) : (Fx.cblt "WhoError" "__init__" "ValueError.__init__").ok K = true := T.fxs 2
theorem x_oex_BadProgram (T : Tx w K mg) : (Fx.oex "BadProgram" "place").ok K = true := T.fxs 3
theorem x_xis_BadProgram (T : Tx w K mg) : (Fx.xis "BadProgram").ok K = true := T.fxs 4
theorem x_exm_BadProgram (T : Tx w K mg) : (Fx.exm "BadProgram" "WhoError").ok K = true := T.fxs 5
theorem x_kitV_BadProgram (T : Tx w K mg) : (Fx.kitT "BadProgram" "ValueError" true).ok K = true := T.fxs 6
theorem x_kx_BadProgram_BadProgram (T : Tx w K mg) : (Fx.kit "BadProgram" "BadProgram" true).ok K = true := T.fxs 7
theorem x_kx_BadProgram_BadYoung (T : Tx w K mg) : (Fx.kit "BadProgram" "BadYoung" false).ok K = true := T.fxs 8
theorem x_kx_BadProgram_BadSteps (T : Tx w K mg) : (Fx.kit "BadProgram" "BadSteps" false).ok K = true := T.fxs 9
theorem x_kx_BadProgram_NoThing (T : Tx w K mg) : (Fx.kit "BadProgram" "NoThing" false).ok K = true := T.fxs 10
theorem x_kx_BadProgram_BadTimes (T : Tx w K mg) : (Fx.kit "BadProgram" "BadTimes" false).ok K = true := T.fxs 11
theorem x_kx_BadProgram_BadPhotos (T : Tx w K mg) : (Fx.kit "BadProgram" "BadPhotos" false).ok K = true := T.fxs 12
theorem x_kx_BadProgram_BadText (T : Tx w K mg) : (Fx.kit "BadProgram" "BadText" false).ok K = true := T.fxs 13
theorem x_exc_BadYoung (T : Tx w K mg) : (Fx.exc "BadYoung").ok K = true := T.fxs 14
theorem x_xis_BadYoung (T : Tx w K mg) : (Fx.xis "BadYoung").ok K = true := T.fxs 15
theorem x_exm_BadYoung (T : Tx w K mg) : (Fx.exm "BadYoung" "WhoError").ok K = true := T.fxs 16
theorem x_kitV_BadYoung (T : Tx w K mg) : (Fx.kitT "BadYoung" "ValueError" true).ok K = true := T.fxs 17
theorem x_kx_BadYoung_BadProgram (T : Tx w K mg) : (Fx.kit "BadYoung" "BadProgram" false).ok K = true := T.fxs 18
theorem x_kx_BadYoung_BadYoung (T : Tx w K mg) : (Fx.kit "BadYoung" "BadYoung" true).ok K = true := T.fxs 19
theorem x_kx_BadYoung_BadSteps (T : Tx w K mg) : (Fx.kit "BadYoung" "BadSteps" false).ok K = true := T.fxs 20
theorem x_kx_BadYoung_NoThing (T : Tx w K mg) : (Fx.kit "BadYoung" "NoThing" false).ok K = true := T.fxs 21
theorem x_kx_BadYoung_BadTimes (T : Tx w K mg) : (Fx.kit "BadYoung" "BadTimes" false).ok K = true := T.fxs 22
theorem x_kx_BadYoung_BadPhotos (T : Tx w K mg) : (Fx.kit "BadYoung" "BadPhotos" false).ok K = true := T.fxs 23
theorem x_kx_BadYoung_BadText (T : Tx w K mg) : (Fx.kit "BadYoung" "BadText" false).ok K = true := T.fxs 24
theorem x_exc_BadSteps (T : Tx w K mg) : (Fx.exc "BadSteps").ok K = true := T.fxs 25
theorem x_xis_BadSteps (T : Tx w K mg) : (Fx.xis "BadSteps").ok K = true := T.fxs 26
theorem x_exm_BadSteps (T : Tx w K mg) : (Fx.exm "BadSteps" "WhoError").ok K = true := T.fxs 27
theorem x_kitV_BadSteps (T : Tx w K mg) : (Fx.kitT "BadSteps" "ValueError" true).ok K = true := T.fxs 28
theorem x_kx_BadSteps_BadProgram (T : Tx w K mg) : (Fx.kit "BadSteps" "BadProgram" false).ok K = true := T.fxs 29
theorem x_kx_BadSteps_BadYoung (T : Tx w K mg) : (Fx.kit "BadSteps" "BadYoung" false).ok K = true := T.fxs 30
theorem x_kx_BadSteps_BadSteps (T : Tx w K mg) : (Fx.kit "BadSteps" "BadSteps" true).ok K = true := T.fxs 31
theorem x_kx_BadSteps_NoThing (T : Tx w K mg) : (Fx.kit "BadSteps" "NoThing" false).ok K = true := T.fxs 32
theorem x_kx_BadSteps_BadTimes (T : Tx w K mg) : (Fx.kit "BadSteps" "BadTimes" false).ok K = true := T.fxs 33
theorem x_kx_BadSteps_BadPhotos (T : Tx w K mg) : (Fx.kit "BadSteps" "BadPhotos" false).ok K = true := T.fxs 34
theorem x_kx_BadSteps_BadText (T : Tx w K mg) : (Fx.kit "BadSteps" "BadText" false).ok K = true := T.fxs 35
theorem x_exc_NoThing (T : Tx w K mg) : (Fx.exc "NoThing").ok K = true := T.fxs 36
theorem x_xis_NoThing (T : Tx w K mg) : (Fx.xis "NoThing").ok K = true := T.fxs 37
theorem x_exm_NoThing (T : Tx w K mg) : (Fx.exm "NoThing" "WhoError").ok K = true := T.fxs 38
theorem x_kitV_NoThing (T : Tx w K mg) : (Fx.kitT "NoThing" "ValueError" true).ok K = true := T.fxs 39
theorem x_kx_NoThing_BadProgram (T : Tx w K mg) : (Fx.kit "NoThing" "BadProgram" false).ok K = true := T.fxs 40
theorem x_kx_NoThing_BadYoung (T : Tx w K mg) : (Fx.kit "NoThing" "BadYoung" false).ok K = true := T.fxs 41
theorem x_kx_NoThing_BadSteps (T : Tx w K mg) : (Fx.kit "NoThing" "BadSteps" false).ok K = true := T.fxs 42
theorem x_kx_NoThing_NoThing (T : Tx w K mg) : (Fx.kit "NoThing" "NoThing" true).ok K = true := T.fxs 43
theorem x_kx_NoThing_BadTimes (T : Tx w K mg) : (Fx.kit "NoThing" "BadTimes" false).ok K = true := T.fxs 44
theorem x_kx_NoThing_BadPhotos (T : Tx w K mg) : (Fx.kit "NoThing" "BadPhotos" false).ok K = true := T.fxs 45
theorem x_kx_NoThing_BadText (T : Tx w K mg) : (Fx.kit "NoThing" "BadText" false).ok K = true := T.fxs 46
theorem x_exc_BadTimes (T : Tx w K mg) : (Fx.exc "BadTimes").ok K = true := T.fxs 47
theorem x_xis_BadTimes (T : Tx w K mg) : (Fx.xis "BadTimes").ok K = true := T.fxs 48
theorem x_exm_BadTimes (T : Tx w K mg) : (Fx.exm "BadTimes" "WhoError").ok K = true := T.fxs 49
theorem x_kitV_BadTimes (T : Tx w K mg) : (Fx.kitT "BadTimes" "ValueError" true).ok K = true := T.fxs 50
theorem x_kx_BadTimes_BadProgram (T : Tx w K mg) : (Fx.kit "BadTimes" "BadProgram" false).ok K = true := T.fxs 51
theorem x_kx_BadTimes_BadYoung (T : Tx w K mg) : (Fx.kit "BadTimes" "BadYoung" false).ok K = true := T.fxs 52
theorem x_kx_BadTimes_BadSteps (T : Tx w K mg) : (Fx.kit "BadTimes" "BadSteps" false).ok K = true := T.fxs 53
theorem x_kx_BadTimes_NoThing (T : Tx w K mg) : (Fx.kit "BadTimes" "NoThing" false).ok K = true := T.fxs 54
theorem x_kx_BadTimes_BadTimes (T : Tx w K mg) : (Fx.kit "BadTimes" "BadTimes" true).ok K = true := T.fxs 55
theorem x_kx_BadTimes_BadPhotos (T : Tx w K mg) : (Fx.kit "BadTimes" "BadPhotos" false).ok K = true := T.fxs 56
theorem x_kx_BadTimes_BadText (T : Tx w K mg) : (Fx.kit "BadTimes" "BadText" false).ok K = true := T.fxs 57
theorem x_exc_BadPhotos (T : Tx w K mg) : (Fx.exc "BadPhotos").ok K = true := T.fxs 58
theorem x_xis_BadPhotos (T : Tx w K mg) : (Fx.xis "BadPhotos").ok K = true := T.fxs 59
theorem x_exm_BadPhotos (T : Tx w K mg) : (Fx.exm "BadPhotos" "WhoError").ok K = true := T.fxs 60
theorem x_kitV_BadPhotos (T : Tx w K mg) : (Fx.kitT "BadPhotos" "ValueError" true).ok K = true := T.fxs 61
theorem x_kx_BadPhotos_BadProgram (T : Tx w K mg) : (Fx.kit "BadPhotos" "BadProgram" false).ok K = true := T.fxs 62
theorem x_kx_BadPhotos_BadYoung (T : Tx w K mg) : (Fx.kit "BadPhotos" "BadYoung" false).ok K = true := T.fxs 63
theorem x_kx_BadPhotos_BadSteps (T : Tx w K mg) : (Fx.kit "BadPhotos" "BadSteps" false).ok K = true := T.fxs 64
theorem x_kx_BadPhotos_NoThing (T : Tx w K mg) : (Fx.kit "BadPhotos" "NoThing" false).ok K = true := T.fxs 65
theorem x_kx_BadPhotos_BadTimes (T : Tx w K mg) : (Fx.kit "BadPhotos" "BadTimes" false).ok K = true := T.fxs 66
theorem x_kx_BadPhotos_BadPhotos (T : Tx w K mg) : (Fx.kit "BadPhotos" "BadPhotos" true).ok K = true := T.fxs 67
theorem x_kx_BadPhotos_BadText (T : Tx w K mg) : (Fx.kit "BadPhotos" "BadText" false).ok K = true := T.fxs 68
theorem x_oex_BadText (T : Tx w K mg) : (Fx.oex "BadText" "row").ok K = true := T.fxs 69
theorem x_xis_BadText (T : Tx w K mg) : (Fx.xis "BadText").ok K = true := T.fxs 70
theorem x_exm_BadText (T : Tx w K mg) : (Fx.exm "BadText" "WhoError").ok K = true := T.fxs 71
theorem x_kitV_BadText (T : Tx w K mg) : (Fx.kitT "BadText" "ValueError" true).ok K = true := T.fxs 72
theorem x_kx_BadText_BadProgram (T : Tx w K mg) : (Fx.kit "BadText" "BadProgram" false).ok K = true := T.fxs 73
theorem x_kx_BadText_BadYoung (T : Tx w K mg) : (Fx.kit "BadText" "BadYoung" false).ok K = true := T.fxs 74
theorem x_kx_BadText_BadSteps (T : Tx w K mg) : (Fx.kit "BadText" "BadSteps" false).ok K = true := T.fxs 75
theorem x_kx_BadText_NoThing (T : Tx w K mg) : (Fx.kit "BadText" "NoThing" false).ok K = true := T.fxs 76
theorem x_kx_BadText_BadTimes (T : Tx w K mg) : (Fx.kit "BadText" "BadTimes" false).ok K = true := T.fxs 77
theorem x_kx_BadText_BadPhotos (T : Tx w K mg) : (Fx.kit "BadText" "BadPhotos" false).ok K = true := T.fxs 78
theorem x_kx_BadText_BadText (T : Tx w K mg) : (Fx.kit "BadText" "BadText" true).ok K = true := T.fxs 79
theorem x_exm_self (T : Tx w K mg) : (Fx.exm "BadProgram" "BadProgram").ok K = true := T.fxs 80
theorem x_tup_LETTERS (T : Tx w K mg) : (Fx.tup "LETTERS" ["a", "b", "c", "d"]).ok K = true := T.fxs 81
theorem x_tup_KINDS (T : Tx w K mg) : (Fx.tup "KINDS" ["record", "row", "book"]).ok K = true := T.fxs 82
theorem x_tup_NAMES (T : Tx w K mg) : (Fx.tup "NAMES" ["p", "q", "r", "s", "t", "u", "v", "w"]).ok K = true := T.fxs 83
theorem x_SHAPES_make (T : Tx w K mg) : (Fx.ttup "SHAPES" "make" ["name", "kind"]).ok K = true := T.fxs 84
theorem x_SHAPES_num (T : Tx w K mg) : (Fx.ttup "SHAPES" "num" ["name", "number"]).ok K = true := T.fxs 85
theorem x_SHAPES_copy (T : Tx w K mg) : (Fx.ttup "SHAPES" "copy" ["name", "name"]).ok K = true := T.fxs 86
theorem x_SHAPES_drop (T : Tx w K mg) : (Fx.ttup "SHAPES" "drop" ["name"]).ok K = true := T.fxs 87
theorem x_SHAPES_put (T : Tx w K mg) : (Fx.ttup "SHAPES" "put" ["name", "part", "name"]).ok K = true := T.fxs 88
theorem x_SHAPES_take (T : Tx w K mg) : (Fx.ttup "SHAPES" "take" ["name", "name", "part"]).ok K = true := T.fxs 89
theorem x_SHAPES_cut (T : Tx w K mg) : (Fx.ttup "SHAPES" "cut" ["name", "part"]).ok K = true := T.fxs 90
theorem x_SHAPES_watch (T : Tx w K mg) : (Fx.ttup "SHAPES" "watch" ["name", "name"]).ok K = true := T.fxs 91
theorem x_SHAPES_last (T : Tx w K mg) : (Fx.ttup "SHAPES" "last" ["name", "goal"]).ok K = true := T.fxs 92
theorem x_SHAPES_ask (T : Tx w K mg) : (Fx.ttup "SHAPES" "ask" ["name", "name"]).ok K = true := T.fxs 93
theorem x_SHAPES_settle (T : Tx w K mg) : (Fx.ttup "SHAPES" "settle" []).ok K = true := T.fxs 94
theorem x_SHAPES_say (T : Tx w K mg) : (Fx.ttup "SHAPES" "say" ["name"]).ok K = true := T.fxs 95
theorem f_is_within (T : Tx w K mg) : ∃ fd, FunD K "is_within" "is_within" (defArgs s_is_within) (defBody s_is_within) (defScope s_is_within) [] [] (ga K "is_within") fd := T.def_ 0 (d := d_is_within) rfl
theorem f_is_word_of (T : Tx w K mg) : ∃ fd, FunD K "is_word_of" "is_word_of" (defArgs s_is_word_of) (defBody s_is_word_of) (defScope s_is_word_of) [] [] (ga K "is_word_of") fd := T.def_ 1 (d := d_is_word_of) rfl
theorem f_is_deed (T : Tx w K mg) : ∃ fd, FunD K "is_deed" "is_deed" (defArgs s_is_deed) (defBody s_is_deed) (defScope s_is_deed) [] [] (ga K "is_deed") fd := T.def_ 2 (d := d_is_deed) rfl
theorem f_check_program (T : Tx w K mg) : ∃ fd, FunD K "check_program" "check_program" (defArgs s_check_program) (defBody s_check_program) (defScope s_check_program) [] [] (ga K "check_program") fd := T.def_ 3 (d := d_check_program) rfl
theorem f_number_of (T : Tx w K mg) : ∃ fd, FunD K "number_of" "number_of" (defArgs s_number_of) (defBody s_number_of) (defScope s_number_of) [] [] (ga K "number_of") fd := T.def_ 4 (d := d_number_of) rfl
theorem f_part_of (T : Tx w K mg) : ∃ fd, FunD K "part_of" "part_of" (defArgs s_part_of) (defBody s_part_of) (defScope s_part_of) [] [] (ga K "part_of") fd := T.def_ 5 (d := d_part_of) rfl
theorem f_deed_of (T : Tx w K mg) : ∃ fd, FunD K "deed_of" "deed_of" (defArgs s_deed_of) (defBody s_deed_of) (defScope s_deed_of) [] [] (ga K "deed_of") fd := T.def_ 6 (d := d_deed_of) rfl
theorem f_read (T : Tx w K mg) : ∃ fd, FunD K "read" "read" (defArgs s_read) (defBody s_read) (defScope s_read) [] [] (ga K "read") fd := T.def_ 7 (d := d_read) rfl
theorem f__law_mix (T : Tx w K mg) : ∃ fd, FunD K "_law_mix" "_law_mix" (defArgs s__law_mix) (defBody s__law_mix) (defScope s__law_mix) [] [] (ga K "_law_mix") fd := T.def_ 8 (d := d__law_mix) rfl
theorem f__law_next (T : Tx w K mg) : ∃ fd, FunD K "_law_next" "_law_next" (defArgs s__law_next) (defBody s__law_next) (defScope s__law_next) [] [] (ga K "_law_next") fd := T.def_ 9 (d := d__law_next) rfl
theorem f__law_alike (T : Tx w K mg) : ∃ fd, FunD K "_law_alike" "_law_alike" (defArgs s__law_alike) (defBody s__law_alike) (defScope s__law_alike) [] [] (ga K "_law_alike") fd := T.def_ 10 (d := d__law_alike) rfl
theorem f__law_model (T : Tx w K mg) : ∃ fd, FunD K "_law_model" "_law_model" (defArgs s__law_model) (defBody s__law_model) (defScope s__law_model) [] [] (ga K "_law_model") fd := T.def_ 11 (d := d__law_model) rfl
theorem f__law_parts (T : Tx w K mg) : ∃ fd, FunD K "_law_parts" "_law_parts" (defArgs s__law_parts) (defBody s__law_parts) (defScope s__law_parts) [] [] (ga K "_law_parts") fd := T.def_ 12 (d := d__law_parts) rfl
theorem f__law_walk (T : Tx w K mg) : ∃ fd, FunD K "_law_walk" "_law_walk" (defArgs s__law_walk) (defBody s__law_walk) (defScope s__law_walk) [] [] (ga K "_law_walk") fd := T.def_ 13 (d := d__law_walk) rfl
theorem f__law_reach (T : Tx w K mg) : ∃ fd, FunD K "_law_reach" "_law_reach" (defArgs s__law_reach) (defBody s__law_reach) (defScope s__law_reach) [] [] (ga K "_law_reach") fd := T.def_ 14 (d := d__law_reach) rfl
theorem f__law_thing (T : Tx w K mg) : ∃ fd, FunD K "_law_thing" "_law_thing" (defArgs s__law_thing) (defBody s__law_thing) (defScope s__law_thing) [] [] (ga K "_law_thing") fd := T.def_ 15 (d := d__law_thing) rfl
theorem f__law_make (T : Tx w K mg) : ∃ fd, FunD K "_law_make" "_law_make" (defArgs s__law_make) (defBody s__law_make) (defScope s__law_make) [] [] (ga K "_law_make") fd := T.def_ 16 (d := d__law_make) rfl
theorem f__law_has (T : Tx w K mg) : ∃ fd, FunD K "_law_has" "_law_has" (defArgs s__law_has) (defBody s__law_has) (defScope s__law_has) [] [] (ga K "_law_has") fd := T.def_ 17 (d := d__law_has) rfl
theorem f__law_may (T : Tx w K mg) : ∃ fd, FunD K "_law_may" "_law_may" (defArgs s__law_may) (defBody s__law_may) (defScope s__law_may) [] [] (ga K "_law_may") fd := T.def_ 18 (d := d__law_may) rfl
theorem f__law_write (T : Tx w K mg) : ∃ fd, FunD K "_law_write" "_law_write" (defArgs s__law_write) (defBody s__law_write) (defScope s__law_write) [] [] (ga K "_law_write") fd := T.def_ 19 (d := d__law_write) rfl
theorem f__law_tell (T : Tx w K mg) : ∃ fd, FunD K "_law_tell" "_law_tell" (defArgs s__law_tell) (defBody s__law_tell) (defScope s__law_tell) [] [] (ga K "_law_tell") fd := T.def_ 20 (d := d__law_tell) rfl
theorem f__law_settle (T : Tx w K mg) : ∃ fd, FunD K "_law_settle" "_law_settle" (defArgs s__law_settle) (defBody s__law_settle) (defScope s__law_settle) [] [] (ga K "_law_settle") fd := T.def_ 21 (d := d__law_settle) rfl
theorem f__law_do_part (T : Tx w K mg) : ∃ fd, FunD K "_law_do_part" "_law_do_part" (defArgs s__law_do_part) (defBody s__law_do_part) (defScope s__law_do_part) [] [] (ga K "_law_do_part") fd := T.def_ 22 (d := d__law_do_part) rfl
theorem f__law_do_more (T : Tx w K mg) : ∃ fd, FunD K "_law_do_more" "_law_do_more" (defArgs s__law_do_more) (defBody s__law_do_more) (defScope s__law_do_more) [] [] (ga K "_law_do_more") fd := T.def_ 23 (d := d__law_do_more) rfl
theorem f__law_do (T : Tx w K mg) : ∃ fd, FunD K "_law_do" "_law_do" (defArgs s__law_do) (defBody s__law_do) (defScope s__law_do) [] [] (ga K "_law_do") fd := T.def_ 24 (d := d__law_do) rfl
theorem f__law_part (T : Tx w K mg) : ∃ fd, FunD K "_law_part" "_law_part" (defArgs s__law_part) (defBody s__law_part) (defScope s__law_part) [] [] (ga K "_law_part") fd := T.def_ 25 (d := d__law_part) rfl
theorem f__law_held (T : Tx w K mg) : ∃ fd, FunD K "_law_held" "_law_held" (defArgs s__law_held) (defBody s__law_held) (defScope s__law_held) [] [] (ga K "_law_held") fd := T.def_ 26 (d := d__law_held) rfl
theorem f__law_deed (T : Tx w K mg) : ∃ fd, FunD K "_law_deed" "_law_deed" (defArgs s__law_deed) (defBody s__law_deed) (defScope s__law_deed) [] [] (ga K "_law_deed") fd := T.def_ 27 (d := d__law_deed) rfl
theorem f__law_program (T : Tx w K mg) : ∃ fd, FunD K "_law_program" "_law_program" (defArgs s__law_program) (defBody s__law_program) (defScope s__law_program) [] [] (ga K "_law_program") fd := T.def_ 28 (d := d__law_program) rfl
theorem f__law_text (T : Tx w K mg) : ∃ fd, FunD K "_law_text" "_law_text" (defArgs s__law_text) (defBody s__law_text) (defScope s__law_text) [] [] (ga K "_law_text") fd := T.def_ 29 (d := d__law_text) rfl
theorem f__law_word (T : Tx w K mg) : ∃ fd, FunD K "_law_word" "_law_word" (defArgs s__law_word) (defBody s__law_word) (defScope s__law_word) [] [] (ga K "_law_word") fd := T.def_ 30 (d := d__law_word) rfl
theorem f__law_row (T : Tx w K mg) : ∃ fd, FunD K "_law_row" "_law_row" (defArgs s__law_row) (defBody s__law_row) (defScope s__law_row) [] [] (ga K "_law_row") fd := T.def_ 31 (d := d__law_row) rfl
theorem f__law_due (T : Tx w K mg) : ∃ fd, FunD K "_law_due" "_law_due" (defArgs s__law_due) (defBody s__law_due) (defScope s__law_due) [] [] (ga K "_law_due") fd := T.def_ 32 (d := d__law_due) rfl
theorem f__law_told (T : Tx w K mg) : ∃ fd, FunD K "_law_told" "_law_told" (defArgs s__law_told) (defBody s__law_told) (defScope s__law_told) [] [] (ga K "_law_told") fd := T.def_ 33 (d := d__law_told) rfl
theorem f__law_changed (T : Tx w K mg) : ∃ fd, FunD K "_law_changed" "_law_changed" (defArgs s__law_changed) (defBody s__law_changed) (defScope s__law_changed) [] [] (ga K "_law_changed") fd := T.def_ 34 (d := d__law_changed) rfl
theorem f_law (T : Tx w K mg) : ∃ fd, FunD K "law" "law" (defArgs s_law) (defBody s_law) (defScope s_law) [] [] (ga K "law") fd := T.def_ 35 (d := d_law) rfl
theorem f_BadProgram_init (T : Tx w K mg) : ∃ fd, FunD K "__init__" "BadProgram.__init__" (defArgs s_BadProgram_init) (defBody s_BadProgram_init) (defScope s_BadProgram_init) [] [] (ma K (ga K "BadProgram") "__init__") fd := T.def_ 36 (d := d_BadProgram_init) rfl
theorem f_BadText_init (T : Tx w K mg) : ∃ fd, FunD K "__init__" "BadText.__init__" (defArgs s_BadText_init) (defBody s_BadText_init) (defScope s_BadText_init) [] [] (ma K (ga K "BadText") "__init__") fd := T.def_ 37 (d := d_BadText_init) rfl
theorem k_SHAPES (T : Tx w K mg) : ∃ es n, KDict K w (ga K "SHAPES") es n := T.c.t.tab 0 (t := ((fun K => ga K "SHAPES"), ["make", "num", "copy", "drop", "put", "take", "cut", "watch", "last", "ask", "settle", "say"])) rfl
end
end WK
set_option maxHeartbeats 0
/-! The head: one run of the top for each answer. -/
namespace WK
open PySem PySem.Spec PyProof.Rows L2 He WB
def loose0 : List Str := ["__name__", "WhoError", "BadProgram", "BadYoung", "BadSteps", "NoThing", "BadTimes", "BadPhotos", "BadText", "LETTERS", "KINDS", "NAMES", "MOST_DEEDS", "MOST_NUMBER", "MOST_PART", "SHAPES", "is_within", "is_word_of", "is_deed", "check_program", "NO_GOAL", "number_of", "part_of", "deed_of", "read", "_law_mix", "_law_next", "_law_alike", "_law_model", "_law_parts"]
def loose1 : List Str := ["_law_walk", "_law_reach", "_law_thing", "_law_make", "_law_has", "_law_may", "_law_write", "_law_tell", "_law_settle", "_law_do_part", "_law_do_more", "_law_do", "_law_part", "_law_held", "_law_deed", "_law_program", "_law_text", "_law_word", "_law_row", "_law_due", "_law_told", "_law_changed"]
def loose : List Str := loose0 ++ (loose1)
def adr : List Addr := [3, 2, 4, 24, 44, 56, 68, 80, 92, 104, 123, 6, 129, 23, 43, 55, 67, 79, 91, 103, 122, 22, 42, 54, 66, 78, 90, 102, 121, 126, 127, 128, 130, 131, 132, 133, 134, 135, 136, 137, 138, 139, 140, 141, 41, 120, 148, 155, 160, 167, 172, 179, 184, 189, 196, 203, 208, 213, 218, 223, 228, 235, 240, 247, 254, 261, 268, 273, 280, 287, 294, 301, 308, 315, 322, 327, 332, 339, 344, 351, 358, 365, 40, 119, 147, 154, 159, 166, 171, 178, 183, 188, 195, 202, 207, 212, 217, 222, 227, 234, 239, 246, 253, 260, 267, 272, 279, 286, 293, 300, 307, 314, 321, 326, 331, 338, 343, 350, 357, 364]
abbrev R : PySem.W.OpenRow := PySem.W.OpenLaw.row PySem.Challenge.rw_whokeeps_k27_texts_that_tell_no_program
abbrev hk : PySem.W.Hook := hookW adr fa fn ts fx tl
def ob (s : PySem.W.SharedT) : AlW := obsW fa fn ts fx tl (HandSHeadRun.getT s) adr
theorem ob_eq (s : PySem.W.SharedT) : ob s = hk.obs s.abs := obW_eq s
theorem runF (w : World) : HandSHeadRun.RunEq R (PySem.W.view R.prog [55]) hk ob 12000 loose (w.withFollow "special-get-raises" false) := by
  intro os
  kernel_rfl
theorem runT (w : World) : HandSHeadRun.RunEq R (PySem.W.view R.prog [55]) hk ob 12000 loose (w.withFollow "special-get-raises" true) := by
  intro os
  kernel_rfl
theorem run (w : World) : HandSHeadRun.RunEq R (PySem.W.view R.prog [55]) hk ob 12000 loose w := PySem.W.byRow2 "special-get-raises" runF runT w
end WK
set_option maxHeartbeats 4000000
/-! Calls whose callee is told where the call is read; defs by their promises. -/
namespace WB
open PySem PySem.Spec PyProof.Rows L2 He
/-- what stays through a whole run -/
structure C5 where
  P : Program
  w : World
  K : PySem.W.Frag
  mg : Str → Option Value
  base : Heap
abbrev five (X : Cx) : C5 := ⟨X.prog, X.w, X.K, X.mg, X.base⟩
/-- the def at f keeps the promise sp (no exception leaves it) -/
structure DefOk (M : C5) (k : Nat) (f : Addr) (ps : List Str) (sp : Sp) : Prop where
  ex : ∃ fd, FnOk M.P M.w M.K M.mg M.base CX0 k f fd ps sp ∧ Binds M.K fd ps []
  kp : PySem.W.keepIn M.K (.ref f) = true
/-- from the text: a def without defaults, its body walked -/
theorem DefOk.mk' {P : Program} {w : World} {K : PySem.W.Frag} {mg : Str → Option Value} {base : Heap} {x qual : Str} {pa : Arguments} {body : List Stmt} {sc : Scope} {f : Addr} {N ps : List Str} {k : Nat} {sp : Sp}
    (F : ∃ fd, FunD K x qual pa body sc [] [] f fd) (S : FnScope N ps sc)
    (hb : ∀ (kV doc pm : Value) (an : Option Addr) (cdv ct : Value) (us : List Value), us.length = ps.length → bindArgs (PySem.W.fnOf x qual pa body sc .none kV doc pm an cdv ct) ⟨us, []⟩ = pure (ps.zip us))
    (len : ∀ vs H Q E, sp vs H Q E → vs.length = ps.length)
    (hbody : ∀ (cdv : Value) (A : Around) (outer : List Env) (s : Shared) (H : Hp) (vs : List V) (Q : VK) (E : XK), Room k (A.deeper (envOfC qual sc s.heap.objs.size f cdv)) → sp vs H Q E →
      ∃ t, PSs (cxOf CX0 P w K mg base N qual sc f cdv A outer s H E).nox body t ∧ t { nx := fun _ H' => Q .non H', rt := Q } (start N vs) H) : DefOk ⟨P, w, K, mg, base⟩ (k + 1) f ps sp := by
  obtain ⟨fd, F⟩ := F
  refine ⟨⟨fd, ?_, F.bindsN hb⟩, F.kp⟩
  refine F.ok S len fun cdv A outer s H vs Q E hr h => ?_
  obtain ⟨t, p, q⟩ := hbody cdv A outer s H vs Q E hr h
  exact ⟨t, p.nox, q⟩
section
variable {X : Cx} {M : C5} {k0 : Nat} {x m : Str} {p pos apos : Pos} {e o : Expr} {es : List Expr} {ta : TE} {t : TA}
/-- f(..), f a def of the module -/
def tCG (M : C5) (k0 : Nat) (x : Str) (t : TA) : TE := fun σ H Q => ∃ (f : Addr) (ps : List Str) (sp : Sp) (k : Nat), M.mg x = some (.ref f) ∧ DefOk M k f ps sp ∧ k ≤ k0 ∧ t σ H fun vs H1 => sp vs H1 Q E0
theorem pe_cg (hM : five X = M) (hr : Room k0 X.A) (hg : Gl X x) (ha : PA X (e :: es) t) (hdb : (x == ("__debug__" : Str)) = false := by decide) (he : starEach (e :: es) X.env = (false, eval e X.env) :: starEach es X.env := by rfl) (hpl : (backTo pos (starEach es X.env)).any (·.1) = false := by rfl) :
    PE X (.Call (.Name x p) (e :: es) [] pos) (tCG M k0 x t) := by
  subst hM
  refine ⟨fun pins s σ H Q I ⟨f, ps, sp, k, hm, D, hk, h⟩ => ?_⟩
  obtain ⟨fd, F, b⟩ := D.ex
  refine (pe_call F (hr.mono hk) hg hm D.kp b .nil pass0 ha hdb he hpl).run pins s σ H Q I ?_
  have e2 : (fun vs H1 => sp (vs ++ []) H1 Q E0) = fun vs H1 => sp vs H1 Q E0 := by
    funext vs H1
    rw [List.append_nil]
  show t σ H fun vs H1 => sp (vs ++ []) H1 Q E0
  rw [e2]
  exact h
theorem pe_cg0 (hM : five X = M) (hr : Room k0 X.A) (hg : Gl X x) (hdb : (x == ("__debug__" : Str)) = false := by decide) : PE X (.Call (.Name x p) [] [] pos) (tCG M k0 x tNil) := by
  subst hM
  refine ⟨fun pins s σ H Q I ⟨f, ps, sp, k, hm, D, hk, h⟩ => ?_⟩
  obtain ⟨fd, F, b⟩ := D.ex
  exact (pe_call0 F (hr.mono hk) hg hm D.kp b .nil pass0 hdb).run pins s σ H Q I h
/-- C(..), C a class of one's own -/
def tMG (M : C5) (k0 : Nat) (x : Str) (t : TA) : TE := fun σ H Q => ∃ (C f : Addr) (ps : List Str) (sp : Sp) (k : Nat), M.mg x = some (.ref C) ∧ Mk M.K C f ∧ DefOk M k f ps sp ∧ k + 1 ≤ k0 ∧
  t σ H fun vs H1 => ∀ x dx, H1 x = none → H1 dx = none → dx ≠ x → sp (.ref x :: vs) (upd (upd H1 dx (.own x)) x (.ins C dx [])) (fun v H2 => v = .non ∧ Q (.ref x) H2) E0
theorem pe_mg (hM : five X = M) (hr : Room k0 X.A) (hg : Gl X x) (ha : PA X (e :: es) t) (hdb : (x == ("__debug__" : Str)) = false := by decide) (he : starEach (e :: es) X.env = (false, eval e X.env) :: starEach es X.env := by rfl) (hpl : (backTo pos (starEach es X.env)).any (·.1) = false := by rfl) :
    PE X (.Call (.Name x p) (e :: es) [] pos) (tMG M k0 x t) := by
  subst hM
  refine ⟨fun pins s σ H Q I ⟨C, f, ps, sp, k, hm, Mk, D, hk, h⟩ => ?_⟩
  obtain ⟨fd, F, b⟩ := D.ex
  refine (pe_make Mk F (hr.mono hk) hg hm b .nil pass0 ha hdb he hpl).run pins s σ H Q I ?_
  have e2 : (fun (vs : List V) (H1 : Hp) => ∀ x dx, H1 x = none → H1 dx = none → dx ≠ x → sp (.ref x :: (vs ++ [])) (upd (upd H1 dx (.own x)) x (.ins C dx [])) (fun v H2 => v = .non ∧ Q (.ref x) H2) E0) =
      fun vs H1 => ∀ x dx, H1 x = none → H1 dx = none → dx ≠ x → sp (.ref x :: vs) (upd (upd H1 dx (.own x)) x (.ins C dx [])) (fun v H2 => v = .non ∧ Q (.ref x) H2) E0 := by
    funext vs H1
    rw [List.append_nil]
  show t σ H (fun (vs : List V) (H1 : Hp) => ∀ x dx, H1 x = none → H1 dx = none → dx ≠ x → sp (.ref x :: (vs ++ [])) (upd (upd H1 dx (.own x)) x (.ins C dx [])) (fun v H2 => v = .non ∧ Q (.ref x) H2) E0)
  rw [e2]
  exact h
theorem pe_mg0 (hM : five X = M) (hr : Room k0 X.A) (hg : Gl X x) (hdb : (x == ("__debug__" : Str)) = false := by decide) : PE X (.Call (.Name x p) [] [] pos) (tMG M k0 x tNil) := by
  subst hM
  refine ⟨fun pins s σ H Q I ⟨C, f, ps, sp, k, hm, Mk, D, hk, h⟩ => ?_⟩
  obtain ⟨fd, F, b⟩ := D.ex
  exact (pe_make0 Mk F (hr.mono hk) hg hm b .nil pass0 hdb).run pins s σ H Q I h
/-- o.m(..), o an instance of a class that is told when the call is read -/
def tMD (M : C5) (k0 : Nat) (m : Str) (ta : TE) (t : TA) : TE := fun σ H Q => ta σ H fun x H1 => ∃ (a C dx : Addr) (fs : List (Str × V)) (f : Addr) (ps : List Str) (sp : Sp) (k : Nat), x = .ref a ∧ H1 a = some (.ins C dx fs) ∧ fs.lookup m = none ∧
  Cls M.K C ∧ Meth M.K C m f ∧ DefOk M k f ps sp ∧ k ≤ k0 ∧ t σ H1 fun vs H2 => sp (x :: vs) H2 Q E0
theorem pe_md {pl : Sem Bool} (hM : five X = M) (hr : Room k0 X.A) (he : PE X o ta) (ha : PA X (e :: es) t)
    (hst : starEach (e :: es) X.env = (false, eval e X.env) :: starEach es X.env := by rfl) (hpl : (backTo pos (starEach es X.env)).any (·.1) = false := by rfl)
    (ht : eval (.Call (.Attribute o m apos) (e :: es) [] pos) X.env = (do
      let ov ← eval o X.env
      standAt apos.atName
      let (f, first) ← holding [ov] (getMethod ov m pl)
      callWith pos f first (backTo pos (starEach (e :: es) X.env)) (backToKw pos (keywordEach [] X.env))) := by rfl) :
    PE X (.Call (.Attribute o m apos) (e :: es) [] pos) (tMD M k0 m ta t) := by
  subst hM
  refine ⟨fun pins s σ H Q I h => ?_⟩
  refine PySem.W.methodCall_KW (pl := pl) (thn (he.run pins s σ H _ I h) fun u s1 ⟨x, H1, I1, rx, a, C, dx, fs, f, ps, sp, k, ex, ea, l, c, hm, D, hk, q⟩ => ?_) ht
  subst ex
  obtain rfl : u = Value.ref a := rx
  obtain ⟨fd, F, b⟩ := D.ex
  refine getmeth_ok I1 ea c hm l ?_
  refine PySem.W.callWith_K (first := [.ref a]) (h₀ := X.base) I.ok.mod.kin hm.kp (thn (ha.run pos pins s1 σ H1 _ I1 q) fun us s2 ⟨vs, H2, I2, r, q2⟩ => ⟨I2.kIn, ?_⟩) hst hpl
  exact run_fn (us := .ref a :: us) (vs := .ref a :: vs) (dvs := []) F (hr.mono hk) b .nil pass0 I2 (.cons rfl r) (by rw [List.append_nil]; exact q2)
theorem pe_md0 {pl : Sem Bool} (hM : five X = M) (hr : Room k0 X.A) (he : PE X o ta)
    (ht : eval (.Call (.Attribute o m apos) [] [] pos) X.env = (do
      let ov ← eval o X.env
      standAt apos.atName
      let (f, first) ← holding [ov] (getMethod ov m pl)
      callWith pos f first (backTo pos (starEach [] X.env)) (backToKw pos (keywordEach [] X.env))) := by rfl) :
    PE X (.Call (.Attribute o m apos) [] [] pos) (tMD M k0 m ta tNil) := by
  subst hM
  refine ⟨fun pins s σ H Q I h => ?_⟩
  refine PySem.W.methodCall_KW (pl := pl) (thn (he.run pins s σ H _ I h) fun u s1 ⟨x, H1, I1, rx, a, C, dx, fs, f, ps, sp, k, ex, ea, l, c, hm, D, hk, q⟩ => ?_) ht
  subst ex
  obtain rfl : u = Value.ref a := rx
  obtain ⟨fd, F, b⟩ := D.ex
  refine getmeth_ok I1 ea c hm l ?_
  exact PySem.W.callWith_K0 (first := [.ref a]) I1.kIn hm.kp (run_fn (us := [.ref a]) (vs := [.ref a]) (dvs := []) F (hr.mono hk) b .nil pass0 I1 (.cons rfl .nil) (by rw [List.append_nil]; exact q))
/-- C.m(o, ..), C a class of one's own: its def m -/
def tCF (M : C5) (k0 : Nat) (c m : Str) (t : TA) : TE := fun σ H Q => ∃ (ps : List Str) (sp : Sp) (k : Nat), M.mg c = some (.ref (ga M.K c)) ∧ (Fx.cfun c m).ok M.K = true ∧ DefOk M k (ma M.K (ga M.K c) m) ps sp ∧ k ≤ k0 ∧ t σ H fun vs H1 => sp vs H1 Q E0
theorem pe_cf {pl : Sem Bool} {c : Str} {q : Pos} (hM : five X = M) (hr : Room k0 X.A) (hg : Gl X c) (ha : PA X (e :: es) t)
    (hst : starEach (e :: es) X.env = (false, eval e X.env) :: starEach es X.env := by rfl) (hpl : (backTo pos (starEach es X.env)).any (·.1) = false := by rfl) (hdb : (c == ("__debug__" : Str)) = false := by decide)
    (ht : eval (.Call (.Attribute (.Name c q) m apos) (e :: es) [] pos) X.env = (do
      let ov ← eval (.Name c q) X.env
      standAt apos.atName
      let (f, first) ← holding [ov] (getMethod ov m pl)
      callWith pos f first (backTo pos (starEach (e :: es) X.env)) (backToKw pos (keywordEach [] X.env))) := by rfl) :
    PE X (.Call (.Attribute (.Name c q) m apos) (e :: es) [] pos) (tCF M k0 c m t) := by
  subst hM
  refine ⟨fun pins s σ H Q I ⟨ps, sp, k, hm, hx, D, hk, h⟩ => ?_⟩
  obtain ⟨fd, F, b⟩ := D.ex
  obtain ⟨x1, x2⟩ := ba (show (PySem.W.readsIn X.K (ga X.K c) (.type "type") && (eqO (PySem.W.specialIn X.K (.ref (ga X.K c)) "__getattribute__") (some (some (.builtin "type.__getattribute__"))) &&
      valIs (PySem.W.findCls X.K (.ref (ga X.K c)) (.type "type") m) (ma X.K (ga X.K c) m))) = true from hx)
  obtain ⟨x2, x3⟩ := ba x2
  have he : PE X (.Name c q) (tC (.ref (ga X.K c))) := pe_glob hg hm rfl (hd := hdb)
  refine PySem.W.methodCall_KW (pl := pl) (thn (he.run pins s σ H (fun v H' => v = .ref (ga X.K c) ∧ H' = H) I ⟨rfl, rfl⟩) fun u s1 ⟨x, H1, I1, rx, ex, eh⟩ => ?_) ht
  subst ex
  subst eh
  obtain rfl : u = Value.ref (ga X.K c) := rx
  refine PySem.W.method_cls I1.kIn (eqO_ok x2) (PySem.W.cls_value I1.kIn x1 (valIs_ok x3) rfl ?_)
  have I2 := I1.tok (s1.toks + 1)
  refine PySem.W.callWith_K (first := []) (h₀ := X.base) I.ok.mod.kin D.kp (thn (ha.run pos pins _ σ H1 _ I2 h) fun us s2 ⟨vs, H2, I3, r, q2⟩ => ⟨I3.kIn, ?_⟩) hst hpl
  exact run_fn (us := us) (vs := vs) (dvs := []) F (hr.mono hk) b .nil pass0 I3 r (by rw [List.append_nil]; exact q2)
/-! ### readings that speak of K, within a comprehension -/
variable {K : PySem.W.Frag}
theorem pe_fldK {f : Str} (hK : X.K = K) (he : PE X e ta) (hb : attributeBase e f X.env (eval e X.env) = eval e X.env) : PE X (.Attribute e f pos) (tFld K ta f) := by
  subst hK; exact pe_fld he hb
theorem opK {f : Value → Value → Sem Value} (r : PySem.W.Frag → R2) (hK : X.K = K) (h : OpR X f (r X.K)) : OpR X f (r K) := by
  subst hK; exact h
theorem ixK (r : PySem.W.Frag → R2) (hK : X.K = K) (h : IxR X (r X.K)) : IxR X (r K) := by
  subst hK; exact h
theorem cbK {f : Value} (r : PySem.W.Frag → List V → Hp → VK → Prop) (hK : X.K = K) (h : CallR X f (r X.K)) : CallR X f (r K) := by
  subst hK; exact h
def rLenQ (K : PySem.W.Frag) : List V → Hp → VK → Prop := fun xs H Q => ∃ p ys, xs = [.ref p] ∧ (SqL K H p ys ∨ SqT K H p ys) ∧ Q (.int ys.length) H
theorem call_lenQ (hK : X.K = K) : CallR X (.builtin "len") (rLenQ K) := by
  subst hK; exact call_len_seq
theorem pg_tupK {es : List Expr} {k : Nat} {t : TGs} {n : Nat} (hK : X.K = K) (hc : X.calm = true) (h : PGs X es t)
    (hn : (assignEach es X.env).length = n := by rfl) (hst : (assignEach es X.env).findIdx? (·.1) = none := by rfl) : PG X (.Tuple es k pos) (gTup K n t) := by
  subst hK; exact pg_tup hc h hn hst
end
end WB
/-! A text in a range: all are compared, none is it. -/
namespace WB
open PySem PySem.Spec PyProof.Rows L2
theorem plain_rng_loop : plainId "range.__contains__.loop" = true := by decide +kernel
theorem entry_rng_loop : entryFor table "range.__contains__.loop" = some Builtin.«range.__contains__.loop» := entryFor_of_fast (by kernel_rfl)
theorem rng_loop (r : Addr) (lo hi : Int) (t u v : Tok) (x : Str) (k : Tok) (m : Nat) : ∀ i : Nat, (Builtin.Range.rangeSize lo hi 1).toNat - i = m →
    Meets (Builtin.«range.__contains__.loop» ⟨[.ref r, .str x k, rawInt i], []⟩)
      (fun _ R s => s.heap.get? r = some { cls := .type "range", dict := none, data := .fields #[.int lo t, .int hi u, .int 1 v], slots := #[] } ∧ ∀ tk, R (.ok (.ret (.bool false))) { s with toks := tk }) := by
  induction m with
  | zero =>
    intro i hk prog w A R s h
    obtain ⟨hp, g, d, tk, os⟩ := s; obtain ⟨hl, h⟩ := h
    wp_walk
    have hi : ((i : Nat) : Int) ≥ Builtin.Range.rangeSize lo hi 1 := by omega
    rw [if_pos hi]
    exact wpAny_pure (h tk)
  | succ m ih =>
    intro i hk prog w A R s h
    obtain ⟨hp, g, d, tk, os⟩ := s; obtain ⟨hl, h⟩ := h
    wp_walk
    have hn : ¬ ((i : Nat) : Int) ≥ Builtin.Range.rangeSize lo hi 1 := by omega
    rw [if_neg hn]
    refine wpAny_bind (wpAny_mkInt (wpAny_bind (SeqAt.EqAt.int_str _ _ _ _ prog w _ _ ?_)))
    have hc : ((i : Int) + 1) = ((i + 1 : Nat) : Int) := by push_cast; rfl
    wp_walk
    rw [hc]
    exact ⟨plainId_quiet plain_rng_loop _, codeAny_builtin entry_rng_loop (by
      rw [Around.under_plainId plain_rng_loop _]
      exact ih (i + 1) (by omega) prog w A R _ ⟨hl, h⟩)⟩
theorem rng_contains_str (r : Addr) (lo hi : Int) (t u v : Tok) (x : Str) (k : Tok) :
    Meets (Builtin.«range.__contains__» ⟨[.ref r, .str x k], []⟩)
      (fun _ R s => s.heap.get? r = some { cls := .type "range", dict := none, data := .fields #[.int lo t, .int hi u, .int 1 v], slots := #[] } ∧ ∀ tk, R (.ok (.ret (.bool false))) { s with toks := tk }) := by
  intro prog w A R s h
  obtain ⟨hp, g, d, tk, os⟩ := s; obtain ⟨hl, h⟩ := h
  wp_walk
  exact ⟨plainId_quiet plain_rng_loop _, codeAny_builtin entry_rng_loop (by
    rw [Around.under_plainId plain_rng_loop _]
    exact rng_loop r lo hi t u v x k _ 0 rfl prog w A R _ ⟨hl, h⟩)⟩
/-- a key (an int, a text) in a range -/
def inR (lo hi : Int) : Key → Bool
  | .inl i => decide (lo ≤ i ∧ i < hi)
  | .inr _ => false
variable {X : Cx}
def rInR : R2 := fun x y H Q => ∃ (k : Key) (a : Addr) (lo hi : Int), x = kV k ∧ y = V.ref a ∧ H a = some (.rng lo hi) ∧ Q (.bl (inR lo hi k)) H
theorem op_in_rngK : OpR X (compareOp .In) rInR := by
  intro pins s σ H x y v u Q I rx ry h
  obtain ⟨k, a, lo, hi, rfl, rfl, ha, q⟩ := h
  obtain ⟨t1, t2, t3, ho⟩ := I.hok a _ ha
  cases k with
  | inl i => exact op_in_rng pins s σ H (.int i) (.ref a) v u Q I rx ry ⟨i, a, lo, hi, rfl, rfl, ha, q⟩
  | inr z =>
    obtain ⟨k, rfl⟩ := (show ∃ t, v = Value.str z t from rx)
    obtain rfl : u = Value.ref a := ry
    show wpAny _ _ (do return Value.bool (← contains (Value.ref a) (Value.str z k))) _ _ s
    refine wpAny_bind (wpAny_contains_slot (T := "range") ⟨_, ho, rfl⟩ F.slot_range_contains (call_meets F.slot_range_contains ⟨_, ho, rfl⟩ F.entry_range_contains (F.args_range_contains_2 _ _) (rng_contains_str a lo hi t1 t2 t3 z k)
      ⟨ho, fun tk => wpAny_truthy_bool (wpAny_pure ⟨.bl false, H, I.tok tk, rfl, q⟩)⟩))
/-- range(n) as a value -/
theorem cr_range1K : CallR X (.type "range") (fun vs H Q => ∃ j, vs = [V.int j] ∧ ∀ p, H p = none → Q (.ref p) (upd H p (.rng 0 j))) := by
  intro pins s σ H vs us Q I r h
  obtain ⟨j, rfl, q⟩ := h
  obtain ⟨u1, rfl, rj⟩ := vals1 r
  obtain ⟨t, rfl⟩ := rj
  refine call_range_1 ⟨.ref s.heap.objs.size, upd H s.heap.objs.size (.rng 0 j), I.laid (t' := s.toks + 1 + 1) (fun b o e => Heap.get?_push_of_some _ e) (Nat.le_refl _) ?_, rfl, q _ (I.hok.fresh (Nat.le_refl _))⟩
  exact ⟨s.toks, t, s.toks + 1, Heap.get?_push_size _ rfl⟩
end WB
/-! sorted(d) of a dict whose keys are ints, of any length. -/
namespace WB
open PySem PySem.Spec PyProof.Rows L2
variable {X : Cx}
def rSortD : List V → Hp → VK → Prop := fun xs H Q => ∃ (a : Addr) (kvs : List (Key × V)) (ks : List Int), xs = [.ref a] ∧ Rd H a (.dK kvs) ∧ kvs.map (·.1) = ks.map Sum.inl ∧
  ∀ (ys : List Int) (p : Addr), ys.Perm ks → ys.Pairwise (· ≤ ·) → H p = none → Q (.ref p) (upd H p (.lst (ys.map V.int)))
theorem cr_sortD (hcalm : X.calm = true) : CallR X (.builtin "sorted") rSortD := by
  rintro pins s σ H xs us Q I r ⟨a, kvs, ks, rfl, hd, hks, q⟩
  obtain ⟨u0, rfl, r0⟩ := vals1 r
  cases r0
  obtain ⟨hz, lo, vs, rel, dd⟩ := dk_rd I.hok hd
  obtain ⟨ep, hat⟩ := dd.dictAt
  have kk : vs.map (·.1) = ks.map Sum.inl := rel.keys.symm.trans hks
  have ln : vs.length = ks.length := by
    simpa using congrArg List.length kk
  have ln2 : kvs.length = ks.length := by
    simpa using congrArg List.length hks
  have hz2 : vs.length ≤ sizeLine := by rw [ln, ← ln2]; exact hz
  refine Calls.call_function_entry kind_sorted plain_sorted entry_sorted (args_sorted1 _) ?_
  unfold Builtin.«sorted»
  refine wpAny_bind (m := checkCount "sorted" 1 1 _) (wpAny_pure ?_)
  refine wpAny_bind (PySem.W.kdu_collect (A := X.A.in1) (PySem.W.kdl_dict (knd := mixKind X.prog X.w) (kvs := vs) (ep := ep) lo) (I.ok.hd hcalm) hat hz2 fun h1 tk acc hk ha => ?_)
  have la : acc.toList.length = ks.length := by rw [Array.length_toList, ha.1, ln]
  have hS : IntsAre acc.toList ks := ints_each la fun j v e => by
    obtain ⟨k, x, g1, g2⟩ := ha.2 j v (by rw [← Array.getElem?_toList]; exact e)
    have g3 : (vs.map (·.1))[j]? = some k := by rw [List.getElem?_map, g1]; rfl
    rw [kk, List.getElem?_map] at g3
    obtain ⟨y, hy, ey⟩ := Option.map_eq_some_iff.mp g3
    subst ey
    rcases keyIs_shape (show keyIs (Sum.inl y) v = true from g2) with ⟨i, t, ek, ev⟩ | ⟨z, t, ek, ev⟩
    · cases ek
      exact ⟨y, t, hy, ev⟩
    · cases ek
  have I1 : Inv X pins σ H { s with heap := h1, toks := tk } := I.kept hk
  have la2 : acc.toList.length ≤ sizeLine := by rw [la, ← ln2]; exact hz
  refine wpAny_bind (wpAny_newList ?_ la2)
  have hoL : (h1.push (seqObj "list" acc.toList.toArray 0)).get? h1.objs.size = some (seqObj "list" acc.toList.toArray 0) := Heap.get?_push_size _ rfl
  show wpAny _ _ _ _ _ { s with heap := h1.push (seqObj "list" acc.toList.toArray 0), toks := tk }
  refine wpAny_bind (wpAny_holding (wpAny_call_entry slot_list_sort ⟨_, hoL, rfl⟩ entry_list_sort
    (SrtO.list_sort_ord (s := { s with heap := h1.push (seqObj "list" acc.toList.toArray 0), toks := tk }) SrtO.swo_int hoL la2 (fun h2 => SrtO.ints_sortable hS h2) fun out e1 e2 => ⟨_, rfl, ?_⟩) (args_list_sort _)))
  obtain ⟨k1, k2, k3⟩ := SrtO.ints_out hS e1 e2
  obtain ⟨e', he'⟩ := sortedHeap_at (vs := acc.toList) (out := out.toArray) hoL
  have lo2 : ((out.map SrtO.iv).map V.int).length ≤ sizeLine := by
    rw [List.length_map, k2.length_eq, ← ln2]; exact hz
  refine wpAny_pure ⟨_, rfl, .ref h1.objs.size, upd H h1.objs.size (.lst ((out.map SrtO.iv).map V.int)), I1.laid (t' := tk) (fun b u e => ?_) (Nat.le_refl _)
    (show ObjOk X.prog X.w _ _ _ (.lst ((out.map SrtO.iv).map V.int)) from ⟨lo2, out, e', vals_of_ints k1, he'⟩), rfl, q _ _ k2 k3 (I1.hok.fresh (Nat.le_refl _))⟩
  have hlt : b < h1.objs.size := Heap.lt_size e
  rw [sortedHeap_old (Nat.ne_of_lt hlt) (by rw [size_push']; exact Nat.lt_succ_of_lt hlt)]
  exact Heap.get?_push_of_some _ e
end WB
/-! The state of a program, and how a heap bears it. An abstract value is a V, too: .ref k is the thing of number k. -/
namespace WB
open PySem PySem.Spec PyProof.Rows L2 He
/-! ### heaps -/
/-- all that stood stands, but what O owns -/
def Stp (O : List Addr) (H H' : Hp) : Prop := ∀ a o, H a = some o → a ∉ O → H' a = some o
theorem Stp.refl (O : List Addr) (H : Hp) : Stp O H H := fun _ _ e _ => e
theorem Stp.of_same {O : List Addr} {H H' : Hp} (s : Same H H') : Stp O H H' := fun a o e _ => s a o e
theorem Stp.mono {O O' : List Addr} {H H' : Hp} (s : Stp O H H') (h : ∀ a ∈ O, a ∈ O') : Stp O' H H' := fun a o e n => s a o e fun m => n (h a m)
/-- what O' owns is O's or new -/
def Frs (O O' : List Addr) (H : Hp) : Prop := ∀ a ∈ O', a ∈ O ∨ H a = none
theorem Frs.refl (O : List Addr) (H : Hp) : Frs O O H := fun _ h => .inl h
theorem Stp.trans {O O' : List Addr} {H H1 H2 : Hp} (s : Stp O H H1) (f : Frs O O' H) (t : Stp O' H1 H2) : Stp O H H2 := fun a o e n =>
  t a o (s a o e n) fun m => (f a m).elim n fun z => by rw [e] at z; cases z
theorem Stp.trans' {O : List Addr} {H H1 H2 : Hp} (s : Stp O H H1) (t : Stp O H1 H2) : Stp O H H2 := s.trans (Frs.refl O H) t
theorem Frs.trans {O O1 O2 : List Addr} {H H1 : Hp} (f : Frs O O1 H) (s : Stp O H H1) (g : Frs O1 O2 H1) : Frs O O2 H := fun a m =>
  (g a m).elim (f a) fun z => by
    by_cases h : a ∈ O
    · exact .inl h
    · cases e : H a with
      | none => exact .inr rfl
      | some o => rw [s a o e h] at z; cases z
theorem Stp.upd {O : List Addr} {H : Hp} {a : Addr} {o : HO} (h : a ∈ O ∨ H a = none) : Stp O H (upd H a o) := fun b u e n => by
  have : b ≠ a := by
    rintro rfl
    exact h.elim n fun z => by rw [e] at z; cases z
  rw [upd_ne this]; exact e
theorem same_new {H : Hp} {p : Addr} {o : HO} (h : H p = none) : Same H (upd H p o) := fun b u e => by
  rw [upd_ne (ne_of_none e h)]; exact e
theorem same_mut {H H' : Hp} {p : Addr} {o : HO} (s : Same H H') (h : H p = none) : Same H (upd H' p o) := fun b u e => by
  rw [upd_ne (ne_of_none e h)]; exact s b u e
/-! ### values -/
def VR (H : Hp) : V → V → Prop
  | v, .ref k => ∃ a, v = .ref a ∧ H a = some (.tup [.str "thing", .int (k : Int)])
  | v, .non => v = .non
  | v, .int i => v = .int i
  | _, _ => False
/-- what never changes -/
def still : HO → Bool
  | .tup _ => true
  | .ext _ => true
  | _ => false
/-- tuples stay, and what is told by a word of its own -/
structure Tup (H H' : Hp) : Prop where
  tup : ∀ a xs, H a = some (.tup xs) → H' a = some (.tup xs)
  ext : ∀ a φ, H a = some (.ext φ) → H' a = some (.ext φ)
instance {H H' : Hp} : CoeFun (Tup H H') (fun _ => ∀ a xs, H a = some (.tup xs) → H' a = some (.tup xs)) := ⟨Tup.tup⟩
theorem Tup.refl (H : Hp) : Tup H H := ⟨fun _ _ e => e, fun _ _ e => e⟩
theorem Same.tup {H H' : Hp} (s : Same H H') : Tup H H' := ⟨fun a _ e => s a _ e, fun a _ e => s a _ e⟩
theorem Tup.trans {H H1 H2 : Hp} (a : Tup H H1) (b : Tup H1 H2) : Tup H H2 := ⟨fun p xs e => b.tup p xs (a.tup p xs e), fun p xs e => b.ext p xs (a.ext p xs e)⟩
theorem VR.mono {H H' : Hp} (s : Tup H H') {v x : V} (h : VR H v x) : VR H' v x := by
  cases x <;> first | exact h | skip
  obtain ⟨a, e1, e2⟩ := h
  exact ⟨a, e1, s _ _ e2⟩
theorem VR.non {H : Hp} : VR H .non .non := rfl
theorem VR.int {H : Hp} (i : Int) : VR H (.int i) (.int i) := rfl
theorem VR.thing {H : Hp} {a : Addr} {k : Nat} (e : H a = some (.tup [.str "thing", .int (k : Int)])) : VR H (.ref a) (.ref k) := ⟨a, rfl, e⟩
/-- what an abstract value is -/
theorem VR.cases {H : Hp} {v x : V} (h : VR H v x) : (v = .non ∧ x = .non) ∨ (∃ i, v = .int i ∧ x = .int i) ∨ ∃ a k, v = .ref a ∧ x = .ref k ∧ H a = some (.tup [.str "thing", .int (k : Int)]) := by
  cases x with
  | non => exact .inl ⟨h, rfl⟩
  | int i => exact .inr (.inl ⟨i, h, rfl⟩)
  | ref k => obtain ⟨a, e1, e2⟩ := h; exact .inr (.inr ⟨a, k, e1, rfl, e2⟩)
  | _ => exact h.elim
abbrev LVR (H : Hp) : List V → List V → Prop := Paired (VR H)
abbrev KVR (H : Hp) : List (Key × V) → List (Key × V) → Prop := Paired fun p q => p.1 = q.1 ∧ VR H p.2 q.2
theorem Paired.imp {α β : Type} {R S : α → β → Prop} (h : ∀ a b, R a b → S a b) : ∀ {xs : List α} {ys : List β}, Paired R xs ys → Paired S xs ys
  | _, _, .nil => .nil
  | _, _, .cons r t => .cons (h _ _ r) (Paired.imp h t)
theorem Paired.app {α β : Type} {R : α → β → Prop} : ∀ {xs xs' : List α} {ys ys' : List β}, Paired R xs ys → Paired R xs' ys' → Paired R (xs ++ xs') (ys ++ ys')
  | _, _, _, _, .nil, h => h
  | _, _, _, _, .cons r t, h => .cons r (Paired.app t h)
theorem Paired.at {α β : Type} {R : α → β → Prop} : ∀ {xs : List α} {ys : List β} (i : Nat), Paired R xs ys → (xs[i]? = none ∧ ys[i]? = none) ∨ ∃ x y, xs[i]? = some x ∧ ys[i]? = some y ∧ R x y
  | _, _, _, .nil => .inl ⟨by simp, by simp⟩
  | _, _, 0, .cons r _ => .inr ⟨_, _, rfl, rfl, r⟩
  | _, _, i + 1, .cons _ t => by simpa using Paired.at i t
theorem Paired.setP {α β : Type} {R : α → β → Prop} {x : α} {y : β} (h : R x y) : ∀ {xs : List α} {ys : List β} (i : Nat), Paired R xs ys → Paired R (xs.set i x) (ys.set i y)
  | _, _, _, .nil => .nil
  | _, _, 0, .cons _ t => .cons h t
  | _, _, i + 1, .cons r t => .cons r (Paired.setP h i t)
theorem Paired.erase {α β : Type} {R : α → β → Prop} : ∀ {xs : List α} {ys : List β} (i : Nat), Paired R xs ys → Paired R (xs.eraseIdx i) (ys.eraseIdx i)
  | _, _, _, .nil => .nil
  | _, _, 0, .cons _ t => t
  | _, _, i + 1, .cons r t => .cons r (Paired.erase i t)
theorem LVR.mono {H H' : Hp} (s : Tup H H') {xs ys : List V} (h : LVR H xs ys) : LVR H' xs ys := Paired.imp (fun _ _ r => VR.mono s r) h
theorem KVR.mono {H H' : Hp} (s : Tup H H') {xs ys : List (Key × V)} (h : KVR H xs ys) : KVR H' xs ys := Paired.imp (fun _ _ r => ⟨r.1, VR.mono s r.2⟩) h
theorem KVR.keys {H : Hp} : ∀ {xs ys : List (Key × V)}, KVR H xs ys → xs.map (·.1) = ys.map (·.1)
  | _, _, .nil => rfl
  | _, _, .cons r t => by rw [List.map_cons, List.map_cons, r.1, KVR.keys t]
theorem KVR.val {H : Hp} (k : Key) : ∀ {xs ys : List (Key × V)}, KVR H xs ys → (valV xs k = none ∧ valV ys k = none) ∨ ∃ v x, valV xs k = some v ∧ valV ys k = some x ∧ VR H v x
  | _, _, .nil => .inl ⟨rfl, rfl⟩
  | p :: xs, q :: ys, .cons r t => by
    by_cases e : q.1 = k
    · exact .inr ⟨p.2, q.2, valV_pos (r.1.trans e), valV_pos e, r.2⟩
    · rw [valV_neg (by rw [r.1]; exact e), valV_neg e]
      exact KVR.val k t
theorem KVR.val_some {H : Hp} {k : Key} {xs ys : List (Key × V)} {x : V} (h : KVR H xs ys) (e : valV ys k = some x) : ∃ v, valV xs k = some v ∧ VR H v x := by
  rcases h.val k with ⟨_, z⟩ | ⟨v, y, h1, h2, r⟩
  · rw [e] at z; cases z
  · rw [e] at h2; cases h2; exact ⟨v, h1, r⟩
theorem KVR.val_none {H : Hp} {k : Key} {xs ys : List (Key × V)} (h : KVR H xs ys) (e : valV ys k = none) : valV xs k = none := by
  rcases h.val k with ⟨z, _⟩ | ⟨v, y, h1, h2, r⟩
  · exact z
  · rw [e] at h2; cases h2
theorem KVR.any {H : Hp} (k : Key) {xs ys : List (Key × V)} (h : KVR H xs ys) : (valV xs k).isSome = (valV ys k).isSome := by
  rcases h.val k with ⟨a, b⟩ | ⟨v, y, a, b, _⟩ <;> rw [a, b]
  rfl
theorem KVR.put {H : Hp} {k : Key} {v x : V} (r : VR H v x) {xs ys : List (Key × V)} (h : KVR H xs ys) : KVR H (putK xs k v) (putK ys k x) := by
  unfold putK
  rw [valV_any, valV_any, h.any k]
  by_cases q : (valV ys k).isSome = true
  · rw [if_pos q, if_pos q]
    clear q
    induction h with
    | nil => exact .nil
    | cons r1 t ih =>
      rename_i p q _ _
      refine .cons ?_ ih
      dsimp only
      by_cases e : q.1 = k
      · rw [if_pos e, if_pos (by rw [r1.1]; exact e)]
        exact ⟨r1.1, r⟩
      · rw [if_neg e, if_neg (by rw [r1.1]; exact e)]
        exact r1
  · rw [if_neg q, if_neg q]
    exact Paired.app h (.cons ⟨rfl, r⟩ .nil)
theorem KVR.drop {H : Hp} {k : Key} {xs ys : List (Key × V)} (h : KVR H xs ys) : KVR H (dropK xs k) (dropK ys k) := by
  unfold dropK
  induction h with
  | nil => exact .nil
  | cons r t ih =>
    rename_i p q _ _
    by_cases e : q.1 = k
    · rw [List.filter_cons_of_neg (by simp [r.1, e]), List.filter_cons_of_neg (by simp [e])]
      exact ih
    · rw [List.filter_cons_of_pos (by simp [r.1, e]), List.filter_cons_of_pos (by simp [e])]
      exact .cons r ih
theorem putK_keys {ys : List (Key × V)} {k : Key} {x : V} (h : k ∈ ys.map (·.1)) : (putK ys k x).map (·.1) = ys.map (·.1) := by
  unfold putK
  have q : (ys.any fun kv => decide (kv.1 = k)) = true := by
    obtain ⟨p, hp, e⟩ := List.mem_map.mp h
    exact List.any_eq_true.mpr ⟨p, hp, decide_eq_true e⟩
  rw [if_pos q, List.map_map]
  apply List.map_congr_left
  intro p _
  show (if p.1 = k then (p.1, x) else p).1 = p.1
  split <;> rfl
/-! ### things -/
inductive Body where
  /-- a record (r) or a book: entries in their dict's order -/
  | dic (r : Bool) (kvs : List (Key × V))
  | row (xs : List V)
  | wat (sees : Nat) (gone : Bool)
inductive Lst where
  | no | due | done
  deriving DecidableEq
structure Th where
  body : Body
  last : Lst
  goal : V
def Body.kind : Body → Str
  | .dic true _ => "record"
  | .dic false _ => "book"
  | .row _ => "row"
  | .wat _ _ => "watch"
def Body.cls : Body → Str
  | .dic true _ => "Record"
  | .dic false _ => "Book"
  | .row _ => "Row"
  | .wat _ _ => "Watch"
/-- its parts, rising; what a watch sees is no part -/
def letK : List Key := [.inr "a", .inr "b", .inr "c", .inr "d"]
def nmS : List Str := ["p", "q", "r", "s", "t", "u", "v", "w"]
def nmK : List Key := nmS.map Sum.inr
structure Sta where
  names : List (Key × V)
  made : Nat
  th : Nat → Th
def Sta.setName (S : Sta) (x : Str) (v : V) : Sta := { S with names := putK S.names (.inr x) v }
def Sta.setTh (S : Sta) (k : Nat) (t : Th) : Sta := { S with th := fun j => if j = k then t else S.th j }
def Sta.look (S : Sta) (x : Str) : V := (valV S.names (.inr x)).getD .non
end WB
/-! list(enumerate(xs)) of a list: a new list of new pairs. -/
namespace WB
open PySem PySem.Calls PyProof.Rows PyProof.V PySem.Spec L2 He PySem.W
def enK {α : Type} : Nat → List α → List (Key × α)
  | _, [] => []
  | i, x :: r => (Sum.inl (i : Int), x) :: enK (i + 1) r
theorem enK_len {α : Type} : ∀ (xs : List α) (a : Nat), (enK a xs).length = xs.length
  | [], _ => rfl
  | _ :: r, a => congrArg (· + 1) (enK_len r (a + 1))
theorem enK_get {α : Type} : ∀ (xs : List α) (a i : Nat) {x : α}, xs[i]? = some x → (enK a xs)[i]? = some (Sum.inl ((a + i : Nat) : Int), x)
  | [], _, _, _, h => by cases h
  | _ :: _, _, 0, _, h => by cases Option.some.inj h; rfl
  | _ :: r, a, i + 1, x, h => by
    have q := enK_get r (a + 1) i (x := x) h
    rw [show a + 1 + i = a + (i + 1) from by omega] at q
    exact q
theorem enK_rel : ∀ (xs : List V) (us : List Value) (a : Nat), Vals xs us → KV (enK a xs) (enK a us)
  | _, _, _, .nil => .nil
  | _, _, a, .cons r t => .cons ⟨rfl, r⟩ (enK_rel _ _ (a + 1) t)
theorem enK_zip : ∀ (xs : List V) (a : Nat), enK a xs = (xs.zipIdx a).map fun p => ((Sum.inl (p.2 : Int) : Key), p.1)
  | [], _ => rfl
  | _ :: r, a => by rw [List.zipIdx_cons, List.map_cons, ← enK_zip r (a + 1)]; rfl
def EnS (h : Heap) (e it l S : Addr) (i : Nat) (items : Array Value) : Prop :=
  h.IsListIter it l i ∧ h.IsList l items ∧ ((∃ old, IsEnum h e it (i : Int) old) ∨ ∃ old T f oT, IsEnumHeld h e it (i : Int) old T f ∧ h.get? T = some oT ∧ T ≠ e ∧ T ≠ it ∧ T ≠ S)
theorem EnS.keep {h h' : Heap} {e it l S : Addr} {i : Nat} {items : Array Value} (x : EnS h e it l S i items) (hk : ∀ b o, b ≠ S → h.get? b = some o → h'.get? b = some o) (he : e ≠ S) (hi : it ≠ S) (hl : l ≠ S) : EnS h' e it l S i items := by
  obtain ⟨a, b, c⟩ := x
  refine ⟨a.at fun o q => hk _ o hi q, b.at fun o q => hk _ o hl q, ?_⟩
  rcases c with ⟨old, q⟩ | ⟨old, T, f, oT, q, hT, r1, r2, r3⟩
  · exact .inl ⟨old, hk _ _ he q⟩
  · exact .inr ⟨old, T, f, oT, hk _ _ he q, hk _ _ r3 hT, r1, r2, r3⟩
section
variable {prog : Program} {w : World} {A : Around} {E : Value → Shared → Prop} {s : Shared}
theorem en_item {e it l S : Addr} {i : Nat} {items : Array Value} {x : Value} {Q : Option Value → Shared → Prop} (hst : EnS s.heap e it l S i items) (hS : S < s.heap.objs.size) (hx : items[i]? = some x) (hei : e ≠ it) (hle : l ≠ e) (hli : l ≠ it)
    (hQ : ∀ t h', EnS h' e it l S (i + 1) items → h'.get? s.heap.objs.size = some { cls := .type "tuple", data := .seq #[.int i t, x] } → h'.objs.size = s.heap.objs.size + 1 → (∀ b o, b ≠ e → b ≠ it → s.heap.get? b = some o → h'.get? b = some o) → Q (some (.ref s.heap.objs.size)) { s with heap := h', toks := s.toks + 1 }) :
    wpAny (model prog w) A (pyNext (.ref e)) Q E s := by
  obtain ⟨hit, hl, he⟩ := hst
  have ec : ((i + 1 : Nat) : Int) = (i : Int) + 1 := by omega
  have nit : s.heap.objs.size ≠ it := let ⟨_, x, _⟩ := hit; Nat.ne_of_gt (Heap.lt_size x)
  rcases he with ⟨old, he⟩ | ⟨old, T, f, oT, he, hT, r1, r2, r3⟩
  · refine wpAny_pyNext_enum_item he hit hl hx hei fun h' ho hit' hT hsz hk => ?_
    exact hQ _ h' ⟨hit', hl.at fun o x => hk l o hle hli x, .inr ⟨_, s.heap.objs.size, false, _, (by rw [ec]; exact ho), hT, Nat.ne_of_gt (Heap.lt_size he), nit, Nat.ne_of_gt hS⟩⟩ hT hsz hk
  · refine wpAny_pyNext_enum_item_held he hT r1 r2 hit hl hx hei fun h' ho hit' hT' hsz hk => ?_
    exact hQ _ h' ⟨hit', hl.at fun o x => hk l o hle hli x, .inr ⟨old, T, true, oT, (by rw [ec]; exact ho), hk _ _ r1 r2 hT, r1, r2, r3⟩⟩ hT' hsz hk
theorem en_done {e it l S : Addr} {i : Nat} {items : Array Value} {Q : Option Value → Shared → Prop} (hh : A.handled = none) (hst : EnS s.heap e it l S i items) (hx : items[i]? = none)
    (hQ : ∀ h', Heap.ExtBut it s.heap h' → Q none { s with heap := h' }) : wpAny (model prog w) A (pyNext (.ref e)) Q E s := by
  obtain ⟨hit, hl, he⟩ := hst
  rcases he with ⟨old, he⟩ | ⟨old, T, f, oT, he, hT, r1, r2, r3⟩
  · exact wpAny_pyNext_enum_end hh he hit hl hx hQ
  · exact wpAny_pyNext_enum_end_held hh he hit hl hx hQ
end
section
variable {prog : Program} {w : World} {A : Around} {s : Shared} {R : Result → Shared → Prop} {items : Array Value}
theorem en_loop {S e it l : Addr} (hh : A.handled = none) (hSe : e < S) (hSi : it < S) (hSl : l ≠ S) (hei : e ≠ it) (hle : l ≠ e) (hli : l ≠ it) (hn : items.size ≤ sizeLine) (res : Value) {h₁ : Heap}
    (hR : ∀ h' tk acc c as, (∀ b o, b ≠ S → b ≠ e → b ≠ it → h₁.get? b = some o → h'.get? b = some o) → h'.get? S = some { cls := .type "list", dict := none, data := .seq acc c, slots := #[] } → as.length = items.size → KdxG (mixKind prog w) (enK 0 items.toList) S h' as →
      acc.toList = as.map Value.ref → R (.ok (.ret res)) { s with heap := h', toks := tk }) :
    ∀ (k i : Nat) (h : Heap) (tk c : Nat) (acc : Array Value) (as : List Addr), items.size - i = k → i ≤ items.size → EnS h e it l S i items → (∀ b o, b ≠ S → b ≠ e → b ≠ it → h₁.get? b = some o → h.get? b = some o) →
      h.get? S = some { cls := .type "list", dict := none, data := .seq acc c, slots := #[] } → acc.toList = as.map Value.ref → as.length = i → KdxG (mixKind prog w) (enK 0 items.toList) S h as → S < h.objs.size →
      codeAny (model prog w) A (.builtin "list.extend.loop" ⟨[.ref S, .ref e, res], []⟩) R { s with heap := h, toks := tk } := by
  have hneE : S ≠ e := Nat.ne_of_gt hSe
  have hneI : S ≠ it := Nat.ne_of_gt hSi
  intro k
  induction k with
  | zero =>
    intro i h tk c acc as hk hi hst hkeep hS hacc hal hG hIs
    have hin : i = items.size := by omega
    refine codeAny_builtin PySem.F.entry_extend_loop ?_
    rw [Around.under_plainId PySem.F.plain_extend_loop _]
    show wpAny _ A.in1 (pyNext (.ref e) >>= _) _ _ _
    refine wpAny_bind (en_done (s := { s with heap := h, toks := tk }) (A := A.in1) hh hst (Array.getElem?_eq_none (by omega)) fun h' he => ?_)
    refine wpAny_pure (hR h' tk acc c as (fun b o h1 h2 h3 q => he b o h3 (hkeep b o h1 h2 h3 q)) (he S _ hneI hS) (by omega) ⟨hG.rise, hG.above, fun j a hj => ?_⟩ hacc)
    obtain ⟨key, kk, x, e1, e2, e3⟩ := hG.pairs j a hj
    have ha := hG.above a (List.mem_of_getElem? hj)
    exact ⟨key, kk, x, e1, e2, he a _ (Nat.ne_of_gt (Nat.lt_trans hSi ha)) e3⟩
  | succ k ih =>
    intro i h tk c acc as hk hi hst hkeep hS hacc hal hG hIs
    have hlt : i < items.size := by omega
    have hx := Array.getElem?_eq_getElem hlt
    have hsz : acc.size = i := by rw [← Array.length_toList, hacc, List.length_map, hal]
    have hSl' : S < h.objs.size := Heap.lt_size hS
    refine codeAny_builtin PySem.F.entry_extend_loop ?_
    rw [Around.under_plainId PySem.F.plain_extend_loop _]
    show wpAny _ A.in1 (pyNext (.ref e) >>= _) _ _ _
    refine wpAny_bind (en_item (s := { s with heap := h, toks := tk }) (S := S) hst hSl' hx hei hle hli fun t h' hst' ht hz hkp => ?_)
    dsimp only at ht hz hkp ⊢
    have hS' := hkp S _ hneE hneI hS
    have up : ∀ b o, b ≠ S → h'.get? b = some o → (h'.update S (Obj.mapSeq (·.push (Value.ref h.objs.size)))).get? b = some o := fun b o hb e => (Heap.get?_update_other _ _ (Ne.symm hb)).trans e
    show wpAny _ A.in1 (updateSeq S (·.push (Value.ref h.objs.size)) >>= _) _ _ _
    refine wpAny_bind ?_
    refine wpAny_updateSeq hS' rfl (wpAny_pure ⟨plainId_quiet PySem.F.plain_extend_loop _, ih (i + 1) _ _ _ (acc.push (Value.ref h.objs.size)) (as ++ [h.objs.size]) (by omega) hlt (hst'.keep up (Ne.symm hneE) (Ne.symm hneI) hSl)
      (fun b o h1 h2 h3 q => up b o h1 (hkp b o h2 h3 (hkeep b o h1 h2 h3 q))) (Heap.get?_update_self _ hS' rfl) (by rw [Array.toList_push, hacc, List.map_append]; rfl) (by rw [List.length_append, hal]; rfl) ⟨?_, ?_, ?_⟩ ?_⟩) (by rw [hsz]; omega) (by show (acc.push (Value.ref h.objs.size)).size ≤ sizeLine + 1; rw [Array.size_push, hsz]; omega)
    · refine List.pairwise_append.mpr ⟨hG.rise, List.pairwise_singleton _ _, fun a ha b hb => ?_⟩
      rw [List.mem_singleton.mp hb]
      exact hG.there ha
    · intro a ha
      rcases List.mem_append.mp ha with ha | ha
      · exact hG.above a ha
      · rw [List.mem_singleton.mp ha]; exact hIs
    · intro j b hj
      rcases Nat.lt_trichotomy j as.length with h1 | h1 | h1
      · rw [List.getElem?_append_left h1] at hj
        obtain ⟨key', k', x', e1, e2, e3⟩ := hG.pairs j b hj
        have hb := hG.above b (List.mem_of_getElem? hj)
        exact ⟨key', k', x', e1, e2, up b _ (Nat.ne_of_gt hb) (hkp b _ (Nat.ne_of_gt (Nat.lt_trans hSe hb)) (Nat.ne_of_gt (Nat.lt_trans hSi hb)) e3)⟩
      · subst h1
        have hb : h.objs.size = b := by simpa using hj
        subst hb
        have g := enK_get items.toList 0 i (x := items[i]) (by rw [Array.getElem?_toList]; exact hx)
        rw [Nat.zero_add] at g
        exact ⟨.int i t, Sum.inl (i : Int), items[i], by rw [hal]; exact g, (show keyIs (Sum.inl (i : Int)) (Value.int i t) = true from decide_eq_true rfl), up _ _ (Nat.ne_of_gt hSl') ht⟩
      · have hnone : (as ++ [h.objs.size])[j]? = none := List.getElem?_eq_none (by rw [List.length_append, List.length_singleton]; omega)
        rw [hnone] at hj; cases hj
    · have q : (h'.update S (Obj.mapSeq (·.push (Value.ref h.objs.size)))).get? h.objs.size = _ := up _ _ (Nat.ne_of_gt hSl') ht
      exact Nat.lt_trans hIs (Heap.lt_size q)
end
theorem en_nolen : typeLookup (.type "enumerate") "__len__" = pure none := am_miss_of_fast (by decide +kernel)
theorem en_nohint : typeLookup (.type "enumerate") "__length_hint__" = pure none := am_miss_of_fast (by decide +kernel)
section
variable {prog : Program} {w : World} {A : Around} {E : Value → Shared → Prop} {s : Shared} {e it l : Addr} {items : Array Value}
theorem en_hint (hT : s.TypeIs (.ref e) "enumerate") {Q : Bool → Shared → Prop} (h : Q true s) : wpAny (model prog w) A (Builtin.List.listLengthHint (.ref e)) Q E s := by
  unfold Builtin.List.listLengthHint
  refine wpAny_bind (wpAny_specialOf hT en_nolen ?_)
  refine wpAny_ite_split (fun hab => absurd hab (by decide)) (fun _ => ?_)
  refine wpAny_ite_split (fun hab => absurd hab (by decide)) (fun _ => ?_)
  refine wpAny_bind (wpAny_specialOf hT en_nohint ?_)
  exact wpAny_pure h
theorem en_extend {R : Result → Shared → Prop} (hh : A.handled = none) {old : Value} (he : IsEnum s.heap e it 0 old) (hit : s.heap.IsListIter it l 0) (hl : s.heap.IsList l items) (hei : e ≠ it) (hle : l ≠ e) (hli : l ≠ it) (S : Addr) (hSe : e < S) (hSi : it < S) (hSl : l ≠ S) (res : Value) (c₀ : Nat) (hS : s.heap.get? S = some { cls := .type "list", data := .seq #[] c₀ })
    (hR : ∀ h' tk acc c as, (∀ b o, b ≠ S → b ≠ e → b ≠ it → s.heap.get? b = some o → h'.get? b = some o) → h'.get? S = some { cls := .type "list", dict := none, data := .seq acc c, slots := #[] } → as.length = items.size → KdxG (mixKind prog w) (enK 0 items.toList) S h' as →
      acc.toList = as.map Value.ref → R (.ok (.ret res)) { s with heap := h', toks := tk }) (hn : items.size ≤ sizeLine) :
    wpAny (model prog w) A.in1 (Builtin.List.listExtendWith (.ref S) (.ref e) res)
      (fun fin s' => match fin with | .done f => R (.ok f) s' | .again c' => c'.quiet = true ∧ codeAny (model prog w) A c' R s') (fun e s' => R (.error e) s') s := by
  have key : ∀ (h : Heap) (c₁ tk : Nat), (∀ b o, b ≠ S → s.heap.get? b = some o → h.get? b = some o) → h.get? S = some { cls := .type "list", data := .seq #[] c₁ } →
      codeAny (model prog w) A (.builtin "list.extend.loop" ⟨[.ref S, .ref e, res], []⟩) R { s with heap := h, toks := tk } := by
    intro h c₁ tk hk hS₁
    exact en_loop (s := s) (h₁ := s.heap) hh hSe hSi hSl hei hle hli hn res (fun h' tk' acc c as hk' hS' hl' hG hacc => hR h' tk' acc c as hk' hS' hl' hG hacc)
      items.size 0 h tk c₁ #[] [] (Nat.sub_zero _) (Nat.zero_le _) (EnS.keep ⟨hit, hl, .inl ⟨old, he⟩⟩ hk (Nat.ne_of_lt hSe) (Nat.ne_of_lt hSi) hSl) (fun b o hb _ _ q => hk b o hb q) hS₁ rfl rfl
      ⟨List.Pairwise.nil, (fun _ ha => nomatch ha), (fun j a hj => by simp at hj)⟩ (Heap.lt_size hS₁)
  have hT : s.TypeIs (.ref e) "enumerate" := ⟨_, he, rfl⟩
  unfold Builtin.List.listExtendWith
  refine wpAny_bind (wpAny_typeOf (T := "enumerate") hT ?_)
  have h1 : Builtin.List.listSameRef (.ref S) (.ref e) = false := by simp [Builtin.List.listSameRef, Nat.ne_of_gt hSe]
  have h2 : (Value.type "enumerate" == Value.type "list") = false := by decide
  have h3 : (Value.type "enumerate" == Value.type "tuple") = false := by decide
  simp only [h1, h2, h3, Bool.or_false, Bool.false_eq_true, if_false]
  refine wpAny_bind (wpAny_pyIter_enum he ?_)
  refine wpAny_bind (wpAny_holding (en_hint hT ?_))
  refine wpAny_ite_split (fun _ => ?_) (fun _ => wpAny_pure ⟨plainId_quiet PySem.F.plain_extend_loop _, key _ c₀ _ (fun b o _ e => e) hS⟩)
  refine wpAny_bind (wpAny_rule ?_)
  refine wpAny_bind ?_
  show wpAny _ _ (updateSeq S (·.push .none) >>= fun _ => updateSeq S (·.pop)) _ _ _
  refine wpAny_bind (wpAny_updateSeq hS rfl ?_)
  have hS₂ := Heap.get?_update_self (Obj.mapSeq (·.push Value.none)) hS rfl
  refine wpAny_updateSeq (hz := by seq_fits) hS₂ rfl ?_
  have hS₃ := Heap.get?_update_self (Obj.mapSeq (·.pop)) hS₂ rfl
  refine wpAny_pure ⟨plainId_quiet PySem.F.plain_extend_loop _, key _ _ _ (fun b o hb e => ?_) hS₃⟩
  exact (Heap.get?_update_other _ _ (Ne.symm hb)).trans ((Heap.get?_update_other _ _ (Ne.symm hb)).trans e)
theorem en_init {R : Result → Shared → Prop} (hh : A.handled = none) {old : Value} (he : IsEnum s.heap e it 0 old) (hit : s.heap.IsListIter it l 0) (hl : s.heap.IsList l items) (hei : e ≠ it) (hle : l ≠ e) (hli : l ≠ it) (S : Addr) (hSe : e < S) (hSi : it < S) (hSl : l ≠ S) (hS : s.heap.get? S = some { cls := .type "list", data := .seq #[] })
    (hR : ∀ h' tk acc c as, (∀ b o, b ≠ S → b ≠ e → b ≠ it → s.heap.get? b = some o → h'.get? b = some o) → h'.get? S = some { cls := .type "list", dict := none, data := .seq acc c, slots := #[] } → as.length = items.size → KdxG (mixKind prog w) (enK 0 items.toList) S h' as →
      acc.toList = as.map Value.ref → R (.ok (.ret .none)) { s with heap := h', toks := tk }) (hn : items.size ≤ sizeLine) :
    wpAny (model prog w) A.in1 (Builtin.«list.__init__» ⟨[.ref S, .ref e], []⟩)
      (fun fin s' => match fin with | .done f => R (.ok f) s' | .again c' => c'.quiet = true ∧ codeAny (model prog w) A c' R s') (fun e s' => R (.error e) s') s := by
  show wpAny _ _ (do let old ← Builtin.List.listItems (.ref S); Builtin.List.listUpdate (.ref S) (fun _ => #[]); letGo old.toList.reverse; Builtin.List.listExtendWith (.ref S) (.ref e) .none) _ _ s
  refine wpAny_bind ?_
  unfold Builtin.List.listItems
  refine wpAny_bind (wpAny_seqItems hS rfl (wpAny_pure ?_))
  show wpAny _ _ (updateSeq S (fun _ => #[]) >>= fun _ => letGo (#[] : Array Value).toList.reverse >>= fun _ => Builtin.List.listExtendWith (.ref S) (.ref e) .none) _ _ s
  refine wpAny_bind (wpAny_updateSeq hS rfl ?_)
  have hS₂ := Heap.get?_update_self (Obj.mapSeq (fun _ => (#[] : Array Value))) hS rfl
  have oth : ∀ b o, b ≠ S → s.heap.get? b = some o → (s.heap.update S (Obj.mapSeq (fun _ => (#[] : Array Value)))).get? b = some o :=
    fun b o hb e => (Heap.get?_update_other _ _ (Ne.symm hb)).trans e
  refine wpAny_bind (wpAny_letGo ?_)
  refine en_extend hh (oth _ _ (Nat.ne_of_lt hSe) he) (hit.at fun o q => oth _ o (Nat.ne_of_lt hSi) q) (hl.at fun o q => oth _ o hSl q) hei hle hli S hSe hSi hSl .none _ hS₂ (fun h' tk acc c as hk hS' hl' hG hacc => ?_) hn
  exact hR h' tk acc c as (fun b o h1 h2 h3 q => hk b o h1 h2 h3 (oth b o h1 q)) hS' hl' hG hacc
theorem en_call {Q : Value → Shared → Prop} (hh : A.handled = none) {old : Value} (he : IsEnum s.heap e it 0 old) (hit : s.heap.IsListIter it l 0) (hl : s.heap.IsList l items) (hei : e ≠ it) (hle : l ≠ e) (hli : l ≠ it) (hn : items.size ≤ sizeLine)
    (hQ : ∀ h' tk acc c as, (∀ b o, b ≠ e → b ≠ it → s.heap.get? b = some o → h'.get? b = some o) → h'.get? s.heap.objs.size = some { cls := .type "list", dict := none, data := .seq acc c, slots := #[] } → as.length = items.size → KdxG (mixKind prog w) (enK 0 items.toList) s.heap.objs.size h' as →
      acc.toList = as.map Value.ref → Q (.ref s.heap.objs.size) { s with heap := h', toks := tk }) :
    wpAny (model prog w) A (call (.type "list") [.ref e]) Q E s := by
  refine callType_codes (Q₁ := fun obj s₁ => obj = .ref s.heap.objs.size ∧ s₁ = { s with heap := s.heap.push { cls := .type "list", data := .seq #[] } }) PySem.F.called_list (PySem.F.typeCall_list_1 _) PySem.F.entry_list_init
    (code_list_new _ ⟨rfl, rfl⟩) fun obj s₁ h₁ => ?_
  obtain ⟨rfl, rfl⟩ := h₁
  have hS : (s.heap.push { cls := .type "list", data := .seq #[] }).get? s.heap.objs.size = some { cls := .type "list", data := .seq #[] } := Heap.get?_push_size _ rfl
  have l1 : e < s.heap.objs.size := Heap.lt_size he
  have l2 : it < s.heap.objs.size := let ⟨_, q, _⟩ := hit; Heap.lt_size q
  have l3 : l < s.heap.objs.size := let ⟨_, q, _⟩ := hl; Heap.lt_size q
  refine ⟨⟨_, hS, rfl⟩, PySem.F.args_list_init_2 _ _, en_init (A := A.in1) hh (Heap.get?_push_of_some _ he) (hit.at fun o q => Heap.get?_push_of_some _ q) (hl.at fun o q => Heap.get?_push_of_some _ q) hei hle hli _ l1 l2 (Nat.ne_of_lt l3) hS (fun h' tk acc c as hk hS' hl' hG hacc => ?_) hn⟩
  exact ⟨rfl, hQ h' tk acc c as (fun b o h1 h2 q => hk b o (Nat.ne_of_lt (Heap.lt_size q)) h1 h2 (Heap.get?_push_of_some _ q)) hS' hl' hG hacc⟩
end
/-- a list at S of new pairs, laid and tracked -/
theorem pairs_laid {X : Cx} {pins : List (Addr × Obj)} {σ : L2.St} {H : Hp} {s : Shared} {h' : Heap} {tk : Nat} {S lo : Addr} {kvs : List (Key × V)} {vs : List (Key × Value)} {acc : Array Value} {c : Nat} {as os : List Addr} (I : Inv X pins σ H s) (hS0 : s.heap.objs.size ≤ S) (hlo : s.heap.objs.size ≤ lo) (nS : S ∉ as) (hz : os.length ≤ sizeLine) (kv : KV kvs vs)
    (hk : ∀ b o, s.heap.get? b = some o → h'.get? b = some o) (hS : h'.get? S = some { cls := .type "list", dict := none, data := .seq acc c, slots := #[] }) (hl : as.length = vs.length) (hG : KdxG (mixKind X.prog X.w) vs lo h' as) (hacc : acc.toList = os.map Value.ref) :
    ∃ H' : Hp, (∀ b o, H b = some o → H' b = some o) ∧ H S = none ∧ (∀ t ∈ as, H t = none) ∧ H' S = some (.lst (os.map V.ref)) ∧ Paired (fun (t : Addr) (q : Key × V) => H' t = some (.tup [kV q.1, q.2])) as kvs ∧ Inv X pins σ H' { s with heap := h', toks := tk } := by
  have lk : kvs.length = vs.length := Paired.length kv
  have nd : as.Nodup := List.Pairwise.imp (fun {a b} (h : a < b) => Nat.ne_of_lt h) hG.rise
  have big : ∀ t ∈ as, s.heap.objs.size ≤ t := fun t ht => Nat.le_trans hlo (Nat.le_of_lt (hG.above t ht))
  have fr : ∀ t ∈ as, H t = none := fun t ht => I.hok.fresh (big t ht)
  have frS : H S = none := I.hok.fresh hS0
  have at2 := LiI.putT_at as kvs (upd H S (.lst (os.map V.ref))) (by omega) nd
  generalize eG : LiI.putT (upd H S (.lst (os.map V.ref))) as kvs = G at at2
  have off : ∀ b, b ∉ as → b ≠ S → G b = H b := fun b h1 h2 => by rw [← eG, LiI.putT_off as kvs _ h1, upd_ne h2]
  have low : ∀ b o, s.heap.get? b = some o → b ∉ as ∧ b ≠ S := fun b o e => ⟨fun z => absurd (Heap.lt_size e) (Nat.not_lt.mpr (big b z)), fun z => absurd (Heap.lt_size e) (Nat.not_lt.mpr (z ▸ hS0))⟩
  have kp : ∀ b u, H b = some u → G b = some u := fun b u e => by
    rw [off b (fun z => by rw [fr b z] at e; cases e) (fun z => by rw [z, frS] at e; cases e)]
    exact e
  have eS : G S = some (.lst (os.map V.ref)) := by rw [← eG, LiI.putT_off as kvs _ nS, upd_same]
  refine ⟨G, kp, frS, fr, eS, at2, ?_⟩
  refine I.call' (ch := []) rfl ⟨fun b o q _ _ _ => hk b o q, fun b o q _ _ _ => ⟨o.slots, hk b o q⟩, fun b o q n _ => ?_, fun b o q _ => ⟨o, hk b o q⟩, fun b xs q => kp b _ q, fun b o u q => kp b _ q, fun b ps q => ⟨#[], by rw [kp b _ q]; simp⟩⟩ (fun b u q => ?_) I.bare fun b z => by simp at z
  · obtain ⟨z1, z2⟩ := low b o q
    rw [off b z1 z2]
    exact n
  · by_cases hb : b ∈ as
    · obtain ⟨j, pk, e1, e2, e3⟩ := LiI.paired_ix at2 hb
      rw [e3] at q
      cases q
      obtain ⟨key, k, x, f1, f2, f3⟩ := hG.pairs j b e1
      obtain ⟨qv, g1, g2, g3⟩ := LiI.paired_get kv e2
      rw [f1] at g1
      cases g1
      have rk : RelV (kV pk.1) key := by
        rw [g2]
        exact relV_key (show keyIs k key = true from f2)
      exact ⟨by show 2 ≤ sizeLine; decide, [key, x], .cons rk (.cons g3 .nil), ⟨_, f3, rfl, _, rfl⟩⟩
    · by_cases hb2 : b = S
      · rw [hb2] at q ⊢
        rw [eS] at q
        cases q
        refine ⟨by rw [List.length_map]; exact hz, acc.toList, c, by rw [hacc]; exact LiI.vals_refs os, ?_⟩
        rw [Array.toArray_toList]
        exact hS
      · rw [off b hb hb2] at q
        exact (I.hok b u q).stay (fun d v _ y => hk d v y) (fun d y => kp d _ y) fun d xs y => kp d _ y
def tListEnum (K : Frag) (te : TE) : TE := fun σ H Q => te σ H fun x H1 => ∃ l xs, x = .ref l ∧ SqL K H1 l xs ∧
  ∀ (H' : Hp) (p : Addr) (ts : List Addr), (∀ b o, H1 b = some o → H' b = some o) → H1 p = none → (∀ t ∈ ts, H1 t = none) → p ∉ ts → H' p = some (.lst (ts.map V.ref)) → Paired (fun (t : Addr) (q : Key × V) => H' t = some (.tup [kV q.1, q.2])) ts (enK 0 xs) → Q (.ref p) H'
section
variable {X : Cx} {e : Expr} {te : TE} {p p2 cpos pos : Pos}
/-- list(enumerate(e)) -/
theorem pe_listEnum (hc : X.calm = true) (he : PE X e te) (hg : Gl X "list") (hm : X.mg "list" = none) (hg2 : Gl X "enumerate") (hm2 : X.mg "enumerate" = none)
    (hs : starEach [.Call (.Name "enumerate" p2) [e] [] cpos] X.env = (false, eval (.Call (.Name "enumerate" p2) [e] [] cpos) X.env) :: starEach [] X.env := by rfl)
    (hs2 : starEach [e] X.env = (false, eval e X.env) :: starEach [] X.env := by rfl) :
    PE X (.Call (.Name "list" p) [.Call (.Name "enumerate" p2) [e] [] cpos] [] pos) (tListEnum X.K te) := by
  refine ⟨fun pins s σ H Q I hq => ?_⟩
  refine wpAny_Call_Name_kw (ld_blt I hg hm PyProof.Rows.boot_list ?_)
  refine PyProof.Rows.callWith_type1 ?_ hs rfl
  rw [hs]
  show wpAny _ _ (spliced ((false, eval (.Call (.Name "enumerate" p2) [e] [] cpos) X.env) :: backTo pos (starEach [] X.env))) _ _ s
  refine Calls.spliced_cons ?_
  refine wpAny_Call_Name_kw (ld_blt I hg2 hm2 PyProof.Rows.boot_enumerate ?_)
  refine PyProof.Rows.callWith_type1 ?_ hs2 rfl
  rw [hs2]
  show wpAny _ _ (spliced ((false, eval e X.env) :: backTo cpos (starEach [] X.env))) _ _ s
  refine Calls.spliced_cons ?_
  refine thn (he.run pins s σ H _ I hq) fun u s1 ⟨x, H1, I1, rx, l, xs, ex, hl, q⟩ => ?_
  subst ex
  obtain rfl : u = Value.ref l := rx
  refine Calls.spliced_nil ?_
  obtain ⟨us, ru, pu, hz⟩ := I1.list hl
  refine call_enumerate_list pu.isList fun h1 hE hI hsz hk1 => ?_
  refine Calls.spliced_nil ?_
  have ll : l < s1.heap.objs.size := pu.lt
  have I2 : Inv X pins σ H1 { s1 with heap := h1 } := I1.kept (t' := s1.toks) hk1
  have hlen := ru.length
  refine en_call (I1.ok.hd hc) hE hI (pu.isList.at fun o q => hk1 _ o q) (Nat.succ_ne_self _) (Nat.ne_of_lt (Nat.lt_succ_of_lt ll)) (Nat.ne_of_lt ll) (by rw [List.size_toArray]; omega) fun h' tk acc c as hk hS hl' hG hacc => ?_
  have hk2 : ∀ b o, s1.heap.get? b = some o → h'.get? b = some o := fun b o e => by
    have hb := Heap.lt_size e
    exact hk b o (Nat.ne_of_lt (Nat.lt_succ_of_lt hb)) (Nat.ne_of_lt hb) (hk1 b o e)
  rw [List.toList_toArray] at hG
  have hle : s1.heap.objs.size ≤ h1.objs.size := by rw [hsz]; exact Nat.le_add_right _ _
  have k4 : h1.objs.size ∉ as := fun z => Nat.lt_irrefl _ (hG.above _ z)
  obtain ⟨H', k1, k2, k3, k5, k6, J⟩ := pairs_laid (tk := tk) I1 hle hle k4 (by rw [hl', List.size_toArray, ← hlen]; exact hz) (enK_rel xs us 0 ru) hk2 hS (by rw [hl', enK_len, List.size_toArray]) hG hacc
  exact ⟨.ref _, H', J, rfl, q H' _ as k1 k2 k3 k4 k5 k6⟩
end
end WB
/-! sorted(d.items(), key=lambda p: p[0]): a new list of new pairs, by rising keys. -/
namespace WB
open PySem PySem.Calls PyProof.Rows PyProof.V PySem.Spec L2 He PySem.W LamX
def kD : Key → PyData
  | .inl i => .int i
  | .inr x => .str x
theorem kD_reads {h : Heap} {k : Key} {u : Value} (e : keyIs k u = true) : Reads h u (kD k) [] := by
  rcases keyIs_shape e with ⟨i, t, rfl, rfl⟩ | ⟨x, t, rfl, rfl⟩
  · exact .int i t
  · exact .str x t
abbrev kLe : Key × V → Key × V → Bool := dataLe false fun p => kD p.1
theorem each_get {α β : Type} {R : α → β → Prop} : ∀ {as : List α} {bs : List β}, as.length = bs.length → (∀ (j : Nat) a b, as[j]? = some a → bs[j]? = some b → R a b) → EachIs R as bs
  | [], [], _, _ => .nil
  | [], _ :: _, h, _ => by cases h
  | _ :: _, [], h, _ => by cases h
  | a :: as, b :: bs, h, r => .cons (r 0 a b rfl rfl) (each_get (Nat.succ.inj h) fun j x y e1 e2 => r (j + 1) x y e1 e2)
theorem each_paired {α β γ : Type} {R : α → β → Prop} {f : γ → α} {F : γ → β → Prop} : ∀ {as : List α} {bs : List β}, EachIs R as bs → (∀ a b, R a b → ∃ c, a = f c ∧ F c b) → ∃ cs : List γ, as = cs.map f ∧ Paired F cs bs
  | [], [], _, _ => ⟨[], rfl, .nil⟩
  | [], _ :: _, h, _ => by cases h
  | _ :: _, [], h, _ => by cases h
  | a :: as, b :: bs, h, r => by
    cases h with
    | cons h1 t =>
      obtain ⟨c, e, hc⟩ := r a b h1
      obtain ⟨cs, e2, hp⟩ := each_paired t r
      exact ⟨c :: cs, by rw [e, e2]; rfl, .cons hc hp⟩
section
variable {prog : Program} {w : World} {A : Around} {E : Value → Shared → Prop} {s : Shared}
/-- all that was there stays -/
def Grows (s s2 : Shared) : Prop := ∃ h' tk, s2 = { s with heap := h', toks := tk } ∧ ∀ b o, s.heap.get? b = some o → h'.get? b = some o
/-- the call of lambda x: x[0] -/
theorem lam_first {f c' t : Addr} {name qual x : Str} {params : Arguments} {p1 p2 p3 : Pos} {j : Nat} {scope : Scope} {cl : List (Str × Addr)} {pm ctv a b : Value}
    (hroom : A.depth < recursionLimit) (hnl : s.heap.NoLimit) (hf : s.heap.get? f = some (kla_obj name qual params (.Subscript (.Name x p1) (.Constant (.int 0) j p2) p3) scope cl pm c' ctv)) (hcd : s.heap.CodeRec (.ref c') qual)
    (hbind : ∀ v, bindArgs (kla_fn name qual params (.Subscript (.Name x p1) (.Constant (.int 0) j p2) p3) scope cl pm (.ref c') ctv) ⟨[v], []⟩ = pure [(x, v)])
    (hk : scope.kind = .function) (hco : scope.isCoroutine = false) (hgen : scope.isGenerator = false) (hl : scope.names.lookup x = some .local) (hcell : ∀ y ∈ scope.names, y.2 ≠ .cell) (hd : (x == ("__debug__" : Str)) = false)
    (ht : s.heap.get? t = some { cls := .type "tuple", data := .seq #[a, b] }) : wpAny (model prog w) A (call (.ref f) [.ref t]) (fun v s2 => v = a ∧ Grows s s2) E s := by
  refine wpAny_call ?_
  refine kla_callFunE hroom hf rfl hco hgen rfl hcd ?_
  rw [hbind]
  refine wpAny_pure (wpAny_newFunctionEnv hcell (fun y hy => by rw [List.mem_singleton.mp hy]; exact hl) (fun h1 hns hsb => ⟨hnl.fresh _ hsb, ?_⟩) hk)
  show codeAny _ _ (.expr _ (envX qual scope s.heap.objs.size f (.ref c') cl)) _ _
  have kp : ∀ b o, s.heap.get? b = some o → h1.get? b = some o := fun b o e => hsb.extBut b o (Nat.ne_of_lt (Heap.lt_size e)) (Heap.get?_push_of_some _ e)
  refine kla_codeExpr (wpAny_Subscript_Constant_late ?_)
  have lk : (fun y : Str => ([(x, Value.ref t)] : List (Str × Value)).reverse.lookup y) x = some (.ref t) := by
    show ([(x, Value.ref t)] : List (Str × Value)).lookup x = _
    rw [List.lookup_cons_self]
  refine wpAny_Name (wpAny_loadName_local hk hl hns lk ?_) hd
  refine wpAny_Constant_int ?_
  have ht1 : h1.get? t = some { cls := .type "tuple", data := .seq #[a, b] } := kp _ _ ht
  refine ⟨"tuple", _, slot_tuple_getitem.lookup, ⟨_, ht1, rfl⟩, ?_⟩
  exact PyProof.Rows.getItem_tuple (j := 0) ⟨_, ht1, rfl, _, rfl⟩ (by decide) (by decide) rfl rfl ⟨rfl, h1, _, rfl, kp⟩
/-- the items of a dict gathered; the heap has grown -/
theorem items_got {v d : Addr} {vs : List (Key × Value)} {ep : Nat} {R : List Value → Shared → Prop} (hh : A.handled = none) (hv : s.heap.IsItemsView v d) (hm : s.heap.DictAt (mixKind prog w) d vs ep) (hn : vs.length ≤ sizeLine)
    (h : ∀ h' tk as, (∀ b o, s.heap.get? b = some o → h'.get? b = some o) → s.heap.objs.size < h'.objs.size → as.length = vs.length → KdxG (mixKind prog w) vs s.heap.objs.size h' as → R (as.map Value.ref) { s with heap := h', toks := tk }) : wpAny (model prog w) A (collect (.ref v)) R E s := by
  have hr : v < s.heap.objs.size := by
    obtain ⟨_, ho, _⟩ := hv
    exact Heap.lt_size ho
  have hd : d < s.heap.objs.size := hm.lt_size
  generalize eN : s.heap.objs.size = N at hr hd h
  unfold collect
  refine wpAny_bind (wpAny_runValue (codeAny_builtin entry_proto_collect' ?_))
  rw [Around.under_plainId PySem.F.plain_proto_collect _]
  show wpAny _ A.in1 (newList [] >>= fun l => again (.builtin "list.__iadd__" ⟨[l, .ref v], []⟩)) _ _ s
  refine wpAny_bind (wpAny_newObj_type ?_)
  refine wpAny_pure ⟨plainId_quiet PySem.F.plain_list_iadd _, codeAny_builtin entry_list_iadd' ?_⟩
  rw [Around.under_plainId PySem.F.plain_list_iadd _]
  have hN : (s.heap.push { cls := .type "list", data := .seq ([] : List Value).toArray }).get? N = some { cls := .type "list", data := .seq #[] } := by
    rw [← eN]; exact Heap.get?_push_size _ rfl
  show wpAny _ A.in1 (Builtin.List.listExtendWith (.ref s.heap.objs.size) (.ref v) (.ref s.heap.objs.size)) _ _ _
  rw [eN]
  have ex := kdx_extend (A := A) (s := { s with heap := s.heap.push { cls := .type "list", data := .seq ([] : List Value).toArray } }) (knd := mixKind prog w) (kvs := vs) (ep := ep) (r := v) (d := d)
    (R := fun (q : Result) (s' : Shared) => ∃ (h' : Heap) (tk : Nat) (ac : Array Value) (c : Nat) (as : List Addr), q = .ok (.ret (.ref N)) ∧ s' = { s with heap := h', toks := tk } ∧ (∀ b o, s.heap.get? b = some o → h'.get? b = some o) ∧
      h'.get? N = some { cls := .type "list", dict := none, data := .seq ac c, slots := #[] } ∧ as.length = vs.length ∧ KdxG (mixKind prog w) vs N h' as ∧ ac.toList = as.map Value.ref)
    hh (let ⟨o, ho, x⟩ := hv; ⟨o, Heap.get?_push_of_some _ ho, x⟩) (hm.push _) N (Nat.ne_of_gt hr) (Nat.ne_of_lt hd) (.ref N) 0 hN
    (fun h' tk ac c as hk hS hl hG ha => ⟨h', tk, ac, c, as, rfl, rfl, fun b o e => hk b o (by rw [← eN]; exact Nat.ne_of_lt (Heap.lt_size e)) (Heap.get?_push_of_some _ e), hS, hl, hG.low (by rw [← eN]; show s.heap.objs.size ≤ (s.heap.push _).objs.size; rw [Heap.size_push]; exact Nat.le_succ _), ha⟩) hn
  have fin : ∀ (q : Result) (s2 : Shared), (∃ (h' : Heap) (tk : Nat) (ac : Array Value) (c : Nat) (as : List Addr), q = .ok (.ret (.ref N)) ∧ s2 = { s with heap := h', toks := tk } ∧ (∀ b o, s.heap.get? b = some o → h'.get? b = some o) ∧
      h'.get? N = some { cls := .type "list", dict := none, data := .seq ac c, slots := #[] } ∧ as.length = vs.length ∧ KdxG (mixKind prog w) vs N h' as ∧ ac.toList = as.map Value.ref) →
      q = .ok (.ret (.ref N)) ∧ wpAny (model prog w) A (do let o ← load N; match o.data with | .seq vs _ => pure vs.toList | _ => unsupported "internal:collect") R E s2 := by
    rintro q s2 ⟨h', tk, ac, c, as, rfl, rfl, hk, hS, hl, hG, ha⟩
    refine ⟨rfl, wpAny_bind (wpAny_load hS (wpAny_pure ?_))⟩
    rw [ha]
    exact h h' tk as hk (Heap.lt_size hS) hl hG
  refine wpAny_mono ex (fun fn s' x => ?_) fun e s' x => ?_
  · cases fn with
    | done f =>
      obtain ⟨e, z⟩ := fin _ _ x
      cases e
      exact z
    | again c1 =>
      refine ⟨x.1, codeAny_mono x.2 fun q s2 y => ?_⟩
      obtain ⟨e, z⟩ := fin _ _ y
      cases e
      exact z
  · obtain ⟨_, _, _, _, _, e', _⟩ := x
    cases e'
/-- sorted(v, key=f), v a dict's items, f what tells a pair's first -/
theorem sorted_items {v d f : Addr} {kvs : List (Key × V)} {vs : List (Key × Value)} {ep : Nat} {Q : Value → Shared → Prop} (hh : A.handled = none) (hu : A.units + 16 < cLine) (hv : s.heap.IsItemsView v d) (hm : s.heap.DictAt (mixKind prog w) d vs ep) (hn : vs.length ≤ sizeLine) (kv : KV kvs vs) (hal : AllAlike (kvs.map fun p => kD p.1))
    (turn : ∀ (t : Addr) (a b : Value) (h : Heap) (tk : Nat), (∀ b o, s.heap.get? b = some o → h.get? b = some o) → h.get? t = some { cls := .type "tuple", data := .seq #[a, b] } →
      wpAny (model prog w) A.in1.in1 (call (.ref f) [.ref t]) (fun v s2 => v = a ∧ Grows { s with heap := h, toks := tk } s2) (fun _ _ => False) { s with heap := h, toks := tk })
    (hQ : ∀ (h' : Heap) (tk : Nat) (S c : Nat) (as : List Addr) (out : List Value), s.heap.objs.size ≤ S → (∀ b o, s.heap.get? b = some o → h'.get? b = some o) → as.length = vs.length → KdxG (mixKind prog w) vs s.heap.objs.size h' as → S ∉ as → h'.get? S = some (seqObj "list" (List.toArray out) c) →
      EachIs (fun (v : Value) (x : Key × V) => ∃ (j : Nat) (a : Addr), v = .ref a ∧ as[j]? = some a ∧ kvs[j]? = some x) out (kvs.mergeSort kLe) → Q (.ref S) { s with heap := h', toks := tk }) :
    wpAny (model prog w) A (call (.builtin "sorted") [.ref v] [(Str.ofString "key", .ref f)]) Q E s := by
  refine call_function_entry_kw kind_sorted plain_sorted entry_sorted (ksk_s1 _ _) ?_
  unfold Builtin.«sorted»
  refine wpAny_bind (m := checkCount "sorted" 1 1 _) (wpAny_pure ?_)
  refine wpAny_bind (items_got (A := A.in1) hh hv hm hn fun h1 tk as hk sz1 hl hG => ?_)
  have hz : (as.map Value.ref).length ≤ sizeLine := by rw [List.length_map, hl]; exact hn
  refine wpAny_bind (wpAny_newList ?_ hz)
  have hS : (h1.push (seqObj "list" (as.map Value.ref).toArray 0)).get? h1.objs.size = some (seqObj "list" (as.map Value.ref).toArray 0) := Heap.get?_push_size _ rfl
  show wpAny _ _ _ _ _ { s with heap := h1.push (seqObj "list" (as.map Value.ref).toArray 0), toks := tk }
  have lk : kvs.length = vs.length := Paired.length kv
  have eR : EachIs (fun (v : Value) (x : Key × V) => ∃ (j : Nat) (a : Addr), v = .ref a ∧ as[j]? = some a ∧ kvs[j]? = some x) (as.map Value.ref) kvs := by
    refine each_get (by rw [List.length_map, hl, lk]) fun j v x hv2 hx2 => ?_
    rw [List.getElem?_map] at hv2
    obtain ⟨a, ja, rfl⟩ := Option.map_eq_some_iff.mp hv2
    exact ⟨j, a, rfl, ja, hx2⟩
  have nS : h1.objs.size ∉ as := fun z => Nat.lt_irrefl _ (hG.there z)
  refine wpAny_bind (wpAny_holding ?_)
  refine list_sort_key_data (fun p : Key × V => kD p.1) hS eR hal (Sortable.others fun b => by rcases b with ⟨k | k, v⟩ <;> exact ⟨(by intro z; cases z), (by intro xs z; cases z)⟩) (by rw [lk]; exact hn) (fun x _ => ?_) (ksk_l1 _ _) (ksk_t1 _ _) ?_ ?_
  · have hd : (kD x.1).depth = 0 := by rcases x with ⟨k | k, v⟩ <;> rfl
    rw [hd]
    show A.units + 1 + 1 + 0 < cLine
    omega
  · rintro v x ⟨j, a, rfl, ja, jx⟩ hx h2 tk2 kp
    obtain ⟨key, k, u, g1, g2, g3⟩ := hG.pairs j a ja
    obtain ⟨q, f1, f2, f3⟩ := LiI.paired_get kv jx
    rw [g1] at f1; cases f1
    have na : a ≠ h1.objs.size := fun z => nS (z ▸ List.mem_of_getElem? ja)
    refine wpAny_mono (turn a key u h2 tk2 (fun b o e => kp b o (Nat.ne_of_lt (Heap.lt_size (hk b o e))) (Heap.get?_push_of_some _ (hk b o e))) (kp a _ na (Heap.get?_push_of_some _ g3))) (fun v2 s2 hq => ?_) fun _ _ e => e
    obtain ⟨rfl, h3, tk3, rfl, k3⟩ := hq
    refine ⟨h3, tk3, rfl, k3, ?_⟩
    rw [f2]
    exact kD_reads g2
  · intro out c h3 tk3 kp3 hS3 hl3 he3
    refine wpAny_pure ⟨_, rfl, hQ h3 tk3 _ c as out (Nat.le_of_lt sz1) (fun b o e => kp3 b o (Nat.ne_of_lt (Heap.lt_size (hk b o e))) (Heap.get?_push_of_some _ (hk b o e))) hl ⟨hG.rise, hG.above, fun j a ja => ?_⟩ nS hS3 he3⟩
    obtain ⟨key, k, u, g1, g2, g3⟩ := hG.pairs j a ja
    exact ⟨key, k, u, g1, g2, kp3 a _ (fun z => nS (z ▸ List.mem_of_getElem? ja)) (Heap.get?_push_of_some _ g3)⟩
end
section
variable {X : Cx} {pins : List (Addr × Obj)} {σ : L2.St} {H : Hp} {s : Shared}
/-- a lambda is made by a def with one table: nothing else changes -/
theorem lam_one {c P : Addr} {q : Str} {params : Arguments} {body : Expr} {scope : Scope} {pos : Pos} {E Q : Value → Shared → Prop} (I : Inv X pins σ H s) (TB : TabB X.base X.mg c P) (hcode : X.env.code = .ref c) (hq : X.env.qual ++ "<lambda>" = q)
    (hT : TabS H P q) (hdef : defaultsOf params X.env = ([], [])) (hfree : ∀ y ∈ scope.names, y.2 = .free → ∃ c, X.env.cells.lookup y.1 = some c)
    (h : ∀ (f c' : Addr) (pm ctv : Value) (H1 : Hp) (s' : Shared), Inv X pins σ H1 s' → (∀ a o, H a = some o → a ≠ P → H1 a = some o) → TabS H1 P q →
      s'.heap.get? f = some (kla_obj "<lambda>" q params body scope (cloFrom X.env.cells scope.names []) pm c' ctv) → H1 c' = some (CodeO c' q) → Q (.ref f) s') :
    wpAny (model X.prog X.w) X.A (eval (.Lambda params body scope pos) X.env) Q E s := by
  subst hq
  obtain ⟨ps, hP, ht, ha⟩ := hT
  refine kla_eval hdef ?_
  have bP : s.heap.BuiltinsAt X.mg P := TB.bm.keeps I.bk
  have hP2 : s.heap.get? P = some { cls := .none, data := .fields ps } := I.hok P _ hP
  cases hc : codeAmong pos ps.toList with
  | none =>
    refine kla_makeFunction (mg := X.mg) (c := c) (P := P) (ps := ps) (closure_ok hfree) I.ok.glob (I.mod.glob.keeps I.bk) hcode (TB.code.keeps I.bk) hP2 ht hc TB.gP bP fun c' ctv h2 tk hx hge hlt hrec htb => ?_
    obtain ⟨c2, oc, vs, t, e2, hoc, hd, hv⟩ := hrec
    cases e2
    have nC : H c' = none := I.hok.fresh hge
    have I1 := inv_table (t' := tk) (more := #[rawInt pos.line, rawInt pos.col, .ref c']) (h' := h2.push (kla_obj "<lambda>" (X.env.qual ++ "<lambda>") params body scope (cloFrom X.env.cells scope.names []) ((X.mg "__name__").getD .none) c' ctv)) I hP
      (fun b o hb e => Heap.get?_push_of_some _ (hx b o hb e)) (Heap.get?_push_of_some _ htb) hge ⟨oc, vs, t, Heap.get?_push_of_some _ hoc, hd, hv⟩
    have st : ∀ a o, H a = some o → a ≠ P → (upd (upd H P (.tbl (ps ++ #[rawInt pos.line, rawInt pos.col, .ref c']))) c' (CodeO c' (X.env.qual ++ "<lambda>"))) a = some o := fun a o e n => by
      rw [upd_ne (ne_of_none e nC), upd_ne n]
      exact e
    have eL : (ps ++ #[rawInt pos.line, rawInt pos.col, .ref c']).toList = ps.toList ++ [rawInt pos.line, rawInt pos.col, .ref c'] := by simp
    refine h h2.objs.size c' ((X.mg "__name__").getD .none) ctv _ _ I1 st ⟨_, by rw [upd_ne (ne_of_none hP nC), upd_same], by rw [eL]; exact PySem.TriplesOk_snoc _ _ _ _ ht, fun p' cv hcv => ?_⟩ (Heap.get?_push_size _ rfl) upd_same
    rw [eL] at hcv
    rcases among_app _ ht hcv with z | z
    · obtain ⟨c0, e1, e2⟩ := ha p' cv z
      exact ⟨c0, e1, st _ _ e2 fun z => by rw [z, hP] at e2; exact codeO_ne ps (Option.some.inj e2).symm⟩
    · exact ⟨c', z, upd_same⟩
  | some cv =>
    obtain ⟨c', e, hco⟩ := ha pos cv hc
    subst e
    refine kla_makeFunctionHit (mg := X.mg) (c := c) (P := P) (ps := ps) (closure_ok hfree) I.ok.glob (I.mod.glob.keeps I.bk) hcode (TB.code.keeps I.bk) hP2 ht hc bP fun ctv h2 tk hx hsz => ?_
    have I1 : Inv X pins σ H { s with heap := h2.push (kla_obj "<lambda>" (X.env.qual ++ "<lambda>") params body scope (cloFrom X.env.cells scope.names []) ((X.mg "__name__").getD .none) c' ctv), toks := tk } := I.kept fun b o e => Heap.get?_push_of_some _ (hx b o e)
    exact h h2.objs.size c' ((X.mg "__name__").getD .none) ctv H _ I1 (fun _ _ e _ => e) ⟨ps, hP, ht, ha⟩ (Heap.get?_push_size _ rfl) hco
end
def tSortIt (P : Addr) (q : Str) (te : TE) : TE := fun σ H Q => te σ H fun x H1 => ∃ (d : Addr) (kvs : List (Key × V)), x = .ref d ∧ H1 d = some (.dK kvs) ∧ AllAlike (kvs.map fun p => kD p.1) ∧ TabS H1 P q ∧
  ∀ (H' : Hp) (p : Addr) (ts : List Addr), (∀ a o, H1 a = some o → a ≠ P → H' a = some o) → TabS H' P q → H1 p = none → (∀ t ∈ ts, H1 t = none) → H' p = some (.lst (ts.map V.ref)) → Paired (fun (t : Addr) (y : Key × V) => H' t = some (.tup [kV y.1, y.2])) ts (kvs.mergeSort kLe) → Q (.ref p) H'
section
variable {X : Cx} {k c P : Addr} {e : Expr} {te : TE} {p apos cpos pos lpos kpos p1 p2 p3 : Pos} {x q : Str} {j : Nat} {params : Arguments} {scope : Scope}
/-- sorted(e.items(), key=lambda x: x[0]) -/
theorem pe_sortItems (hr : Room 2 X.A) (hc : X.calm = true) (he : PE X e te) (hg : Gl X "sorted") (hm : X.mg "sorted" = none) (hTB : X.K.In X.base → TabB X.base X.mg c P) (hcode : X.env.code = .ref c) (hq : X.env.qual ++ "<lambda>" = q)
    (hdef : defaultsOf params X.env = ([], []) := by rfl) (hS : (scope.kind = .function ∧ scope.isCoroutine = false ∧ scope.isGenerator = false ∧ scope.names.lookup x = some .local ∧ (∀ y ∈ scope.names, y.2 = .local) ∧ (x == ("__debug__" : Str)) = false) := by decide)
    (hbind : ∀ (cl : List (Str × Addr)) (pm cdv ctv v : Value), bindArgs (kla_fn "<lambda>" q params (.Subscript (.Name x p1) (.Constant (.int 0) j p2) p3) scope cl pm cdv ctv) ⟨[v], []⟩ = pure [(x, v)] := by intros; rfl)
    (hbase : attributeBase e "items" X.env (eval e X.env) = eval e X.env := by rfl) (hline : (apos.endLine == cpos.line) = true := by rfl) :
    PE X (.Call (.Name "sorted" p) [.Call (.Attribute e "items" apos) [] [] cpos] [⟨some "key", .Lambda params (.Subscript (.Name x p1) (.Constant (.int 0) j p2) p3) scope lpos, kpos⟩] pos) (tSortIt P q te) := by
  obtain ⟨w1, w2, w3, w4, w5, w6⟩ := hS
  refine ⟨fun pins s σ H Q I hqq => ?_⟩
  have TB := hTB I.ok.mod.kin
  refine wpAny_Call_Name_kw (ld_blt I hg hm PyProof.Rows.boot_sorted ?_)
  refine PyProof.Rows.callWith_kw ?_ (by rfl) (by rfl) (by rfl) (by rfl)
  show wpAny _ _ (spliced ((false, eval (.Call (.Attribute e "items" apos) [] [] cpos) X.env) :: backTo pos (starEach [] X.env))) _ _ s
  refine Calls.spliced_cons ?_
  refine wpAny_Call_method (T := "dict") (id := "dict.items") hbase rfl hline F.plainAttrs_dict F.slot_dict_items F.type_dict_items (thn (he.run pins s σ H _ I hqq) fun u s1 ⟨y, H1, I1, rx, d, kvs, ex, hd, hal, hT, hk⟩ => ?_)
  subst ex
  obtain rfl : u = Value.ref d := rx
  obtain ⟨hz, hs0, vs, kv, hdo⟩ := I1.hok d _ hd
  refine ⟨hdo.typeIs, hdo.mapOf.noDict, ?_⟩
  show wpAny _ _ (callWith cpos (.builtin "dict.items") [.ref d] [] []) _ X.xe s1
  refine method_meetsIn F.slot_dict_items F.entry_dict_items rfl (PySem.evalArgs_none ⟨rfl, hdo.typeIs, F.args_dict_items_1 _, _, meets_dict_items (mixKind X.prog X.w) d hs0, ⟨vs, hdo⟩, ?_⟩)
  refine Calls.spliced_nil ?_
  have hv0 : H1 s1.heap.objs.size = none := I1.hok.fresh (Nat.le_refl _)
  have I2 : Inv X pins σ H1 { s1 with heap := s1.heap.push { cls := .type "dict_items", data := .fields #[.ref d] } } := I1.kept (t' := s1.toks) fun b ob q => Heap.get?_push_of_some _ q
  have hvw : (s1.heap.push { cls := .type "dict_items", data := .fields #[.ref d] }).get? s1.heap.objs.size = some { cls := .type "dict_items", data := .fields #[.ref d] } := Heap.get?_push_size _ rfl
  have I2p := I2.pinned (fp := [s1.heap.objs.size]) (fun b hb => by rw [List.mem_singleton.mp hb]; exact I1.fpOk (Nat.le_refl _) hv0) (fun b hb => by obtain rfl := List.mem_singleton.mp hb; exact ⟨_, hvw, fun v z => by cases z⟩)
  refine PyProof.Rows.kwAll_cons (lam_one I2p TB hcode hq hT hdef (fun y hy z => by rw [w5 y hy] at z; cases z) fun f c' pm ctv H2 s3 I3 st hT2 hf hco => ?_)
  refine PyProof.Rows.kwAll_nil ?_
  show wpAny _ _ (call (.builtin "sorted") [.ref s1.heap.objs.size] [(Str.ofString "key", .ref f)]) _ _ s3
  have hv3 : s3.heap.get? s1.heap.objs.size = some { cls := .type "dict_items", data := .fields #[.ref d] } := by
    have z := I3.pin (s1.heap.objs.size, { cls := .type "dict_items", data := .fields #[.ref d] }) (List.mem_append_right _ (List.mem_append_right _ (by simp [pinsAt, hvw])))
    exact z.1
  have dP : d ≠ P := fun z => by
    obtain ⟨ps, hP, _⟩ := hT
    rw [z, hP] at hd
    cases hd
  obtain ⟨hz3, _, vs3, kv3, hdo3⟩ := I3.hok d _ (st d _ hd dP)
  obtain ⟨ep, hat⟩ := hdo3.dictAt
  obtain ⟨⟨oc, vc, tc, hoc, hdc, hvc⟩, _, _⟩ := I3.hok c' _ hco
  have lk3 : kvs.length = vs3.length := Paired.length kv3
  have I4 : Inv X pins σ H2 s3 := I3.pins_of fun p hp => I3.pin p (List.mem_append_right _ (List.mem_append_left _ hp))
  refine sorted_items (hr.hd) (by have := hr.un; omega) ⟨_, hv3, rfl, rfl⟩ hat (by omega) kv3 hal (fun t a b h tk hk ht => ?_) fun h' tk S cc as out hS0 hk' hl hG nS hS' he' => ?_
  · exact lam_first (by have := hr.dp; show X.A.depth < _; omega) (I3.nolimit.keeps hk) (hk _ _ hf) ⟨c', oc, vc, tc, rfl, hk _ _ hoc, hdc, hvc⟩ (fun v => hbind _ _ _ _ v) w1 w2 w3 w4 (fun y hy z => by rw [w5 y hy] at z; cases z) w6 ht
  · obtain ⟨ts, rfl, hp⟩ := each_paired (f := Value.ref) (F := fun (a : Addr) (y : Key × V) => ∃ j : Nat, as[j]? = some a ∧ kvs[j]? = some y) he' fun v y ⟨j, a, e1, e2, e3⟩ => ⟨a, e1, j, e2, e3⟩
    have lt : ts.length = kvs.length := by rw [Paired.length hp, List.length_mergeSort]
    obtain ⟨H', k1, k2, k3, k5, k6, J⟩ := pairs_laid (tk := tk) (os := ts) I4 hS0 (Nat.le_refl _) nS (by omega) kv3 hk' hS' hl hG (by rw [List.toList_toArray])
    have tn : ∀ t ∈ ts, H2 t = none := fun t ht => by
      obtain ⟨j, y, g1, g2, i, g3, g4⟩ := LiI.paired_ix hp ht
      exact k3 t (List.mem_of_getElem? g3)
    have dn : ∀ b, H2 b = none → H1 b = none := fun b e => by
      cases q : H1 b with
      | none => rfl
      | some o =>
        by_cases z : b = P
        · obtain ⟨ps, hP, _⟩ := hT2
          rw [z, hP] at e
          cases e
        · rw [st b o q z] at e
          cases e
    have hT3 : TabS H' P q := hT2.ext k1
    refine ⟨.ref S, H', J, rfl, hk H' S ts (fun a o e n => k1 a o (st a o e n)) hT3 (dn _ k2) (fun t ht => dn _ (tn t ht)) k5 (Paired.imp (fun t y ⟨j, e1, e2⟩ => ?_) hp)⟩
    obtain ⟨y', f1, f2⟩ := LiI.paired_get k6 e1
    rw [e2] at f1
    cases f1
    exact f2
end
/-- from the text: a def that makes a lambda; its code object is known -/
theorem DefOk.mkC {P : Program} {w : World} {K : Frag} {mg : Str → Option Value} {base : Heap} {x qual : Str} {pa : Arguments} {body : List Stmt} {sc : Scope} {f : Addr} {N ps : List Str} {k : Nat} {sp : Sp} {p : Str × Option Str}
    (F : ∃ fd, FunD K x qual pa body sc [] [] f fd) (hf : f = fAd K p) (S : FnScope N ps sc)
    (hb : ∀ (kV doc pm : Value) (an : Option Addr) (cdv ct : Value) (us : List Value), us.length = ps.length → bindArgs (fnOf x qual pa body sc .none kV doc pm an cdv ct) ⟨us, []⟩ = pure (ps.zip us))
    (len : ∀ vs H Q E, sp vs H Q E → vs.length = ps.length)
    (hbody : ∀ (A : Around) (outer : List Env) (s : Shared) (H : Hp) (vs : List V) (Q : VK) (E : XK), Room k (A.deeper (envOfC qual sc s.heap.objs.size f (.ref (codeOf K p)))) → sp vs H Q E →
      ∃ t, PSs (cxOf CX0 P w K mg base N qual sc f (.ref (codeOf K p)) A outer s H E).nox body t ∧ t { nx := fun _ H' => Q .non H', rt := Q } (start N vs) H) : DefOk ⟨P, w, K, mg, base⟩ (k + 1) f ps sp := by
  obtain ⟨fd, F⟩ := F
  refine ⟨⟨fd, ?_, F.bindsN hb⟩, F.kp⟩
  obtain ⟨oc, od, dV, kV, doc, pm, an, cdv, ct, osl, rfl, lk, hcd, _, _⟩ := F.ex
  obtain ⟨c, rfl⟩ := codeIn_ref hcd
  have e := codeOf_eq (p := p) (by rw [← hf]; exact lk) rfl
  subst e
  refine fn_of lk hcd S len fun A outer s H vs Q E hr h => ?_
  obtain ⟨t, p, q⟩ := hbody A outer s H vs Q E hr h
  exact ⟨t, p.nox, q⟩
theorem Room.two {k : Nat} {A : Around} (hr : Room (k + 2) A) : Room 2 A := hr.mono (Nat.le_add_left 2 k)
end WB
/-! How a heap bears things and their names. -/
namespace WB
open PySem PySem.Spec PyProof.Rows L2 He
def Body.part : Body → Str
  | .wat _ _ => "sees"
  | _ => "cells"
/-- a thing's attributes, in the order in which they are stored first -/
def thF (n : Nat) (kind : Str) (got due : Bool) (goal : V) (pn : Str) (pv : V) : List (Str × V) :=
  [("number", .int (n : Int)), ("kind", .str kind), ("got_last", .bl got), ("due", .bl due), ("goal", goal), (pn, pv)]
section
variable {n : Nat} {kind : Str} {got due b : Bool} {goal : V} {pv u : V}
theorem thF_number {pn : Str} : (thF n kind got due goal pn pv).lookup ("number" : Str) = some (.int n) := by kernel_rfl
theorem thF_kind {pn : Str} : (thF n kind got due goal pn pv).lookup ("kind" : Str) = some (.str kind) := by kernel_rfl
theorem thF_got {pn : Str} : (thF n kind got due goal pn pv).lookup ("got_last" : Str) = some (.bl got) := by kernel_rfl
theorem thF_due {pn : Str} : (thF n kind got due goal pn pv).lookup ("due" : Str) = some (.bl due) := by kernel_rfl
theorem thF_goal {pn : Str} : (thF n kind got due goal pn pv).lookup ("goal" : Str) = some goal := by kernel_rfl
theorem thF_cells : (thF n kind got due goal "cells" pv).lookup ("cells" : Str) = some pv := by kernel_rfl
theorem thF_sees : (thF n kind got due goal "sees" pv).lookup ("sees" : Str) = some pv := by kernel_rfl
theorem thF_put_got {pn : Str} : putF "got_last" (.bl b) (thF n kind got due goal pn pv) = thF n kind b due goal pn pv := by kernel_rfl
theorem thF_put_due {pn : Str} : putF "due" (.bl b) (thF n kind got due goal pn pv) = thF n kind got b goal pn pv := by kernel_rfl
theorem thF_put_goal {pn : Str} : putF "goal" u (thF n kind got due goal pn pv) = thF n kind got due u pn pv := by kernel_rfl
theorem thF_put_sees : putF "sees" u (thF n kind got due goal "sees" pv) = thF n kind got due goal "sees" u := by kernel_rfl
theorem thF_len {pn : Str} : (thF n kind got due goal pn pv).length < 1000 := by show 6 < 1000; decide
end
def BodyAt (H : Hp) (c : Addr) (pv : V) : Body → Prop
  | .dic _ kvs => pv = .ref c ∧ ∃ vs, H c = some (.dK vs) ∧ KVR H vs kvs
  | .row xs => pv = .ref c ∧ ∃ vs, H c = some (.lst vs) ∧ LVR H vs xs
  | .wat s g => VR H pv (if g then .non else .ref s)
/-- the thing n stands at a, its parts at c -/
def ThAt (K : PySem.W.Frag) (H : Hp) (a c : Addr) (n : Nat) (t : Th) : Prop :=
  ∃ dx pv, H a = some (.ins (ga K t.body.cls) dx (thF n t.body.kind (t.last != .no) (t.last == .due) t.goal t.body.part pv)) ∧ BodyAt H c pv t.body
/-- what it owns -/
def Body.own (a c : Addr) : Body → List Addr
  | .wat _ _ => [a]
  | _ => [a, c]
def heF (n t : Addr) (made : Nat) (ch : V) : List (Str × V) := [("names", .ref n), ("things", .ref t), ("made", .int (made : Int)), ("change", ch)]
section
variable {n t u : Addr} {made m : Nat} {ch v : V}
theorem heF_names : (heF n t made ch).lookup ("names" : Str) = some (.ref n) := by kernel_rfl
theorem heF_things : (heF n t made ch).lookup ("things" : Str) = some (.ref t) := by kernel_rfl
theorem heF_made : (heF n t made ch).lookup ("made" : Str) = some (.int made) := by kernel_rfl
theorem heF_change : (heF n t made ch).lookup ("change" : Str) = some ch := by kernel_rfl
theorem heF_put_change : putF "change" v (heF n t made ch) = heF n t made v := by kernel_rfl
theorem heF_put_made : putF "made" (.int (m : Int)) (heF n t made ch) = heF n t m ch := by kernel_rfl
theorem heF_len : (heF n t made ch).length < 1000 := by show 4 < 1000; decide
end
def Body.isWat : Body → Bool
  | .wat _ _ => true
  | _ => false
/-- the dicts and lists that are no object's alone by what they are -/
structure Apart (S : Sta) (live : List Nat) (n t : Addr) (C : Nat → Addr) : Prop where
  nt : n ≠ t
  cn : ∀ k ∈ live, (S.th k).body.isWat = false → C k ≠ n ∧ C k ≠ t
  cc : ∀ j ∈ live, ∀ k ∈ live, (S.th j).body.isWat = false → (S.th k).body.isWat = false → j ≠ k → C j ≠ C k
/-- an object that may change -/
def NS (H : Hp) (b : Addr) : Prop := ∃ o, H b = some o ∧ still o = false
theorem NS.ne {H : Hp} {b : Addr} (h : NS H b) : H b ≠ none := by
  obtain ⟨o, e, _⟩ := h
  rw [e]; intro z; cases z
theorem NS.put {H : Hp} {a b : Addr} {o : HO} (ho : still o = false) (h : NS H b) : NS (upd H a o) b := by
  by_cases z : b = a
  · exact ⟨o, by rw [z, upd_same], ho⟩
  · obtain ⟨u, e, q⟩ := h
    exact ⟨u, by rw [upd_ne z]; exact e, q⟩
theorem NS.same {H H' : Hp} {b : Addr} (s : Same H H') (h : NS H b) : NS H' b := by
  obtain ⟨o, e, q⟩ := h
  exact ⟨o, s _ _ e, q⟩
structure Owned (H : Hp) (S : Sta) (live : List Nat) (O : List Addr) (h n t : Addr) (A C : Nat → Addr) : Prop where
  h : h ∈ O
  n : n ∈ O
  t : t ∈ O
  a : ∀ k ∈ live, A k ∈ O
  c : ∀ k ∈ live, (S.th k).body.isWat = false → C k ∈ O
  tr : ∀ b ∈ O, NS H b
theorem Owned.heap {H H' : Hp} {S : Sta} {live : List Nat} {O : List Addr} {h n t : Addr} {A C : Nat → Addr} (o : Owned H S live O h n t A C) (hh : ∀ b, NS H b → NS H' b) : Owned H' S live O h n t A C :=
  ⟨o.h, o.n, o.t, o.a, o.c, fun b hb => hh b (o.tr b hb)⟩
theorem upd_some {H : Hp} {a b : Addr} {o : HO} (h : H b ≠ none) : upd H a o b ≠ none := by
  unfold upd; split
  · intro z; cases z
  · exact h
theorem same_some {H H' : Hp} (s : Same H H') {b : Addr} (h : H b ≠ none) : H' b ≠ none := by
  cases e : H b with
  | none => exact absurd e h
  | some o => rw [s b o e]; intro z; cases z
/-- the heap object at h bears the state S, of whose things those in live are there; what it may change lies in O -/
def HeapX (K : PySem.W.Frag) (H : Hp) (h : Addr) (S : Sta) (live : List Nat) (O : List Addr) (dh n t : Addr) (ch : V) (A C : Nat → Addr) : Prop :=
  ∃ (vs : List (Key × V)), H h = some (.ins (ga K "Heap") dh (heF n t S.made ch)) ∧ H n = some (.dK vs) ∧ KVR H vs S.names ∧
    H t = some (.dK (live.map fun (k : Nat) => ((.inl (k : Int) : Key), V.ref (A k)))) ∧ (∀ k ∈ live, ThAt K H (A k) (C k) k (S.th k)) ∧ Apart S live n t C ∧ Owned H S live O h n t A C
def HeapAt (K : PySem.W.Frag) (H : Hp) (h : Addr) (S : Sta) (live : List Nat) (O : List Addr) : Prop :=
  ∃ (dh n t : Addr) (ch : V) (A C : Nat → Addr), HeapX K H h S live O dh n t ch A C
theorem BodyAt.same {H H' : Hp} (s : Same H H') {c : Addr} {pv : V} : {b : Body} → BodyAt H c pv b → BodyAt H' c pv b
  | .dic _ _, ⟨e, vs, h1, h2⟩ => ⟨e, vs, s _ _ h1, KVR.mono (Same.tup s) h2⟩
  | .row _, ⟨e, vs, h1, h2⟩ => ⟨e, vs, s _ _ h1, LVR.mono (Same.tup s) h2⟩
  | .wat _ _, h => VR.mono (Same.tup s) h
theorem ThAt.same {K : PySem.W.Frag} {H H' : Hp} (s : Same H H') {a c : Addr} {n : Nat} {t : Th} (h : ThAt K H a c n t) : ThAt K H' a c n t := by
  obtain ⟨dx, pv, h1, h2⟩ := h
  exact ⟨dx, pv, s _ _ h1, h2.same s⟩
theorem HeapAt.same {K : PySem.W.Frag} {H H' : Hp} (s : Same H H') {h : Addr} {S : Sta} {live : List Nat} {O : List Addr} (hh : HeapAt K H h S live O) : HeapAt K H' h S live O := by
  obtain ⟨dh, n, t, ch, A, C, vs, e1, e2, e3, e4, e5, e6, e7⟩ := hh
  exact ⟨dh, n, t, ch, A, C, vs, s _ _ e1, s _ _ e2, KVR.mono (Same.tup s) e3, s _ _ e4, fun k hk => (e5 k hk).same s, e6, e7.heap fun _ => NS.same s⟩
theorem val_live {A : Nat → Addr} : ∀ {live : List Nat} {k : Nat}, k ∈ live → valV (live.map fun (k : Nat) => ((.inl (k : Int) : Key), V.ref (A k))) (.inl (k : Int)) = some (.ref (A k))
  | j :: r, k, h => by
    by_cases e : j = k
    · subst e; exact valV_pos rfl
    · have ne : ¬ ((.inl (j : Int) : Key) = .inl (k : Int)) := fun z => e (Int.ofNat.inj (Sum.inl.inj z))
      rw [List.map_cons, valV_neg (p := ((.inl (j : Int) : Key), V.ref (A j))) ne]
      exact val_live ((List.mem_cons.mp h).elim (fun z => absurd z.symm e) id)
end WB
/-! What is asked of a thing's parts, on the abstract side. -/
namespace WB
open PySem PySem.Spec PyProof.Rows L2 He
def Body.isDic : Body → Bool
  | .dic _ _ => true
  | _ => false
def Body.isRow : Body → Bool
  | .row _ => true
  | _ => false
theorem Body.notWat {b : Body} (h : b.isWat = false) : ∀ s g, b ≠ .wat s g := by
  rintro s g rfl; cases h
def Body.has : Body → Key → Bool
  | .dic _ kvs, k => (valV kvs k).isSome
  | .row xs, k => inR 0 xs.length k
  | .wat _ _, _ => false
def Body.fits : Body → Key → Bool
  | .dic true kvs, k => (valV kvs k).isSome
  | .dic false kvs, k => (valV kvs k).isSome || (inR 0 10 k && decide (kvs.length < 6))
  | .row xs, k => inR 0 (min ((xs.length : Int) + 1) 8) k
  | .wat _ _, _ => false
def keyN : Key → Nat
  | .inl i => i.toNat
  | .inr _ => 0
def Body.at : Body → Key → V
  | .dic _ kvs, k => (valV kvs k).getD .non
  | .row xs, k => xs.getD (keyN k) .non
  | .wat _ _, _ => .non
def Body.put : Body → Key → V → Body
  | .dic r kvs, k, v => .dic r (putK kvs k v)
  | .row xs, k, v => if keyN k = xs.length then .row (xs ++ [v]) else .row (xs.set (keyN k) v)
  | b, _, _ => b
def Body.cut : Body → Key → Body
  | .dic true kvs, k => .dic true (putK kvs k .non)
  | .dic false kvs, k => .dic false (dropK kvs k)
  | .row xs, k => .row (xs.eraseIdx (keyN k))
  | b, _ => b
def Body.size : Body → Int
  | .dic true kvs => 1 + kvs.length
  | .dic false kvs => 1 + 2 * kvs.length
  | .row xs => 1 + xs.length
  | .wat _ _ => 2
theorem Body.put_cls (b : Body) (k : Key) (v : V) : (b.put k v).cls = b.cls ∧ (b.put k v).kind = b.kind ∧ (b.put k v).part = b.part ∧ ∀ a c, (b.put k v).own a c = b.own a c := by
  cases b with
  | dic r kvs => cases r <;> exact ⟨rfl, rfl, rfl, fun _ _ => rfl⟩
  | row xs =>
    by_cases e : keyN k = xs.length
    · have q : (Body.row xs).put k v = .row (xs ++ [v]) := if_pos e
      rw [q]; exact ⟨rfl, rfl, rfl, fun _ _ => rfl⟩
    · have q : (Body.row xs).put k v = .row (xs.set (keyN k) v) := if_neg e
      rw [q]; exact ⟨rfl, rfl, rfl, fun _ _ => rfl⟩
  | wat s g => exact ⟨rfl, rfl, rfl, fun _ _ => rfl⟩
theorem Body.cut_cls (b : Body) (k : Key) : (b.cut k).cls = b.cls ∧ (b.cut k).kind = b.kind ∧ (b.cut k).part = b.part ∧ ∀ a c, (b.cut k).own a c = b.own a c := by
  cases b with
  | dic r kvs => cases r <;> exact ⟨rfl, rfl, rfl, fun _ _ => rfl⟩
  | row xs => exact ⟨rfl, rfl, rfl, fun _ _ => rfl⟩
  | wat s g => exact ⟨rfl, rfl, rfl, fun _ _ => rfl⟩
/-- how a body may be -/
def Body.wf : Body → Prop
  | .dic true kvs => kvs.map (·.1) = letK
  | .dic false kvs => (kvs.map (·.1)).Nodup ∧ kvs.length ≤ 6 ∧ ∀ p ∈ kvs, ∃ i : Int, p.1 = .inl i ∧ 0 ≤ i ∧ i < 10
  | .row xs => xs.length ≤ 8
  | .wat _ _ => True
end WB
/-! Parts as they are shown. -/
namespace WB
open PySem PySem.Spec PyProof.Rows L2 He
def srtI (ks : List Int) : List Int := ks.mergeSort fun a b => decide (a ≤ b)
theorem srtI_perm (ks : List Int) : (srtI ks).Perm ks := List.mergeSort_perm _ _
theorem srtI_le (ks : List Int) : (srtI ks).Pairwise (· ≤ ·) := by
  have h := List.pairwise_mergeSort (le := fun (a b : Int) => decide (a ≤ b)) (fun a b c h1 h2 => by simp only [decide_eq_true_eq] at *; omega) (fun a b => by simp only [Bool.or_eq_true, decide_eq_true_eq]; omega) ks
  exact h.imp fun h => by simpa using h
theorem srtI_eq {ys ks : List Int} (h : ys.Perm ks) (hs : ys.Pairwise (· ≤ ·)) : ys = srtI ks :=
  List.Perm.eq_of_pairwise (fun _ _ _ _ a b => Int.le_antisymm a b) hs (srtI_le ks) (h.trans (srtI_perm ks).symm)
def bkeys (kvs : List (Key × V)) : List Int := kvs.filterMap fun p => match p.1 with | .inl i => some i | .inr _ => none
theorem bkeys_map : ∀ {kvs : List (Key × V)}, (∀ p ∈ kvs, ∃ i : Int, p.1 = .inl i ∧ 0 ≤ i ∧ i < 10) → kvs.map (·.1) = (bkeys kvs).map Sum.inl
  | [], _ => rfl
  | p :: r, h => by
    obtain ⟨i, e, _⟩ := h p List.mem_cons_self
    have ih := bkeys_map (kvs := r) fun q hq => h q (List.mem_cons_of_mem _ hq)
    have eb : bkeys (p :: r) = i :: bkeys r := by
      unfold bkeys
      rw [List.filterMap_cons, e]
    rw [eb, List.map_cons, List.map_cons, ih, e]
def lets : List Str := ["a", "b", "c", "d"]
theorem lets_eq {ys : List Str} (h : ys.Perm lets) (hs : sortedS ys = true) : ys = lets := by
  have hl : ys.length = 4 := h.length_eq
  have hm : ∀ y ∈ ys, y ∈ lets := fun y hy => h.mem_iff.mp hy
  have hn : ys.Nodup := h.nodup_iff.mpr (by decide +kernel)
  match ys, hl, hm, hn, hs with
  | [y1, y2, y3, y4], _, hm, hn, hs =>
    have key : ∀ a ∈ lets, ∀ b ∈ lets, ∀ c ∈ lets, ∀ d ∈ lets, sortedS [a, b, c, d] = true → [a, b, c, d].Nodup → [a, b, c, d] = lets := by decide +kernel
    exact key y1 (hm _ (by simp)) y2 (hm _ (by simp)) y3 (hm _ (by simp)) y4 (hm _ (by simp)) hs hn
def Body.shown : Body → List (Key × V)
  | .dic true kvs => letK.map fun k => (k, (valV kvs k).getD .non)
  | .dic false kvs => (srtI (bkeys kvs)).map fun i => (.inl i, (valV kvs (.inl i)).getD .non)
  | .row xs => xs.zipIdx.map fun p => (.inl (p.2 : Int), p.1)
  | .wat s g => [(.inr "sees", if g then .non else .ref s)]
/-- its things' numbers -/
def refs (vs : List V) : List Nat := vs.filterMap fun v => match v with | .ref k => some k | _ => none
def Body.held : Body → List Nat
  | .wat _ _ => []
  | b => refs (b.shown.map (·.2))
/-- at l a list of new pairs of part and value -/
def ShownAt (H : Hp) (l : Addr) (ps : List (Key × V)) : Prop :=
  ∃ ts : List Addr, H l = some (.lst (ts.map V.ref)) ∧ Paired (fun t p => ∃ v, H t = some (.tup [kV p.1, v]) ∧ VR H v p.2) ts ps
theorem take_snoc {α : Type} {xs : List α} {i : Nat} {x : α} (h : xs[i]? = some x) : xs.take (i + 1) = xs.take i ++ [x] := by
  rw [List.take_add_one, h]; rfl
def ShInv (H : Hp) (D : Addr) (ps : List (Key × V)) (H' : Hp) : Prop := Same H H' ∧ ShownAt H' D ps
theorem ShInv.nil {H H' : Hp} {D : Addr} (s : Same H H') (hD : H' D = none) (h0 : H D = none) : ShInv H D [] (upd H' D (.lst [])) := ⟨same_mut s h0, [], upd_same, .nil⟩
theorem ShInv.step {H H' : Hp} {D q : Addr} {ps : List (Key × V)} {k : Key} {v x : V} (h : ShInv H D ps H') (hD : H D = none) (hq : H' q = none) (r : VR H v x) :
    ∃ acc, upd H' q (.tup [kV k, v]) D = some (.lst acc) ∧ acc.length = ps.length ∧ ShInv H D (ps ++ [(k, x)]) (upd (upd H' q (.tup [kV k, v])) D (.lst (acc ++ [.ref q]))) := by
  obtain ⟨s, ts, e, pr⟩ := h
  have nDq : D ≠ q := ne_of_none e hq
  have s1 : Same H (upd H' q (.tup [kV k, v])) := same_mut s (s.free hq)
  have tp : Tup H' (upd (upd H' q (.tup [kV k, v])) D (.lst (ts.map V.ref ++ [.ref q]))) := ⟨fun b xs eb => by
    have n1 : b ≠ D := by rintro rfl; rw [e] at eb; cases eb
    rw [upd_ne n1, upd_ne (ne_of_none eb hq)]; exact eb, fun b xs eb => by
    have n1 : b ≠ D := by rintro rfl; rw [e] at eb; cases eb
    rw [upd_ne n1, upd_ne (ne_of_none eb hq)]; exact eb⟩
  refine ⟨_, by rw [upd_ne nDq]; exact e, ?_, same_mut s1 hD, ts ++ [q], ?_, ?_⟩
  · rw [List.length_map]; exact Paired.length pr
  · rw [List.map_append]; exact upd_same
  · refine Paired.app (Paired.imp (fun t p ⟨u, h1, h2⟩ => ⟨u, tp _ _ h1, VR.mono tp h2⟩) pr) (.cons ⟨v, ?_, ?_⟩ .nil)
    · rw [upd_ne nDq.symm]; exact upd_same
    · exact VR.mono tp (VR.mono (Same.tup s) r)
theorem thF_no_shown {n : Nat} {kind : Str} {got due : Bool} {goal pv : V} (b : Body) : (thF n kind got due goal b.part pv).lookup ("shown" : Str) = none := by
  cases b with
  | wat s g => kernel_rfl
  | dic r x => kernel_rfl
  | row x => kernel_rfl
theorem thF_no_has {n : Nat} {kind : Str} {got due : Bool} {goal pv : V} (b : Body) : (thF n kind got due goal b.part pv).lookup ("has" : Str) = none := by
  cases b with
  | wat s g => kernel_rfl
  | dic r x => kernel_rfl
  | row x => kernel_rfl
theorem thF_no_fits {n : Nat} {kind : Str} {got due : Bool} {goal pv : V} (b : Body) : (thF n kind got due goal b.part pv).lookup ("fits" : Str) = none := by
  cases b with
  | wat s g => kernel_rfl
  | dic r x => kernel_rfl
  | row x => kernel_rfl
theorem thF_no_at {n : Nat} {kind : Str} {got due : Bool} {goal pv : V} (b : Body) : (thF n kind got due goal b.part pv).lookup ("at" : Str) = none := by
  cases b with
  | wat s g => kernel_rfl
  | dic r x => kernel_rfl
  | row x => kernel_rfl
theorem thF_no_put {n : Nat} {kind : Str} {got due : Bool} {goal pv : V} (b : Body) : (thF n kind got due goal b.part pv).lookup ("put" : Str) = none := by
  cases b with
  | wat s g => kernel_rfl
  | dic r x => kernel_rfl
  | row x => kernel_rfl
theorem thF_no_cut {n : Nat} {kind : Str} {got due : Bool} {goal pv : V} (b : Body) : (thF n kind got due goal b.part pv).lookup ("cut" : Str) = none := by
  cases b with
  | wat s g => kernel_rfl
  | dic r x => kernel_rfl
  | row x => kernel_rfl
theorem thF_no_size {n : Nat} {kind : Str} {got due : Bool} {goal pv : V} (b : Body) : (thF n kind got due goal b.part pv).lookup ("size" : Str) = none := by
  cases b with
  | wat s g => kernel_rfl
  | dic r x => kernel_rfl
  | row x => kernel_rfl
theorem thF_no_held {n : Nat} {kind : Str} {got due : Bool} {goal pv : V} (b : Body) : (thF n kind got due goal b.part pv).lookup ("held" : Str) = none := by
  cases b with
  | wat s g => kernel_rfl
  | dic r x => kernel_rfl
  | row x => kernel_rfl
theorem Body.shown_len {b : Body} (h : b.wf) : b.shown.length ≤ 8 := by
  cases b with
  | dic r kvs =>
    cases r with
    | true => show (List.map _ _).length ≤ 8; rw [List.length_map]; decide
    | false =>
      show (List.map _ _).length ≤ 8
      rw [List.length_map, (srtI_perm _).length_eq]
      exact Nat.le_trans (List.length_filterMap_le _ _) (Nat.le_trans h.2.1 (by decide))
  | row xs =>
    show (List.map _ _).length ≤ 8
    rw [List.length_map, List.length_zipIdx]; exact h
  | wat s g => show 1 ≤ 8; decide
theorem refs_app (xs ys : List V) : refs (xs ++ ys) = refs xs ++ refs ys := List.filterMap_append
theorem Body.held_eq {b : Body} (h : b.isWat = false) : b.held = refs (b.shown.map (·.2)) := by
  cases b with
  | wat s g => cases h
  | _ => rfl
theorem Body.held_len {b : Body} (h : b.wf) : b.held.length ≤ 8 := by
  cases eW : b.isWat with
  | true =>
    cases b with
    | wat s g => exact Nat.zero_le _
    | dic r x => cases eW
    | row x => cases eW
  | false =>
    rw [Body.held_eq eW]
    refine Nat.le_trans (List.length_filterMap_le _ _) ?_
    rw [List.length_map]; exact Body.shown_len h
end WB
/-! Who is come to. -/
namespace WB
open PySem PySem.Spec PyProof.Rows L2 He
/-- among am, from st along nx -/
inductive Rch (nx : Nat → List Nat) (am : Nat → Prop) (st : List Nat) : Nat → Prop
  | start {k : Nat} (h : k ∈ st) (ha : am k) : Rch nx am st k
  | step {j k : Nat} (h : Rch nx am st j) (hk : k ∈ nx j) (ha : am k) : Rch nx am st k
theorem Rch.am {nx : Nat → List Nat} {am : Nat → Prop} {st : List Nat} {k : Nat} (h : Rch nx am st k) : am k := by cases h <;> assumption
/-- the walk's word: F found, W waiting -/
structure Seek (nx : Nat → List Nat) (am : Nat → Prop) (st F W : List Nat) : Prop where
  nd : F.Nodup
  fr : ∀ k ∈ F, Rch nx am st k
  wr : ∀ k ∈ W, am k → Rch nx am st k
  st : ∀ k ∈ st, am k → k ∈ F ∨ k ∈ W
  cl : ∀ j ∈ F, ∀ k ∈ nx j, am k → k ∈ F ∨ k ∈ W
theorem Seek.init {nx : Nat → List Nat} {am : Nat → Prop} {st : List Nat} : Seek nx am st [] st :=
  ⟨List.nodup_nil, (fun _ h => nomatch h), fun _ h a => .start h a, fun _ h _ => .inr h, (fun _ h => nomatch h)⟩
theorem Seek.skip {nx : Nat → List Nat} {am : Nat → Prop} {st F W : List Nat} {x : Nat} (s : Seek nx am st F (W ++ [x])) (h : ¬ (am x ∧ x ∉ F)) : Seek nx am st F W := by
  have drop : ∀ k, am k → k ∈ F ∨ k ∈ W ++ [x] → k ∈ F ∨ k ∈ W := fun k ha hk => by
    rcases hk with hk | hk
    · exact .inl hk
    · rcases List.mem_append.mp hk with hk | hk
      · exact .inr hk
      · rw [List.mem_singleton] at hk
        subst hk
        by_cases q : k ∈ F
        · exact .inl q
        · exact absurd ⟨ha, q⟩ h
  exact ⟨s.nd, s.fr, fun k hk => s.wr k (List.mem_append_left _ hk), fun k hk ha => drop k ha (s.st k hk ha), fun j hj k hk ha => drop k ha (s.cl j hj k hk ha)⟩
theorem Seek.take {nx : Nat → List Nat} {am : Nat → Prop} {st F W : List Nat} {x : Nat} (s : Seek nx am st F (W ++ [x])) (ha : am x) (hx : x ∉ F) : Seek nx am st (F ++ [x]) (W ++ nx x) := by
  have rx : Rch nx am st x := s.wr x (by simp) ha
  have go : ∀ k, k ∈ F ∨ k ∈ W ++ [x] → k ∈ F ++ [x] ∨ k ∈ W ++ nx x := fun k hk => by
    rcases hk with hk | hk
    · exact .inl (List.mem_append_left _ hk)
    · rcases List.mem_append.mp hk with hk | hk
      · exact .inr (List.mem_append_left _ hk)
      · exact .inl (List.mem_append_right _ hk)
  refine ⟨?_, fun k hk => ?_, fun k hk hka => ?_, fun k hk hka => go k (s.st k hk hka), fun j hj k hk hka => ?_⟩
  · exact nd_snoc s.nd hx
  · rcases List.mem_append.mp hk with hk | hk
    · exact s.fr k hk
    · rw [List.mem_singleton] at hk; subst hk; exact rx
  · rcases List.mem_append.mp hk with hk | hk
    · exact s.wr k (List.mem_append_left _ hk) hka
    · exact .step rx hk hka
  · rcases List.mem_append.mp hj with hj | hj
    · exact go k (s.cl j hj k hk hka)
    · rw [List.mem_singleton] at hj; subst hj
      exact .inr (List.mem_append_right _ hk)
theorem Seek.done {nx : Nat → List Nat} {am : Nat → Prop} {st F : List Nat} (s : Seek nx am st F []) (k : Nat) : k ∈ F ↔ Rch nx am st k := by
  refine ⟨s.fr k, fun h => ?_⟩
  induction h with
  | start h ha => exact (s.st _ h ha).elim id fun z => nomatch z
  | step _ hk ha ih => exact (s.cl _ ih _ hk ha).elim id fun z => nomatch z
theorem nodup_sub_len : ∀ {F am : List Nat}, F.Nodup → (∀ k ∈ F, k ∈ am) → F.length ≤ am.length
  | [], _, _, _ => Nat.zero_le _
  | x :: F, am, nd, h => by
    obtain ⟨n1, n2⟩ := List.nodup_cons.mp nd
    have hx : x ∈ am := h x List.mem_cons_self
    have ih := nodup_sub_len (F := F) (am := am.erase x) n2 fun k hk => (List.mem_erase_of_ne (by rintro rfl; exact n1 hk)).mpr (h k (List.mem_cons_of_mem _ hk))
    rw [List.length_erase_of_mem hx] at ih
    have : 0 < am.length := List.length_pos_of_mem hx
    rw [List.length_cons]; omega
/-- ints of numbers -/
def nV (ks : List Nat) : List V := ks.map fun (k : Nat) => V.int (k : Int)
def foundD (ks : List Nat) : List (Key × V) := ks.map fun (k : Nat) => ((.inl (k : Int) : Key), V.bl true)
theorem val_keys {kvs : List (Key × V)} {am : List Nat} (h : kvs.map (·.1) = am.map fun (k : Nat) => (.inl (k : Int) : Key)) (k : Nat) : (valV kvs (.inl (k : Int))).isSome = decide (k ∈ am) := by
  have mem : (.inl (k : Int) : Key) ∈ kvs.map (·.1) ↔ k ∈ am := by
    rw [h, List.mem_map]
    exact ⟨fun ⟨j, hj, e⟩ => by have : j = k := Int.ofNat.inj (Sum.inl.inj e); exact this ▸ hj, fun hk => ⟨k, hk, rfl⟩⟩
  cases e : valV kvs (.inl (k : Int)) with
  | some v => rw [decide_eq_true (mem.mp (valV_in e))]; rfl
  | none => rw [decide_eq_false (fun z => valV_not e (mem.mpr z))]; rfl
theorem foundD_keys (ks : List Nat) : (foundD ks).map (·.1) = ks.map fun (k : Nat) => (.inl (k : Int) : Key) := by
  unfold foundD; rw [List.map_map]; rfl
theorem foundD_put {ks : List Nat} {k : Nat} (h : k ∉ ks) : putK (foundD ks) (.inl (k : Int)) (.bl true) = foundD (ks ++ [k]) := by
  have e : valV (foundD ks) (.inl (k : Int)) = none := by
    have := val_keys (foundD_keys ks) k
    rw [decide_eq_false h] at this
    cases q : valV (foundD ks) (.inl (k : Int)) with
    | none => rfl
    | some v => rw [q] at this; cases this
  rw [putK_new _ e]
  unfold foundD; rw [List.map_append]; rfl
theorem nV_snoc {xs : List V} {ks : List Nat} {x : V} (h : xs = nV ks) (hx : xs[xs.length - 1]? = some x) : ∃ (W : List Nat) (k : Nat), ks = W ++ [k] ∧ x = .int (k : Int) ∧ xs.dropLast = nV W := by
  subst h
  have hne : ks ≠ [] := by
    rintro rfl
    simp [nV] at hx
  refine ⟨ks.dropLast, ks.getLast hne, (List.dropLast_concat_getLast hne).symm, ?_, ?_⟩
  · unfold nV at hx
    rw [List.getElem?_map, List.length_map] at hx
    have e : ks[ks.length - 1]? = some (ks.getLast hne) := by rw [← List.getLast?_eq_getElem?]; exact List.getLast?_eq_some_getLast hne
    rw [e] at hx
    exact (Option.some.inj hx).symm
  · unfold nV; rw [List.map_dropLast]
end WB
/-! How what bears a state is changed in one place. -/
namespace WB
open PySem PySem.Spec PyProof.Rows L2 He
theorem tup_upd {H : Hp} {c : Addr} {o : HO} (h : ∀ u, H c = some u → still u = false) : Tup H (upd H c o) := ⟨fun b xs e => by
  have n : b ≠ c := by rintro rfl; cases h _ e
  rw [upd_ne n]; exact e, fun b xs e => by
  have n : b ≠ c := by rintro rfl; cases h _ e
  rw [upd_ne n]; exact e⟩
section
variable {K : PySem.W.Frag} {H : Hp} {h dh n t : Addr} {S : Sta} {live O : List Nat} {ch : V} {A C : Nat → Addr}
theorem thF_ne_heF {m : Nat} {k : Str} {g d : Bool} {gl : V} {pn : Str} {v : V} {n t : Addr} {made : Nat} {ch : V} : thF m k g d gl pn v ≠ heF n t made ch := by
  intro e
  have e1 := congrArg List.length e
  cases e1
theorem thF_inj {m j : Nat} {k k' : Str} {g d g' d' : Bool} {gl gl' : V} {pn pn' : Str} {v v' : V} (e : thF m k g d gl pn v = thF j k' g' d' gl' pn' v') : m = j := by
  unfold thF at e
  injection e with e1 _
  injection e1 with _ e2
  injection e2 with e3
  exact Int.ofNat.inj e3
theorem ThAt.ins {a c : Addr} {k : Nat} {th : Th} (x : ThAt K H a c k th) : ∃ C dx m kd g d gl pn v, H a = some (.ins C dx (thF m kd g d gl pn v)) ∧ m = k :=
  let ⟨dx, pv, h1, _⟩ := x; ⟨_, dx, _, _, _, _, _, _, pv, h1, rfl⟩
/-- a thing's other half: its parts -/
theorem ThAt.cell {a c : Addr} {k : Nat} {th : Th} (x : ThAt K H a c k th) (w : th.body.isWat = false) : ∃ o, H c = some o ∧ (∀ C d fs, o ≠ .ins C d fs) ∧ still o = false := by
  obtain ⟨dx, pv, _, h2⟩ := x
  cases e : th.body with
  | wat s g => rw [e] at w; cases w
  | dic r kvs => rw [e] at h2; obtain ⟨_, vs, h3, _⟩ := h2; exact ⟨_, h3, (by intro _ _ _ z; cases z), rfl⟩
  | row xs => rw [e] at h2; obtain ⟨_, vs, h3, _⟩ := h2; exact ⟨_, h3, (by intro _ _ _ z; cases z), rfl⟩
/-- it stands where nothing of it is changed -/
theorem ThAt.off {a c x : Addr} {k : Nat} {th : Th} {o : HO} (y : ThAt K H a c k th) (tp : Tup H (upd H x o)) (ha : a ≠ x) (hc : th.body.isWat = false → c ≠ x) : ThAt K (upd H x o) a c k th := by
  obtain ⟨dx, pv, h1, h2⟩ := y
  refine ⟨dx, pv, by rw [upd_ne ha]; exact h1, ?_⟩
  cases e : th.body with
  | wat s g => rw [e] at h2; exact VR.mono tp h2
  | dic r kvs =>
    rw [e] at h2 hc; obtain ⟨q, vs, h3, h4⟩ := h2
    exact ⟨q, vs, by rw [upd_ne (hc rfl)]; exact h3, KVR.mono tp h4⟩
  | row xs =>
    rw [e] at h2 hc; obtain ⟨q, vs, h3, h4⟩ := h2
    exact ⟨q, vs, by rw [upd_ne (hc rfl)]; exact h3, LVR.mono tp h4⟩
theorem setTh_eq {k : Nat} {x : Th} : (S.setTh k x).th k = x := if_pos rfl
theorem setTh_ne {k j : Nat} {x : Th} (e : j ≠ k) : (S.setTh k x).th j = S.th j := if_neg e
theorem Apart.setTh {k : Nat} {x : Th} (a : Apart S live n t C) (w : x.body.isWat = (S.th k).body.isWat) : Apart (S.setTh k x) live n t C := by
  have q : ∀ j, ((S.setTh k x).th j).body.isWat = (S.th j).body.isWat := fun j => by
    by_cases e : j = k
    · subst e; rw [setTh_eq]; exact w
    · rw [setTh_ne e]
  exact ⟨a.nt, fun j hj hw => a.cn j hj (by rw [← q]; exact hw), fun i hi j hj h1 h2 e => a.cc i hi j hj (by rw [← q]; exact h1) (by rw [← q]; exact h2) e⟩
theorem Owned.setTh {k : Nat} {x : Th} (a : Owned H S live O h n t A C) (w : x.body.isWat = (S.th k).body.isWat) : Owned H (S.setTh k x) live O h n t A C := by
  refine ⟨a.h, a.n, a.t, a.a, fun j hj hw => a.c j hj ?_, a.tr⟩
  by_cases e : j = k
  · subst e; rw [setTh_eq] at hw; rw [← w]; exact hw
  · rw [setTh_ne e] at hw; exact hw
/-- the parts of one thing change -/
theorem HeapX.cell {k : Nat} {o : HO} {x : Th} (X : HeapX K H h S live O dh n t ch A C) (hk : k ∈ live) (w0 : (S.th k).body.isWat = false) (w1 : x.body.isWat = false) (hx : ThAt K (upd H (C k) o) (A k) (C k) k x) :
    HeapX K (upd H (C k) o) h (S.setTh k x) live O dh n t ch A C := by
  obtain ⟨vs, e1, e2, e3, e4, e5, e6, e7⟩ := X
  obtain ⟨o0, c1, c2, c3⟩ := (e5 k hk).cell w0
  have tp : Tup H (upd H (C k) o) := tup_upd (by rw [c1]; intro xs z; cases z; exact c3)
  have nh : h ≠ C k := by rintro z; rw [z, c1] at e1; exact c2 _ _ _ (Option.some.inj e1)
  have so : still o = false := by
    obtain ⟨o1, d1, _, d3⟩ := hx.cell w1
    rw [upd_same] at d1
    cases d1
    exact d3
  refine ⟨vs, by rw [upd_ne nh]; exact e1, by rw [upd_ne (e6.cn k hk w0).1.symm]; exact e2, KVR.mono tp e3, by rw [upd_ne (e6.cn k hk w0).2.symm]; exact e4, fun j hj => ?_, e6.setTh (w1.trans w0.symm), (e7.setTh (w1.trans w0.symm)).heap fun _ => NS.put so⟩
  by_cases e : j = k
  · subst e; rw [setTh_eq]; exact hx
  · rw [setTh_ne e]
    obtain ⟨_, _, _, _, _, _, _, _, _, q1, _⟩ := (e5 j hj).ins
    refine (e5 j hj).off tp ?_ fun wj => e6.cc j hj k hk wj w0 e
    intro z; rw [z, c1] at q1; exact c2 _ _ _ (Option.some.inj q1)
/-- the attributes of one thing change -/
theorem HeapX.inst {k : Nat} {o : HO} {x : Th} (X : HeapX K H h S live O dh n t ch A C) (hk : k ∈ live) (w : x.body.isWat = (S.th k).body.isWat) (hx : ThAt K (upd H (A k) o) (A k) (C k) k x) :
    HeapX K (upd H (A k) o) h (S.setTh k x) live O dh n t ch A C := by
  obtain ⟨vs, e1, e2, e3, e4, e5, e6, e7⟩ := X
  obtain ⟨C0, d0, m0, kd, g0, u0, gl, pn, v0, q1, q2⟩ := (e5 k hk).ins
  have tp : Tup H (upd H (A k) o) := tup_upd (by rw [q1]; intro xs z; cases z; rfl)
  have so : still o = false := by
    obtain ⟨_, _, _, _, _, _, _, _, _, z1, _⟩ := hx.ins
    rw [upd_same] at z1
    cases z1
    rfl
  have nh : h ≠ A k := by
    rintro z; rw [z, q1] at e1
    injection e1 with e1; injection e1 with _ _ e1
    exact thF_ne_heF e1
  have nn : n ≠ A k := by rintro z; rw [z, q1] at e2; cases e2
  have nt : t ≠ A k := by rintro z; rw [z, q1] at e4; cases e4
  refine ⟨vs, by rw [upd_ne nh]; exact e1, by rw [upd_ne nn]; exact e2, KVR.mono tp e3, by rw [upd_ne nt]; exact e4, fun j hj => ?_, e6.setTh w, (e7.setTh w).heap fun _ => NS.put so⟩
  by_cases e : j = k
  · subst e; rw [setTh_eq]; exact hx
  · rw [setTh_ne e]
    obtain ⟨C1, d1, m1, kd1, g1, u1, gl1, pn1, v1, p1, p2⟩ := (e5 j hj).ins
    refine (e5 j hj).off tp ?_ fun wj => ?_
    · intro z; rw [z, q1] at p1
      injection p1 with p1; injection p1 with _ _ p1
      exact e (p2.symm.trans ((thF_inj p1).symm.trans q2))
    · obtain ⟨o1, c1, c2, _⟩ := (e5 j hj).cell wj
      intro z; rw [z, q1] at c1; exact c2 _ _ _ (Option.some.inj c1).symm
/-- the names change -/
theorem HeapX.name {vs' ns : List (Key × V)} (X : HeapX K H h S live O dh n t ch A C) (hr : KVR (upd H n (.dK vs')) vs' ns) : HeapX K (upd H n (.dK vs')) h { S with names := ns } live O dh n t ch A C := by
  obtain ⟨vs, e1, e2, e3, e4, e5, e6, e7⟩ := X
  have tp : Tup H (upd H n (.dK vs')) := tup_upd (by rw [e2]; intro xs z; cases z; rfl)
  have nh : h ≠ n := by rintro z; rw [z, e2] at e1; cases e1
  refine ⟨vs', by rw [upd_ne nh]; exact e1, upd_same, hr, by rw [upd_ne e6.nt.symm]; exact e4, fun j hj => ?_, ⟨e6.nt, e6.cn, e6.cc⟩, ⟨e7.h, e7.n, e7.t, e7.a, e7.c, fun b hb => NS.put rfl (e7.tr b hb)⟩⟩
  obtain ⟨_, _, _, _, _, _, _, _, _, q1, _⟩ := (e5 j hj).ins
  exact (e5 j hj).off tp (by rintro z; rw [z, e2] at q1; cases q1) fun wj => (e6.cn j hj wj).1
/-- what changed last is noted -/
theorem HeapX.change {v : V} (X : HeapX K H h S live O dh n t ch A C) : HeapX K (upd H h (.ins (ga K "Heap") dh (heF n t S.made v))) h S live O dh n t v A C := by
  obtain ⟨vs, e1, e2, e3, e4, e5, e6, e7⟩ := X
  have tp : Tup H (upd H h (.ins (ga K "Heap") dh (heF n t S.made v))) := tup_upd (by rw [e1]; intro xs z; cases z; rfl)
  have nn : n ≠ h := by rintro z; rw [z, e1] at e2; cases e2
  have nt : t ≠ h := by rintro z; rw [z, e1] at e4; cases e4
  refine ⟨vs, upd_same, by rw [upd_ne nn]; exact e2, KVR.mono tp e3, by rw [upd_ne nt]; exact e4, fun j hj => ?_, e6, e7.heap fun _ => NS.put rfl⟩
  obtain ⟨C1, d1, m1, kd1, g1, u1, gl1, pn1, v1, p1, p2⟩ := (e5 j hj).ins
  refine (e5 j hj).off tp ?_ fun wj => ?_
  · intro z; rw [z, e1] at p1
    injection p1 with p1; injection p1 with _ _ p1
    exact thF_ne_heF p1.symm
  · obtain ⟨o1, c1, c2, _⟩ := (e5 j hj).cell wj
    intro z; rw [z, e1] at c1; exact c2 _ _ _ (Option.some.inj c1).symm
theorem HeapX.same {H' : Hp} (s : Same H H') (X : HeapX K H h S live O dh n t ch A C) : HeapX K H' h S live O dh n t ch A C := by
  obtain ⟨vs, e1, e2, e3, e4, e5, e6, e7⟩ := X
  exact ⟨vs, s _ _ e1, s _ _ e2, KVR.mono (Same.tup s) e3, s _ _ e4, fun k hk => (e5 k hk).same s, e6, e7.heap fun _ => NS.same s⟩
def Sta.add (S : Sta) (x : Th) : Sta := { S with made := S.made + 1, th := fun j => if j = S.made then x else S.th j }
def addF {α : Type} (m : Nat) (a : α) (A : Nat → α) : Nat → α := fun j => if j = m then a else A j
theorem addF_eq {α : Type} {m : Nat} {a : α} {A : Nat → α} : addF m a A m = a := if_pos rfl
theorem addF_ne {α : Type} {m j : Nat} {a : α} {A : Nat → α} (h : j ≠ m) : addF m a A j = A j := if_neg h
theorem put_live {A : Nat → Addr} {live : List Nat} {m : Nat} {a : Addr} (h : m ∉ live) :
    putK (live.map fun (k : Nat) => ((.inl (k : Int) : Key), V.ref (A k))) (.inl (m : Int)) (.ref a) = (live ++ [m]).map fun (k : Nat) => ((.inl (k : Int) : Key), V.ref (addF m a A k)) := by
  have e : valV (live.map fun (k : Nat) => ((.inl (k : Int) : Key), V.ref (A k))) (.inl (m : Int)) = none := by
    have q := val_keys (kvs := live.map fun (k : Nat) => ((.inl (k : Int) : Key), V.ref (A k))) (am := live) (by rw [List.map_map]; rfl) m
    rw [decide_eq_false h] at q
    cases z : valV (live.map fun (k : Nat) => ((.inl (k : Int) : Key), V.ref (A k))) (.inl (m : Int)) with
    | none => rfl
    | some v => rw [z] at q; cases q
  rw [putK_new _ e, List.map_append]
  congr 1
  · apply List.map_congr_left
    intro k hk
    rw [addF_ne (by rintro rfl; exact h hk)]
  · show _ = [((.inl (m : Int) : Key), V.ref (addF m a A m))]
    rw [addF_eq]
/-- a thing comes to the others -/
theorem HeapX.add {a c : Addr} {x : Th} (X : HeapX K H h S live O dh n t ch A C) (hm : ∀ k ∈ live, k < S.made) (hx : ThAt K H a c S.made x) (hc : x.body.isWat = false → c ∉ O) (hcs : NS H c) :
    HeapX K (upd (upd H t (.dK (putK (live.map fun (k : Nat) => ((.inl (k : Int) : Key), V.ref (A k))) (.inl (S.made : Int)) (.ref a)))) h (.ins (ga K "Heap") dh (heF n t (S.made + 1) ch))) h (S.add x) (live ++ [S.made]) (a :: c :: O) dh n t ch (addF S.made a A) (addF S.made c C) := by
  obtain ⟨vs, e1, e2, e3, e4, e5, e6, e7⟩ := X
  have nm : S.made ∉ live := fun z => Nat.lt_irrefl _ (hm _ z)
  rw [put_live nm]
  generalize ed : (live ++ [S.made]).map (fun (k : Nat) => ((.inl (k : Int) : Key), V.ref (addF S.made a A k))) = d'
  have nht : h ≠ t := by rintro z; rw [z, e4] at e1; cases e1
  have nhn : h ≠ n := by rintro z; rw [z, e2] at e1; cases e1
  have tp1 : Tup H (upd H t (.dK d')) := tup_upd (by rw [e4]; intro xs z; cases z; rfl)
  have tp2 : Tup (upd H t (.dK d')) (upd (upd H t (.dK d')) h (.ins (ga K "Heap") dh (heF n t (S.made + 1) ch))) := tup_upd (by rw [upd_ne nht, e1]; intro xs z; cases z; rfl)
  have two : ∀ {a c : Addr} {k : Nat} {th : Th}, ThAt K H a c k th → (th.body.isWat = false → c ≠ t) → ThAt K (upd (upd H t (.dK d')) h (.ins (ga K "Heap") dh (heF n t (S.made + 1) ch))) a c k th := fun {a c k th} y hct => by
    obtain ⟨C1, d1, m1, kd1, g1, u1, gl1, pn1, v1, p1, p2⟩ := y.ins
    have nah : a ≠ h := by
      intro z; rw [z, e1] at p1
      injection p1 with p1; injection p1 with _ _ p1
      exact thF_ne_heF p1.symm
    refine (y.off tp1 (by intro z; rw [z, e4] at p1; cases p1) hct).off tp2 nah fun w z => ?_
    obtain ⟨o, q1, q2, _⟩ := y.cell w
    rw [z, e1] at q1
    exact q2 _ _ _ (Option.some.inj q1).symm
  have thm : (S.add x).th S.made = x := if_pos rfl
  have thn : ∀ k ∈ live, (S.add x).th k = S.th k := fun k hk => if_neg (Nat.ne_of_lt (hm k hk))
  have An : ∀ k ∈ live, addF S.made a A k = A k := fun k hk => addF_ne (Nat.ne_of_lt (hm k hk))
  have Cn : ∀ k ∈ live, addF S.made c C k = C k := fun k hk => addF_ne (Nat.ne_of_lt (hm k hk))
  have cs : ∀ k ∈ live ++ [S.made], k ∈ live ∨ k = S.made := fun k hk => (List.mem_append.mp hk).imp_right List.mem_singleton.mp
  refine ⟨vs, upd_same, by rw [upd_ne nhn.symm, upd_ne e6.nt]; exact e2, KVR.mono (tp1.trans tp2) e3, ?_, fun k hk => ?_, ⟨e6.nt, fun k hk hw => ?_, fun i hi j hj h1 h2 ne => ?_⟩, ⟨?_, ?_, ?_, fun k hk => ?_, fun k hk hw => ?_, fun b hb => ?_⟩⟩
  · rw [upd_ne nht.symm, upd_same, ed]
  · rcases cs k hk with q | rfl
    · rw [An k q, Cn k q, thn k q]; exact two (e5 k q) fun w => (e6.cn k q w).2
    · rw [addF_eq, addF_eq, thm]; exact two hx fun w z => hc w (z ▸ e7.t)
  · rcases cs k hk with q | rfl
    · rw [Cn k q]; rw [thn k q] at hw; exact e6.cn k q hw
    · rw [addF_eq]; rw [thm] at hw; exact ⟨fun z => hc hw (z ▸ e7.n), fun z => hc hw (z ▸ e7.t)⟩
  · rcases cs i hi with q | rfl
    · rw [thn i q] at h1
      rw [Cn i q]
      rcases cs j hj with q2 | rfl
      · rw [thn j q2] at h2; rw [Cn j q2]; exact e6.cc i q j q2 h1 h2 ne
      · rw [thm] at h2; rw [addF_eq]; exact fun z => hc h2 (z ▸ e7.c i q h1)
    · rw [thm] at h1
      rw [addF_eq]
      rcases cs j hj with q2 | rfl
      · rw [thn j q2] at h2; rw [Cn j q2]; exact fun z => hc h1 (z ▸ e7.c j q2 h2)
      · exact absurd rfl ne
  · exact List.mem_cons_of_mem _ (List.mem_cons_of_mem _ e7.h)
  · exact List.mem_cons_of_mem _ (List.mem_cons_of_mem _ e7.n)
  · exact List.mem_cons_of_mem _ (List.mem_cons_of_mem _ e7.t)
  · rcases cs k hk with q | rfl
    · rw [An k q]; exact List.mem_cons_of_mem _ (List.mem_cons_of_mem _ (e7.a k q))
    · rw [addF_eq]; exact List.mem_cons_self
  · rcases cs k hk with q | rfl
    · rw [thn k q] at hw; rw [Cn k q]; exact List.mem_cons_of_mem _ (List.mem_cons_of_mem _ (e7.c k q hw))
    · rw [addF_eq]; exact List.mem_cons_of_mem _ List.mem_cons_self
  · refine NS.put rfl (NS.put rfl ?_)
    rcases List.mem_cons.mp hb with rfl | hb
    · obtain ⟨_, _, _, _, _, _, _, _, _, q1, _⟩ := hx.ins
      exact ⟨_, q1, rfl⟩
    · rcases List.mem_cons.mp hb with rfl | hb
      · exact hcs
      · exact e7.tr b hb
theorem BodyAt.off {c x : Addr} {pv : V} {b : Body} {o : HO} (y : BodyAt H c pv b) (tp : Tup H (upd H x o)) (hc : b.isWat = false → c ≠ x) : BodyAt (upd H x o) c pv b := by
  cases b with
  | wat s g => exact VR.mono tp y
  | dic r kvs =>
    obtain ⟨q, vs, h3, h4⟩ := y
    exact ⟨q, vs, by rw [upd_ne (hc rfl)]; exact h3, KVR.mono tp h4⟩
  | row xs =>
    obtain ⟨q, vs, h3, h4⟩ := y
    exact ⟨q, vs, by rw [upd_ne (hc rfl)]; exact h3, LVR.mono tp h4⟩
/-- last deeds come and go -/
theorem ThAt.attr {a c dx : Addr} {pv : V} {k : Nat} {th : Th} (h1 : H a = some (.ins (ga K th.body.cls) dx (thF k th.body.kind (th.last != .no) (th.last == .due) th.goal th.body.part pv))) (h2 : BodyAt H c pv th.body) (x : Th) (eb : x.body = th.body) :
    ThAt K (upd H a (.ins (ga K th.body.cls) dx (thF k th.body.kind (x.last != .no) (x.last == .due) x.goal th.body.part pv))) a c k x := by
  have tp : Tup H (upd H a (.ins (ga K th.body.cls) dx (thF k th.body.kind (x.last != .no) (x.last == .due) x.goal th.body.part pv))) := tup_upd (by rw [h1]; intro xs z; cases z; rfl)
  refine ⟨dx, pv, by rw [upd_same, eb], ?_⟩
  rw [eb]
  refine h2.off tp fun w z => ?_
  obtain ⟨o, q1, q2, _⟩ := (show ThAt K H a c k th from ⟨dx, pv, h1, h2⟩).cell w
  rw [z, h1] at q1
  exact q2 _ _ _ (Option.some.inj q1).symm
/-- a watch becomes blind -/
theorem ThAt.blind {a c dx : Addr} {pv : V} {k : Nat} {th : Th} {s : Nat} {g : Bool} (eb : th.body = .wat s g) (h1 : H a = some (.ins (ga K th.body.cls) dx (thF k th.body.kind (th.last != .no) (th.last == .due) th.goal th.body.part pv))) :
    ThAt K (upd H a (.ins (ga K "Watch") dx (thF k "watch" (th.last != .no) (th.last == .due) th.goal "sees" .non))) a c k { th with body := .wat s true } :=
  ⟨dx, .non, upd_same, rfl⟩
theorem HeapX.congr {S' : Sta} (X : HeapX K H h S live O dh n t ch A C) (hn : S'.names = S.names) (hm : S'.made = S.made) (ht : ∀ k ∈ live, S'.th k = S.th k) : HeapX K H h S' live O dh n t ch A C := by
  obtain ⟨vs, e1, e2, e3, e4, e5, e6, e7⟩ := X
  refine ⟨vs, by rw [hm]; exact e1, e2, by rw [hn]; exact e3, e4, fun k hk => by rw [ht k hk]; exact e5 k hk, ⟨e6.nt, fun k hk w => e6.cn k hk (by rw [← ht k hk]; exact w), fun i hi j hj w1 w2 => e6.cc i hi j hj (by rw [← ht i hi]; exact w1) (by rw [← ht j hj]; exact w2)⟩, ⟨e7.h, e7.n, e7.t, e7.a, fun k hk w => e7.c k hk (by rw [← ht k hk]; exact w), e7.tr⟩⟩
/-- watches are told: those that see none of ks are blind from now on -/
def tellL (ks : List Nat) (x : Th) : Th := match x.body with
  | .wat s g => { x with body := .wat s (g || !decide (s ∈ ks)) }
  | _ => x
def Sta.tell (S : Sta) (ks : List Nat) : Sta := { S with th := fun j => tellL ks (S.th j) }
def Sta.tellP (S : Sta) (ks pre : List Nat) : Sta := { S with th := fun j => if j ∈ pre then tellL ks (S.th j) else S.th j }
theorem tellL_not {ks : List Nat} {x : Th} (h : x.body.isWat = false) : tellL ks x = x := by
  unfold tellL
  cases e : x.body with
  | wat s g => rw [e] at h; cases h
  | _ => rfl
theorem tellL_wat {ks : List Nat} {x : Th} {s : Nat} {g : Bool} (h : x.body = .wat s g) : tellL ks x = { x with body := .wat s (g || !decide (s ∈ ks)) } := by
  unfold tellL; rw [h]
theorem tellP_next {S : Sta} {ks pre : List Nat} {j : Nat} (h : tellL ks (S.th j) = S.th j) (k : Nat) : (S.tellP ks (pre ++ [j])).th k = (S.tellP ks pre).th k := by
  show (if k ∈ pre ++ [j] then _ else _) = if k ∈ pre then _ else _
  by_cases q : k ∈ pre
  · rw [if_pos q, if_pos (List.mem_append_left _ q)]
  · rw [if_neg q]
    by_cases e : k = j
    · subst e; rw [if_pos (by simp), h]
    · rw [if_neg (by simp [q, e])]
end
end WB
/-! Deeds, and what they do to a state. -/
namespace WB
open PySem PySem.Spec PyProof.Rows L2 He
open Classical in
/-- watches told: those that see what is out of reach are blind from now on -/
noncomputable def Sta.tellBy (S : Sta) (R : Nat → Prop) : Sta := { S with th := fun j => match (S.th j).body with
  | .wat s g => { S.th j with body := .wat s (g || !decide (R s)) }
  | _ => S.th j }
theorem Sta.tell_eq {S : Sta} {ks : List Nat} {R : Nat → Prop} (h : ∀ k, k ∈ ks ↔ R k) : S.tell ks = S.tellBy R := by
  unfold Sta.tell Sta.tellBy
  congr 1
  funext j
  unfold tellL
  cases (S.th j).body with
  | wat s g =>
    have e : decide (s ∈ ks) = @decide (R s) (Classical.propDecidable _) := by
      by_cases q : s ∈ ks
      · rw [decide_eq_true q]
        exact (@decide_eq_true _ (Classical.propDecidable _) ((h s).mp q)).symm
      · rw [decide_eq_false q]
        exact (@decide_eq_false _ (Classical.propDecidable _) (fun z => q ((h s).mpr z))).symm
    simp only [e]
  | _ => rfl
def numsS (S : Sta) : List Nat := refs (S.names.map (·.2))
def heldS (S : Sta) : Nat → List Nat := fun j => (S.th j).body.held
def ReachA (S : Sta) : Nat → Prop := Rch (heldS S) (fun _ => True) (numsS S)
def duesA (S : Sta) : List Nat := (List.range S.made).filter fun k => (S.th k).last == .due
def KeptA (S : Sta) : Nat → Prop := Rch (heldS S) (fun _ => True) (numsS S ++ duesA S)
theorem ReachA.kept {S : Sta} {k : Nat} (h : ReachA S k) : KeptA S k := by
  induction h with
  | start h ha => exact .start (List.mem_append_left _ h) ha
  | step _ hk ha ih => exact .step ih hk ha
theorem rch_iff {nx : Nat → List Nat} {am : Nat → Prop} {st : List Nat} (h : ∀ k, Rch nx (fun _ => True) st k → am k) (k : Nat) : Rch nx am st k ↔ Rch nx (fun _ => True) st k := by
  constructor
  · intro r
    induction r with
    | start h ha => exact .start h trivial
    | step _ hk ha ih => exact .step ih hk trivial
  · intro r
    induction r with
    | start h' ha => exact .start h' (h _ (.start h' trivial))
    | step r' hk ha ih => exact .step ih hk (h _ (.step r' hk trivial))
/-- the values of a body -/
def Body.vals : Body → List V
  | .dic _ kvs => kvs.map (·.2)
  | .row xs => xs
  | .wat _ _ => []
/-- a value speaks of what was made -/
def VOk (m : Nat) : V → Prop
  | .ref k => k < m
  | .non => True
  | .int _ => True
  | _ => False
structure Ok (S : Sta) : Prop where
  names : S.names.map (·.1) = nmK
  nv : ∀ p ∈ S.names, VOk S.made p.2
  wf : ∀ k < S.made, (S.th k).body.wf
  bv : ∀ k < S.made, ∀ v ∈ (S.th k).body.vals, VOk S.made v
  wv : ∀ k < S.made, ∀ s g, (S.th k).body = .wat s g → s < S.made ∧ (S.th k).last = .no
  gl : ∀ k < S.made, (S.th k).goal = .non ∨ ∃ x ∈ nmS, (S.th k).goal = .str x
structure Liv (S : Sta) (live : List Nat) : Prop where
  lt : ∀ k ∈ live, k < S.made
  srt : live.Pairwise (· < ·)
  len : live.length ≤ 800
  kept : ∀ k, KeptA S k → k ∈ live
inductive Deed where
  | make (x kind : Str)
  | num (x : Str) (n : Int)
  | copy (x y : Str)
  | drop (x : Str)
  | put (x : Str) (k : Key) (y : Str)
  | take (x y : Str) (k : Key)
  | cut (x : Str) (k : Key)
  | watch (x y : Str)
  | last (x : Str) (g : V)
  | ask (x y : Str)
  | settle
  | say (x : Str)
def Deed.tag : Deed → Nat
  | .make _ _ => 0 | .num _ _ => 1 | .copy _ _ => 2 | .drop _ => 3 | .put _ _ _ => 4 | .take _ _ _ => 5 | .cut _ _ => 6 | .watch _ _ => 7 | .last _ _ => 8 | .ask _ _ => 9 | .settle => 10 | .say _ => 11
def wordsS : List Str := ["make", "num", "copy", "drop", "put", "take", "cut", "watch", "last", "ask", "settle", "say"]
def Deed.word (d : Deed) : Str := wordsS.getD d.tag ""
def Deed.args : Deed → List V
  | .make x kind => [.str x, .str kind]
  | .num x n => [.str x, .int n]
  | .copy x y => [.str x, .str y]
  | .drop x => [.str x]
  | .put x k y => [.str x, kV k, .str y]
  | .take x y k => [.str x, .str y, kV k]
  | .cut x k => [.str x, kV k]
  | .watch x y => [.str x, .str y]
  | .last x g => [.str x, g]
  | .ask x y => [.str x, .str y]
  | .settle => []
  | .say x => [.str x]
/-- a part: a letter, or a number 0 to 9 -/
def PartOk : Key → Prop
  | .inl i => 0 ≤ i ∧ i ≤ 9
  | .inr z => z ∈ lets
def GoalOk (g : V) : Prop := g = .non ∨ ∃ x ∈ nmS, g = .str x
def Deed.ok : Deed → Prop
  | .make x kind => x ∈ nmS ∧ kind ∈ (["record", "row", "book"] : List Str)
  | .num x n => x ∈ nmS ∧ 0 ≤ n ∧ n ≤ 99
  | .copy x y => x ∈ nmS ∧ y ∈ nmS
  | .drop x => x ∈ nmS
  | .put x k y => x ∈ nmS ∧ PartOk k ∧ y ∈ nmS
  | .take x y k => x ∈ nmS ∧ y ∈ nmS ∧ PartOk k
  | .cut x k => x ∈ nmS ∧ PartOk k
  | .watch x y => x ∈ nmS ∧ y ∈ nmS
  | .last x g => x ∈ nmS ∧ GoalOk g
  | .ask x y => x ∈ nmS ∧ y ∈ nmS
  | .settle => True
  | .say x => x ∈ nmS
/-- what a deed tells: a value (or "no"), or a list of numbers -/
inductive Told where
  | val (v : V)
  | lst (ks : List Nat)
def TR (H : Hp) (r : V) : Told → Prop
  | .val (.str z) => r = .str z
  | .val v => VR H r v
  | .lst ks => ∃ l, r = .ref l ∧ H l = some (.lst (nV ks))
/-- a list that is told is new, and nobody's -/
def TF (H0 : Hp) (O : List Addr) (r : V) : Told → Prop
  | .lst _ => ∃ l, r = .ref l ∧ H0 l = none ∧ l ∉ O
  | .val _ => True
def TRF (H0 : Hp) (O : List Addr) (H : Hp) (r : V) (told : Told) : Prop := TR H r told ∧ TF H0 O r told
theorem TRF.back {H0 H1 H : Hp} {O : List Addr} {r : V} {told : Told} (s : Same H0 H1) (t : TRF H1 O H r told) : TRF H0 O H r told := by
  refine ⟨t.1, ?_⟩
  have h := t.2
  cases told with
  | val v => exact trivial
  | lst ks =>
    obtain ⟨l, e, n, o⟩ := h
    exact ⟨l, e, s.free n, o⟩
theorem TRF.backF {H0 H1 H : Hp} {O : List Addr} {r : V} {told : Told} (s : ∀ a, H1 a = none → H0 a = none) (t : TRF H1 O H r told) : TRF H0 O H r told := by
  refine ⟨t.1, ?_⟩
  have h := t.2
  cases told with
  | val v => exact trivial
  | lst ks =>
    obtain ⟨l, e, n, o⟩ := h
    exact ⟨l, e, s l n, o⟩
abbrev Chg := Option (Nat × V × V)
def ChR (H : Hp) (ch : V) : Chg → Prop
  | none => ch = .non
  | some (j, u, v) => ∃ q u' v', ch = .ref q ∧ H q = some (.tup [.int (j : Int), u', v']) ∧ VR H u' u ∧ VR H v' v
def rec0 : List (Key × V) := letK.map fun k => (k, V.non)
def emptyB : Str → Body := fun kind => if kind = "record" then .dic true rec0 else if kind = "row" then .row [] else .dic false []
def performS (S : Sta) (j : Nat) : Sta := match (S.th j).goal with
  | .str x => (S.setTh j ⟨(S.th j).body, .done, (S.th j).goal⟩).setName x (.ref j)
  | _ => S.setTh j ⟨(S.th j).body, .done, (S.th j).goal⟩
open Classical in
/-- those whose last deed is due and that are out of reach, rising -/
noncomputable def turnS (S : Sta) : List Nat := (duesA S).filter fun k => !decide (ReachA S k)
inductive Settle : Sta → List Nat → Sta → Prop
  | done {S : Sta} (h : turnS (S.tellBy (ReachA S)) = []) : Settle S [] (S.tellBy (ReachA S))
  | turn {S S' : Sta} {ks : List Nat} (h : turnS (S.tellBy (ReachA S)) ≠ []) (r : Settle ((turnS (S.tellBy (ReachA S))).foldl performS (S.tellBy (ReachA S))) ks S') : Settle S (turnS (S.tellBy (ReachA S)) ++ ks) S'
theorem Settle.one {S S1 : Sta} {k1 : List Nat} (a : Settle S k1 S1) : ∀ {S2 : Sta} {k2 : List Nat}, Settle S k2 S2 → k1 = k2 ∧ S1 = S2 := by
  induction a with
  | done h =>
    intro S2 k2 b
    cases b with
    | done _ => exact ⟨rfl, rfl⟩
    | turn h' _ => exact absurd h h'
  | turn h r ih =>
    intro S2 k2 b
    cases b with
    | done h' => exact absurd h' h
    | turn _ r' =>
      obtain ⟨e1, e2⟩ := ih r'
      exact ⟨by rw [e1], e2⟩
def noT : Told := .val (.str "no")
/-- what a deed does, but for settle -/
noncomputable def stepF (S : Sta) : Deed → Sta × Told × Chg
  | .make x kind => ((S.add ⟨emptyB kind, .no, .non⟩).setName x (.ref S.made), .val (.ref S.made), none)
  | .num x n => (S.setName x (.int n), .val .non, none)
  | .copy x y => (S.setName x (S.look y), .val .non, none)
  | .drop x => (S.setName x .non, .val .non, none)
  | .put x k y => match S.look x with
    | .ref j => if (S.th j).body.fits k then (S.setTh j { S.th j with body := (S.th j).body.put k (S.look y) }, .val .non, some (j, if (S.th j).body.has k then (S.th j).body.at k else .non, S.look y)) else (S, noT, none)
    | _ => (S, noT, none)
  | .take x y k => match S.look y with
    | .ref j => if (S.th j).body.has k then (S.setName x ((S.th j).body.at k), .val ((S.th j).body.at k), none) else (S, noT, none)
    | _ => (S, noT, none)
  | .cut x k => match S.look x with
    | .ref j => if (S.th j).body.has k then (S.setTh j { S.th j with body := (S.th j).body.cut k }, .val .non, some (j, (S.th j).body.at k, .non)) else (S, noT, none)
    | _ => (S, noT, none)
  | .watch x y => match S.look y with
    | .ref j => ((S.add ⟨.wat j false, .no, .non⟩).setName x (.ref S.made), .val (.ref S.made), none)
    | _ => (S, noT, none)
  | .last x g => match S.look x with
    | .ref j => if (S.th j).body.isWat || (S.th j).last != .no then (S, noT, none) else (S.setTh j ⟨(S.th j).body, .due, g⟩, .val .non, none)
    | _ => (S, noT, none)
  | .ask x y => match S.look y with
    | .ref j => match ((S.tellBy (ReachA S)).th j).body with
      | .wat s g => ((S.tellBy (ReachA S)).setName x (if g then .non else .ref s), .val (if g then .non else .ref s), none)
      | _ => (S, noT, none)
    | _ => (S, noT, none)
  | .settle => (S, noT, none)
  | .say x => (S, .val (S.look x), none)
inductive StepR : Sta → Deed → Sta → Told → Chg → Prop
  | settle {S S' : Sta} {ks : List Nat} (h : Settle S ks S') : StepR S .settle S' (.lst ks) none
  | other {S : Sta} {d : Deed} (h : d.tag ≠ 10) : StepR S d (stepF S d).1 (stepF S d).2.1 (stepF S d).2.2
theorem StepR.one {S S1 S2 : Sta} {d : Deed} {t1 t2 : Told} {c1 c2 : Chg} (a : StepR S d S1 t1 c1) (b : StepR S d S2 t2 c2) : S1 = S2 ∧ t1 = t2 ∧ c1 = c2 := by
  cases a with
  | settle h =>
    cases b with
    | settle h' => obtain ⟨e1, e2⟩ := h.one h'; exact ⟨e2, by rw [e1], rfl⟩
    | other h' => exact absurd rfl h'
  | other h =>
    cases b with
    | settle h' => exact absurd rfl h
    | other h' => exact ⟨rfl, rfl, rfl⟩
section
variable {S : Sta} {x y : Str} {k : Key} {g : V} {j : Nat}
theorem put_no (e : ∀ j, S.look x ≠ .ref j) : stepF S (.put x k y) = (S, noT, none) := by
  show (match S.look x with | .ref j => _ | _ => _) = _
  cases q : S.look x <;> first | rfl | exact absurd q (e _)
theorem put_no' (e : S.look x = .ref j) (h : (S.th j).body.fits k = false) : stepF S (.put x k y) = (S, noT, none) := by
  show (match S.look x with | .ref j => _ | _ => _) = _
  rw [e]
  show (if (S.th j).body.fits k = true then _ else _) = _
  rw [h]; rfl
theorem put_yes (e : S.look x = .ref j) (h : (S.th j).body.fits k = true) : stepF S (.put x k y) = (S.setTh j { S.th j with body := (S.th j).body.put k (S.look y) }, .val .non, some (j, if (S.th j).body.has k then (S.th j).body.at k else .non, S.look y)) := by
  show (match S.look x with | .ref j => _ | _ => _) = _
  rw [e]
  show (if (S.th j).body.fits k = true then _ else _) = _
  rw [h]; rfl
theorem take_no (e : ∀ j, S.look y ≠ .ref j) : stepF S (.take x y k) = (S, noT, none) := by
  show (match S.look y with | .ref j => _ | _ => _) = _
  cases q : S.look y <;> first | rfl | exact absurd q (e _)
theorem take_no' (e : S.look y = .ref j) (h : (S.th j).body.has k = false) : stepF S (.take x y k) = (S, noT, none) := by
  show (match S.look y with | .ref j => _ | _ => _) = _
  rw [e]
  show (if (S.th j).body.has k = true then _ else _) = _
  rw [h]; rfl
theorem take_yes (e : S.look y = .ref j) (h : (S.th j).body.has k = true) : stepF S (.take x y k) = (S.setName x ((S.th j).body.at k), .val ((S.th j).body.at k), none) := by
  show (match S.look y with | .ref j => _ | _ => _) = _
  rw [e]
  show (if (S.th j).body.has k = true then _ else _) = _
  rw [h]; rfl
theorem cut_no (e : ∀ j, S.look x ≠ .ref j) : stepF S (.cut x k) = (S, noT, none) := by
  show (match S.look x with | .ref j => _ | _ => _) = _
  cases q : S.look x <;> first | rfl | exact absurd q (e _)
theorem cut_no' (e : S.look x = .ref j) (h : (S.th j).body.has k = false) : stepF S (.cut x k) = (S, noT, none) := by
  show (match S.look x with | .ref j => _ | _ => _) = _
  rw [e]
  show (if (S.th j).body.has k = true then _ else _) = _
  rw [h]; rfl
theorem cut_yes (e : S.look x = .ref j) (h : (S.th j).body.has k = true) : stepF S (.cut x k) = (S.setTh j { S.th j with body := (S.th j).body.cut k }, .val .non, some (j, (S.th j).body.at k, .non)) := by
  show (match S.look x with | .ref j => _ | _ => _) = _
  rw [e]
  show (if (S.th j).body.has k = true then _ else _) = _
  rw [h]; rfl
theorem watch_no (e : ∀ j, S.look y ≠ .ref j) : stepF S (.watch x y) = (S, noT, none) := by
  show (match S.look y with | .ref j => _ | _ => _) = _
  cases q : S.look y <;> first | rfl | exact absurd q (e _)
theorem watch_yes (e : S.look y = .ref j) : stepF S (.watch x y) = ((S.add ⟨.wat j false, .no, .non⟩).setName x (.ref S.made), .val (.ref S.made), none) := by
  show (match S.look y with | .ref j => _ | _ => _) = _
  rw [e]
theorem last_no (e : ∀ j, S.look x ≠ .ref j) : stepF S (.last x g) = (S, noT, none) := by
  show (match S.look x with | .ref j => _ | _ => _) = _
  cases q : S.look x <;> first | rfl | exact absurd q (e _)
theorem last_no' (e : S.look x = .ref j) (h : ((S.th j).body.isWat || (S.th j).last != .no) = true) : stepF S (.last x g) = (S, noT, none) := by
  show (match S.look x with | .ref j => _ | _ => _) = _
  rw [e]
  show (if ((S.th j).body.isWat || (S.th j).last != .no) = true then _ else _) = _
  rw [h]; rfl
theorem last_yes (e : S.look x = .ref j) (h : ((S.th j).body.isWat || (S.th j).last != .no) = false) : stepF S (.last x g) = (S.setTh j ⟨(S.th j).body, .due, g⟩, .val .non, none) := by
  show (match S.look x with | .ref j => _ | _ => _) = _
  rw [e]
  show (if ((S.th j).body.isWat || (S.th j).last != .no) = true then _ else _) = _
  rw [h]; rfl
theorem ask_no (e : ∀ j, S.look y ≠ .ref j) : stepF S (.ask x y) = (S, noT, none) := by
  show (match S.look y with | .ref j => _ | _ => _) = _
  cases q : S.look y <;> first | rfl | exact absurd q (e _)
theorem ask_no' (e : S.look y = .ref j) (h : ((S.tellBy (ReachA S)).th j).body.isWat = false) : stepF S (.ask x y) = (S, noT, none) := by
  show (match S.look y with | .ref j => _ | _ => _) = _
  rw [e]
  show (match ((S.tellBy (ReachA S)).th j).body with | .wat s g => _ | _ => _) = _
  cases q : ((S.tellBy (ReachA S)).th j).body <;> first | rfl | (rw [q] at h; cases h)
theorem ask_yes {s : Nat} {b : Bool} (e : S.look y = .ref j) (h : ((S.tellBy (ReachA S)).th j).body = .wat s b) : stepF S (.ask x y) = ((S.tellBy (ReachA S)).setName x (if b then .non else .ref s), .val (if b then .non else .ref s), none) := by
  show (match S.look y with | .ref j => _ | _ => _) = _
  rw [e]
  show (match ((S.tellBy (ReachA S)).th j).body with | .wat s g => _ | _ => _) = _
  rw [h]
theorem StepR.by {d : Deed} {r : Sta × Told × Chg} (h : d.tag ≠ 10) (e : stepF S d = r) : StepR S d r.1 r.2.1 r.2.2 := e ▸ StepR.other h
end
end WB
namespace WK
open PySem PySem.Spec PyProof.Rows L2 He WB
section
variable {P : Program} {w : World} {K : PySem.W.Frag} {mg : Str → Option Value} {base : Heap}
def spAsValue : Sp := fun vs H Q _ => ∃ n : Nat, vs = [.int (n : Int)] ∧ ∀ p H', Same H H' → H p = none → H' p = some (.tup [.str "thing", .int (n : Int)]) → Q (.ref p) H'
def spIsThing : Sp := fun vs H Q _ => ∃ v x : V, vs = [v] ∧ VR H v x ∧ Q (.bl (match x with | .ref _ => true | _ => false)) H
end
end WK
namespace WK
open PySem PySem.Spec PyProof.Rows L2 He WB
section
variable {P : Program} {w : World} {K : PySem.W.Frag} {mg : Str → Option Value} {base : Heap}
theorem small6 {n : Nat} (h : n ≤ 20) : n < 1000 := by omega
/-- Thing.__init__ -/
def spThingInit (K : PySem.W.Frag) : Sp := fun vs H Q _ => ∃ (a dx : Addr) (b : Body) (n : Nat), vs = [.ref a, .int (n : Int), .str b.kind] ∧ H a = some (.ins (ga K b.cls) dx []) ∧
  Q .non (upd H a (.ins (ga K b.cls) dx [("number", .int (n : Int)), ("kind", .str b.kind), ("got_last", .bl false), ("due", .bl false), ("goal", .non)]))
theorem put5 {n : Int} {k : Str} : putF "goal" .non (putF "due" (.bl false) (putF "got_last" (.bl false) (putF "kind" (.str k) (putF "number" (.int n) [])))) =
  ([("number", .int n), ("kind", .str k), ("got_last", .bl false), ("due", .bl false), ("goal", .non)] : List (Str × V)) := by kernel_rfl
end
end WK
namespace WK
open PySem PySem.Spec PyProof.Rows L2 He WB
section
variable {P : Program} {w : World} {K : PySem.W.Frag} {mg : Str → Option Value} {base : Heap}
theorem put6 {n : Int} {k pn : Str} {v : V} (h : pn = "cells" ∨ pn = "sees") : putF pn v ([("number", .int n), ("kind", .str k), ("got_last", .bl false), ("due", .bl false), ("goal", .non)] : List (Str × V)) =
  ([("number", .int n), ("kind", .str k), ("got_last", .bl false), ("due", .bl false), ("goal", .non), (pn, v)] : List (Str × V)) := by
  rcases h with rfl | rfl
  · kernel_rfl
  · kernel_rfl
/-- Holder.__init__ -/
def spHolderInit (K : PySem.W.Frag) : Sp := fun vs H Q _ => ∃ (a dx : Addr) (b : Body) (n : Nat) (c : V), vs = [.ref a, .int (n : Int), .str b.kind, c] ∧ (∀ s g, b ≠ .wat s g) ∧ H a = some (.ins (ga K b.cls) dx []) ∧
  Q .non (upd H a (.ins (ga K b.cls) dx (thF n b.kind false false .non "cells" c)))
/-- new ones, of each kind: the instance is filled, its parts are new -/
def spNewInit (K : PySem.W.Frag) (b : Body) (o : HO) : Sp := fun vs H Q _ => ∃ (a dx : Addr) (n : Nat), vs = [.ref a, .int (n : Int)] ∧ H a = some (.ins (ga K b.cls) dx []) ∧
  ∀ c H', H c = none → Same H H' → H' c = some o → Q .non (upd H' a (.ins (ga K b.cls) dx (thF n b.kind false false .non "cells" (.ref c))))
def spWatchInit (K : PySem.W.Frag) : Sp := fun vs H Q _ => ∃ (a dx : Addr) (n : Nat) (v : V), vs = [.ref a, .int (n : Int), v] ∧ H a = some (.ins (ga K "Watch") dx []) ∧
  Q .non (upd H a (.ins (ga K "Watch") dx (thF n "watch" false false .non "sees" v)))
end
end WK
namespace WK
open PySem PySem.Spec PyProof.Rows L2 He WB
section
variable {P : Program} {w : World} {K : PySem.W.Frag} {mg : Str → Option Value} {base : Heap}
theorem LVR.length {H : Hp} {xs ys : List V} (h : LVR H xs ys) : xs.length = ys.length := Paired.length h
theorem KVR.length {H : Hp} {xs ys : List (Key × V)} (h : KVR H xs ys) : xs.length = ys.length := Paired.length h
theorem szl {n : Nat} (h : n ≤ 1000) : n < sizeLine := Nat.lt_of_le_of_lt h (by decide)
theorem szle {n : Nat} (h : n ≤ 1000) : n ≤ sizeLine := Nat.le_of_lt (szl h)
/-- has -/
def spHas (K : PySem.W.Frag) (p : Body → Bool) : Sp := fun vs H Q _ => ∃ (a c : Addr) (n : Nat) (t : Th) (k : Key), vs = [.ref a, kV k] ∧ p t.body = true ∧ ThAt K H a c n t ∧ ∀ H', Same H H' → Q (.bl (t.body.has k)) H'
def spFits (K : PySem.W.Frag) (p : Body → Bool) : Sp := fun vs H Q _ => ∃ (a c : Addr) (n : Nat) (t : Th) (k : Key), vs = [.ref a, kV k] ∧ p t.body = true ∧ ThAt K H a c n t ∧ ∀ H', Same H H' → Q (.bl (t.body.fits k)) H'
end
end WK
namespace WK
open PySem PySem.Spec PyProof.Rows L2 He WB
section
variable {P : Program} {w : World} {K : PySem.W.Frag} {mg : Str → Option Value} {base : Heap}
def spShown (K : PySem.W.Frag) (p : Body → Bool) : Sp := fun vs H Q _ => ∃ (a c : Addr) (n : Nat) (t : Th), vs = [.ref a] ∧ p t.body = true ∧ t.body.wf ∧ ThAt K H a c n t ∧ ∀ l H', Same H H' → H l = none → ShownAt H' l t.body.shown → Q (.ref l) H'
def isRec : Body → Bool
  | .dic true _ => true
  | _ => false
def isBook : Body → Bool
  | .dic false _ => true
  | _ => false
theorem letsK : (lets.map Sum.inr : List Key) = letK := by kernel_rfl
/-- size -/
def spSize (K : PySem.W.Frag) (p : Body → Bool) : Sp := fun vs H Q _ => ∃ (a c : Addr) (n : Nat) (t : Th), vs = [.ref a] ∧ p t.body = true ∧ ThAt K H a c n t ∧ Q (.int t.body.size) H
/-- at -/
def spAt (K : PySem.W.Frag) (p : Body → Bool) : Sp := fun vs H Q _ => ∃ (a c : Addr) (n : Nat) (t : Th) (k : Key), vs = [.ref a, kV k] ∧ p t.body = true ∧ t.body.has k = true ∧ ThAt K H a c n t ∧ ∀ v, VR H v (t.body.at k) → Q v H
end
end WK
namespace WK
open PySem PySem.Spec PyProof.Rows L2 He WB
section
variable {P : Program} {w : World} {K : PySem.W.Frag} {mg : Str → Option Value} {base : Heap}
theorem thAt_upd {H : Hp} {a c dx : Addr} {n : Nat} {t : Th} {b' : Body} {o o0 : HO} (ho : H a = some (.ins (ga K t.body.cls) dx (thF n t.body.kind (t.last != .no) (t.last == .due) t.goal t.body.part (.ref c))))
    (hc : H c = some o0) (hn : ∀ C d fs, o0 ≠ .ins C d fs) (hb : BodyAt (upd H c o) c (.ref c) b') (e : b'.cls = t.body.cls ∧ b'.kind = t.body.kind ∧ b'.part = t.body.part) : ThAt K (upd H c o) a c n { t with body := b' } := by
  have nac : a ≠ c := by
    rintro rfl
    rw [hc] at ho
    exact hn _ _ _ (Option.some.inj ho)
  refine ⟨dx, .ref c, ?_, hb⟩
  rw [upd_ne nac, ho, e.1, e.2.1, e.2.2]
def spPut (K : PySem.W.Frag) (p : Body → Bool) : Sp := fun vs H Q _ => ∃ (a c : Addr) (n : Nat) (t : Th) (k : Key) (v x : V), vs = [.ref a, kV k, v] ∧ p t.body = true ∧ t.body.fits k = true ∧ t.body.wf ∧ ThAt K H a c n t ∧ VR H v x ∧
  ∀ o, Tup H (upd H c o) → ThAt K (upd H c o) a c n { t with body := t.body.put k x } → Q .non (upd H c o)
def spCut (K : PySem.W.Frag) (p : Body → Bool) : Sp := fun vs H Q _ => ∃ (a c : Addr) (n : Nat) (t : Th) (k : Key), vs = [.ref a, kV k] ∧ p t.body = true ∧ t.body.has k = true ∧ t.body.wf ∧ ThAt K H a c n t ∧
  ∀ o, Tup H (upd H c o) → ThAt K (upd H c o) a c n { t with body := t.body.cut k } → Q .non (upd H c o)
theorem wf_len {r : Bool} {kvs : List (Key × V)} (h : (Body.dic r kvs).wf) : kvs.length ≤ 6 := by
  cases r with
  | true =>
    have e := congrArg List.length (show kvs.map (·.1) = letK from h)
    rw [List.length_map] at e
    rw [e]; decide
  | false => exact h.2.1
end
end WK
namespace WB
open PySem PySem.Spec PyProof.Rows L2 He
theorem DefOk.imp {M : C5} {k : Nat} {f : Addr} {ps : List Str} {sp sp' : Sp} (D : DefOk M k f ps sp) (h : ∀ vs H Q E, sp' vs H Q E → sp vs H Q E) : DefOk M k f ps sp' :=
  ⟨let ⟨fd, F, b⟩ := D.ex; ⟨fd, F.imp h, b⟩, D.kp⟩
theorem DefOk.mono {M : C5} {k j : Nat} {f : Addr} {ps : List Str} {sp : Sp} (D : DefOk M k f ps sp) (h : k ≤ j) : DefOk M j f ps sp :=
  ⟨let ⟨fd, F, b⟩ := D.ex; ⟨fd, F.mono h, b⟩, D.kp⟩
theorem Paired.comp {α β γ : Type} {R : α → β → Prop} {S : β → γ → Prop} {U : α → γ → Prop} (h : ∀ a b c, R a b → S b c → U a c) : ∀ {xs : List α} {ys : List β} {zs : List γ}, Paired R xs ys → Paired S ys zs → Paired U xs zs
  | _, _, _, .nil, .nil => .nil
  | _, _, _, .cons r t, .cons r' t' => .cons (h _ _ _ r r') (Paired.comp h t t')
theorem enK_pair {H : Hp} : ∀ {vs xs : List V} (a : Nat), LVR H vs xs → KVR H (enK a vs) (enK a xs)
  | _, _, _, .nil => .nil
  | _, _, a, .cons r t => .cons ⟨rfl, r⟩ (enK_pair (a + 1) t)
/-- of one kind -/
def Body.sort : Body → Nat
  | .dic true _ => 0
  | .dic false _ => 1
  | .row _ => 2
  | .wat _ _ => 3
def Body.like (b c : Body) : Bool := b.sort == c.sort
theorem Body.like_refl (b : Body) : b.like b = true := beq_self_eq_true _
end WB
namespace WK
open PySem PySem.Spec PyProof.Rows L2 He WB
section
variable {P : Program} {w : World} {K : PySem.W.Frag} {mg : Str → Option Value} {base : Heap}
/-- held -/
def spHeld (K : PySem.W.Frag) (p : Body → Bool) : Sp := fun vs H Q _ => ∃ (a c : Addr) (n : Nat) (t : Th), vs = [.ref a] ∧ p t.body = true ∧ t.body.wf ∧ ThAt K H a c n t ∧ ∀ l H', Same H H' → H l = none → H' l = some (.lst (t.body.held.map fun (k : Nat) => V.int (k : Int))) → Q (.ref l) H'
theorem like_rec {x : List (Key × V)} {b : Body} (h : (Body.dic true x).like b = true) : isRec b = true := by
  cases b with
  | dic r y =>
    cases r
    · cases h
    · rfl
  | row y => cases h
  | wat y z => cases h
theorem like_book {x : List (Key × V)} {b : Body} (h : (Body.dic false x).like b = true) : isBook b = true := by
  cases b with
  | dic r y =>
    cases r
    · rfl
    · cases h
  | row y => cases h
  | wat y z => cases h
theorem like_dic {r : Bool} {x : List (Key × V)} {b : Body} (h : (Body.dic r x).like b = true) : b.isDic = true := by
  cases b with
  | dic r y => rfl
  | row y => cases r <;> cases h
  | wat y z => cases r <;> cases h
theorem like_row {x : List V} {b : Body} (h : (Body.row x).like b = true) : b.isRow = true := by
  cases b with
  | dic r y => cases r <;> cases h
  | row y => rfl
  | wat y z => cases h
theorem like_wat {s : Nat} {g : Bool} {b : Body} (h : (Body.wat s g).like b = true) : b.isWat = true := by
  cases b with
  | dic r y => cases r <;> cases h
  | row y => cases h
  | wat y z => rfl
end
end WK
namespace WK
open PySem PySem.Spec PyProof.Rows L2 He WB
section
variable {P : Program} {w : World} {K : PySem.W.Frag} {mg : Str → Option Value} {base : Heap}
abbrev nxS (S : Sta) : Nat → List Nat := fun j => (S.th j).body.held
/-- the things among which is sought: a dict by numbers, or a list of them -/
def AmD (H : Hp) (b : Addr) (am : List Nat) : Prop := ∃ kvs, H b = some (.dK kvs) ∧ kvs.map (·.1) = am.map fun (k : Nat) => (.inl (k : Int) : Key)
def spSpread (K : PySem.W.Frag) : Sp := fun vs H Q _ => ∃ (h : Addr) (S : Sta) (live : List Nat) (O : List Addr) (a b : Addr) (st am : List Nat), vs = [.ref h, .ref a, .ref b] ∧ HeapAt K H h S live O ∧ (∀ k ∈ live, (S.th k).body.wf) ∧
  SqL K H a (nV st) ∧ AmD H b am ∧ (∀ k ∈ am, k ∈ live) ∧ am.length ≤ 1000 ∧ st.length ≤ 1000 ∧
  ∀ (D : Addr) (H' : Hp) (ks : List Nat), Same H H' → H D = none → H' D = some (.dK (foundD ks)) → ks.Nodup → (∀ k, k ∈ ks ↔ Rch (nxS S) (· ∈ am) st k) → Q (.ref D) H'
theorem Rch.inAm {nx : Nat → List Nat} {am st F W : List Nat} (s : Seek nx (· ∈ am) st F W) : F.length ≤ am.length := nodup_sub_len s.nd fun k hk => (s.fr k hk).am
end
end WK
namespace WK
open PySem PySem.Spec PyProof.Rows L2 He WB
section
variable {P : Program} {w : World} {K : PySem.W.Frag} {mg : Str → Option Value} {base : Heap}
theorem lock_same {H H' : Hp} {d : Addr} {u : HO} {od : Obj} (h : H d = some u) (s : Same (upd H d (.frz od u)) H') : Same H (upd H' d u) := fun b o e => by
  by_cases q : b = d
  · subst q; rw [upd_same, ← h]; exact e
  · rw [upd_ne q]; exact s b o (by rw [upd_ne q]; exact e)
theorem lock_tup {H : Hp} {d : Addr} {u o : HO} (h : H d = some u) (hn : still u = false) : Tup H (upd H d o) := tup_upd (by rw [h]; intro xs z; cases z; exact hn)
def St0.nums (S : Sta) : List Nat := refs (S.names.map (·.2))
def spNamed (K : PySem.W.Frag) : Sp := fun vs H Q _ => ∃ (h : Addr) (S : Sta) (live : List Nat) (O : List Addr), vs = [.ref h] ∧ HeapAt K H h S live O ∧ S.names.length ≤ 8 ∧
  ∀ l H', Same H H' → H l = none → H' l = some (.lst (nV (St0.nums S))) → Q (.ref l) H'
def Reach (S : Sta) (live : List Nat) : Nat → Prop := Rch (nxS S) (· ∈ live) (St0.nums S)
def spReach (K : PySem.W.Frag) : Sp := fun vs H Q _ => ∃ (h : Addr) (S : Sta) (live : List Nat) (O : List Addr), vs = [.ref h] ∧ HeapAt K H h S live O ∧ S.names.length ≤ 8 ∧ (∀ k ∈ live, (S.th k).body.wf) ∧ live.length ≤ 1000 ∧
  ∀ (D : Addr) (H' : Hp) (ks : List Nat), Same H H' → H D = none → H' D = some (.dK (foundD ks)) → ks.Nodup → (∀ k, k ∈ ks ↔ Reach S live k) → Q (.ref D) H'
def dues (S : Sta) (live : List Nat) : List Nat := live.filter fun k => (S.th k).last == .due
theorem live_srt {live : List Nat} (h : live.Pairwise (· < ·)) {ys : List Int} (hp : ys.Perm (live.map fun (k : Nat) => (k : Int))) (hs : ys.Pairwise (· ≤ ·)) : ys = live.map fun (k : Nat) => (k : Int) := by
  refine List.Perm.eq_of_pairwise (fun _ _ _ _ a b => Int.le_antisymm a b) hs ?_ hp
  rw [List.pairwise_map]
  exact h.imp fun h => by omega
def spDue (K : PySem.W.Frag) : Sp := fun vs H Q _ => ∃ (h : Addr) (S : Sta) (live : List Nat) (O : List Addr), vs = [.ref h] ∧ HeapAt K H h S live O ∧ live.Pairwise (· < ·) ∧ live.length ≤ 1000 ∧
  ∀ l H', Same H H' → H l = none → H' l = some (.lst (nV (dues S live))) → Q (.ref l) H'
end
end WK
namespace WK
open PySem PySem.Spec PyProof.Rows L2 He WB
section
variable {P : Program} {w : World} {K : PySem.W.Frag} {mg : Str → Option Value} {base : Heap}
/-- which thing a value is, as it stands -/
def thR (A : Nat → Addr) : V → V
  | .ref k => .ref (A k)
  | _ => .non
def spThingOf (K : PySem.W.Frag) : Sp := fun vs H Q _ => ∃ (h : Addr) (S : Sta) (live : List Nat) (O : List Addr) (dh n t : Addr) (ch : V) (A C : Nat → Addr) (x : Str) (v : V), vs = [.ref h, .str x] ∧ HeapX K H h S live O dh n t ch A C ∧
  valV S.names (.inr x) = some v ∧ (∀ k, v = .ref k → k ∈ live) ∧ Q (thR A v) H
def kindsS : List Str := ["record", "row", "book"]
def spNewThing (K : PySem.W.Frag) : Sp := fun vs H Q _ => ∃ (n : Nat) (kind : Str), vs = [.int (n : Int), .str kind] ∧ kind ∈ kindsS ∧
  ∀ a c H', Same H H' → H a = none → H c = none → H' c ≠ none → ThAt K H' a c n ⟨emptyB kind, .no, .non⟩ → Q (.ref a) H'
end
end WK
namespace WK
open PySem PySem.Spec PyProof.Rows L2 He WB
section
variable {P : Program} {w : World} {K : PySem.W.Frag} {mg : Str → Option Value} {base : Heap}
def spBring (K : PySem.W.Frag) : Sp := fun vs H Q _ => ∃ (h : Addr) (S : Sta) (live : List Nat) (O : List Addr) (dh n t : Addr) (ch : V) (A C : Nat → Addr) (x : Str) (a c : Addr) (th : Th), vs = [.ref h, .str x, .ref a] ∧ HeapX K H h S live O dh n t ch A C ∧
  (∀ k ∈ live, k < S.made) ∧ live.length ≤ 900 ∧ S.names.length ≤ 8 ∧ ThAt K H a c S.made th ∧ (th.body.isWat = false → c ∉ O) ∧ NS H c ∧
  ∀ p H', Stp O H H' → VR H' (.ref p) (.ref S.made) → HeapX K H' h ((S.add th).setName x (.ref S.made)) (live ++ [S.made]) (a :: c :: O) dh n t ch (addF S.made a A) (addF S.made c C) → Q (.ref p) H'
def spStore (K : PySem.W.Frag) : Sp := fun vs H Q _ => ∃ (h : Addr) (S : Sta) (live : List Nat) (O : List Addr) (dh n t : Addr) (ch : V) (A C : Nat → Addr) (j : Nat) (y : Key) (v x : V), vs = [.ref h, .ref (A j), kV y, v] ∧ HeapX K H h S live O dh n t ch A C ∧
  j ∈ live ∧ (S.th j).body.isWat = false ∧ (S.th j).body.wf ∧ (S.th j).body.fits y = true ∧ VR H v x ∧
  ∀ q u H', Stp O H H' → H' q = some (.tup [.int (j : Int), u, v]) → VR H' u (if (S.th j).body.has y then (S.th j).body.at y else .non) → VR H' v x →
    HeapX K H' h (S.setTh j { S.th j with body := (S.th j).body.put y x }) live O dh n t (.ref q) A C → Q .non H'
end
end WK
namespace WK
open PySem PySem.Spec PyProof.Rows L2 He WB
section
variable {P : Program} {w : World} {K : PySem.W.Frag} {mg : Str → Option Value} {base : Heap}
def spStrike (K : PySem.W.Frag) : Sp := fun vs H Q _ => ∃ (h : Addr) (S : Sta) (live : List Nat) (O : List Addr) (dh n t : Addr) (ch : V) (A C : Nat → Addr) (j : Nat) (y : Key), vs = [.ref h, .ref (A j), kV y] ∧ HeapX K H h S live O dh n t ch A C ∧
  j ∈ live ∧ (S.th j).body.isWat = false ∧ (S.th j).body.wf ∧ (S.th j).body.has y = true ∧
  ∀ q u H', Stp O H H' → H' q = some (.tup [.int (j : Int), u, .non]) → VR H' u ((S.th j).body.at y) →
    HeapX K H' h (S.setTh j { S.th j with body := (S.th j).body.cut y }) live O dh n t (.ref q) A C → Q .non H'
def spPerform (K : PySem.W.Frag) : Sp := fun vs H Q _ => ∃ (h : Addr) (S : Sta) (live : List Nat) (O : List Addr) (dh n t : Addr) (ch : V) (A C : Nat → Addr) (j : Nat), vs = [.ref h, .int (j : Int)] ∧ HeapX K H h S live O dh n t ch A C ∧
  j ∈ live ∧ S.names.length ≤ 8 ∧ (S.th j).last = .due ∧ ((S.th j).goal = .non ∨ ∃ x, (S.th j).goal = .str x) ∧ ∀ H', Stp O H H' → HeapX K H' h (performS S j) live O dh n t ch A C → Q .non H'
def spTell (K : PySem.W.Frag) : Sp := fun vs H Q _ => ∃ (h : Addr) (S : Sta) (live : List Nat) (O : List Addr) (dh n t : Addr) (ch : V) (A C : Nat → Addr), vs = [.ref h] ∧ HeapX K H h S live O dh n t ch A C ∧
  S.names.length ≤ 8 ∧ (∀ k ∈ live, (S.th k).body.wf) ∧ live.length ≤ 1000 ∧ live.Nodup ∧
  ∀ H' ks, (∀ k, k ∈ ks ↔ Reach S live k) → Stp O H H' → HeapX K H' h (S.tell ks) live O dh n t ch A C → Q .non H'
theorem tellP_nil {S : Sta} {ks : List Nat} (k : Nat) : (S.tellP ks []).th k = S.th k := by
  show (if k ∈ ([] : List Nat) then tellL ks (S.th k) else S.th k) = S.th k
  rw [if_neg List.not_mem_nil]
theorem upd_comm {H : Hp} {a b : Addr} {o u : HO} (h : a ≠ b) : upd (upd H a o) b u = upd (upd H b u) a o := by
  funext x
  unfold upd
  by_cases q : x = b
  · rw [if_pos q, if_neg (by rintro rfl; exact h q), if_pos q]
  · rw [if_neg q]
    by_cases r : x = a
    · rw [if_pos r, if_pos r]
    · rw [if_neg r, if_neg r, if_neg q]
theorem not_taken {α : Type} {l : List α} {i : Nat} {x : α} (nd : l.Nodup) (h : l[i]? = some x) : x ∉ l.take i := by
  obtain ⟨hi, e⟩ := List.getElem?_eq_some_iff.mp h
  have q : l = l.take i ++ x :: l.drop (i + 1) := by
    rw [← e, ← List.drop_eq_getElem_cons hi, List.take_append_drop]
  rw [q] at nd
  intro z
  exact (List.nodup_append.mp nd).2.2 _ z _ List.mem_cons_self rfl
end
end WK
namespace WK
open PySem PySem.Spec PyProof.Rows L2 He WB
section
variable {P : Program} {w : World} {K : PySem.W.Frag} {mg : Str → Option Value} {base : Heap}
def nm0 : List (Key × V) := nmS.map fun x => (.inr x, V.non)
theorem nm0_put : ∀ i : Fin 8, putK (nm0.take i) (.inr (nmS.getD i "")) .non = nm0.take (i + 1) ∧ (nm0.take i).length < sizeLine := by decide +kernel
def S0 : Sta := ⟨nm0, 0, fun _ => ⟨.row [], .no, .non⟩⟩
def spHeapInit (K : PySem.W.Frag) : Sp := fun vs H Q _ => ∃ (h dh : Addr), vs = [.ref h] ∧ H h = some (.ins (ga K "Heap") dh []) ∧
  ∀ n t H' A C, Stp [h] H H' → H n = none → H t = none → HeapX K H' h S0 [] [h, n, t] dh n t .non A C → Q .non H'
theorem put_he {n t : Addr} : putF "change" .non (putF "made" (.int 0) (putF "things" (.ref t) (putF "names" (.ref n) []))) = heF n t 0 .non := by kernel_rfl
def SnapAt (H0 H : Hp) (t : Addr) (k : Nat) (th : Th) : Prop := ∃ lp, H t = some (.tup [.int (k : Int), .str th.body.kind, .ref lp, .int th.body.size]) ∧ ShownAt H lp th.body.shown ∧ H0 lp = none
def spSnapshot (K : PySem.W.Frag) : Sp := fun vs H Q _ => ∃ (a c : Addr) (k : Nat) (th : Th), vs = [.ref a] ∧ th.body.wf ∧ ThAt K H a c k th ∧ ∀ t H', Same H H' → H t = none → SnapAt H H' t k th → Q (.ref t) H'
theorem ShownAt.same {H H' : Hp} (s : Same H H') {l : Addr} {ps : List (Key × V)} (h : ShownAt H l ps) : ShownAt H' l ps :=
  let ⟨ts, e, p⟩ := h; ⟨ts, s _ _ e, Paired.imp (fun _ _ ⟨v, h1, h2⟩ => ⟨v, s _ _ h1, VR.mono (Same.tup s) h2⟩) p⟩
end
end WK
namespace WK
open PySem PySem.Spec PyProof.Rows L2 He WB
section
variable {P : Program} {w : World} {K : PySem.W.Frag} {mg : Str → Option Value} {base : Heap}
theorem SnapAt.same {H0 H H' : Hp} (s : Same H H') {t : Addr} {k : Nat} {th : Th} (h : SnapAt H0 H t k th) : SnapAt H0 H' t k th :=
  let ⟨lp, e, p, q⟩ := h; ⟨lp, s _ _ e, ShownAt.same s p, q⟩
/-- a photo told at p: all its lists are new -/
def PhotoAt (H0 H : Hp) (p : Addr) (S : Sta) (ks : List Nat) : Prop := ∃ (ln lt : Addr) (vs : List V) (ts : List Addr), H p = some (.tup [.ref ln, .ref lt]) ∧ H ln = some (.lst vs) ∧ LVR H vs (S.names.map (·.2)) ∧ H lt = some (.lst (ts.map V.ref)) ∧
  H0 ln = none ∧ H0 lt = none ∧ ln ≠ lt ∧ ∃ Hm, Same H0 Hm ∧ (∃ o, Hm ln = some o) ∧ (∃ o, Hm lt = some o) ∧ Paired (fun t k => SnapAt Hm H t k (S.th k)) ts ks
theorem val_at : ∀ {ps : List (Key × V)} {i : Nat} {p : Key × V}, (ps.map (·.1)).Nodup → ps[i]? = some p → valV ps p.1 = some p.2
  | q :: r, 0, p, _, h => by cases h; exact valV_pos rfl
  | q :: r, i + 1, p, nd, h => by
    obtain ⟨n1, n2⟩ := List.nodup_cons.mp nd
    have h' : r[i]? = some p := h
    rw [valV_neg (by
      intro z
      have m := List.mem_map_of_mem (f := fun x : Key × V => x.1) (List.mem_of_getElem? h')
      rw [← z] at m
      exact n1 m)]
    exact val_at n2 h'
def spPhoto (K : PySem.W.Frag) : Sp := fun vs H Q _ => ∃ (h : Addr) (S : Sta) (live : List Nat) (O : List Addr), vs = [.ref h] ∧ HeapAt K H h S live O ∧ S.names.map (·.1) = nmK ∧ (∀ k ∈ live, (S.th k).body.wf) ∧ live.length ≤ 1000 ∧
  ∀ p H' ks, Same H H' → H p = none → ks.Pairwise (· < ·) → (∀ k, k ∈ ks ↔ Reach S live k) → PhotoAt H H' p S ks → Q (.ref p) H'
theorem nums_srt {ks : List Nat} (nd : ks.Nodup) {ys : List Int} (hp : ys.Perm (ks.map fun (k : Nat) => (k : Int))) (hs : ys.Pairwise (· ≤ ·)) : ∃ js : List Nat, ys = js.map (fun (k : Nat) => (k : Int)) ∧ js.Pairwise (· < ·) ∧ ∀ k, k ∈ js ↔ k ∈ ks := by
  have e : ys = (ys.map Int.toNat).map (fun (k : Nat) => (k : Int)) := by
    rw [List.map_map]
    refine (List.map_id ys).symm.trans (List.map_congr_left fun y hy => ?_)
    obtain ⟨k, _, rfl⟩ := List.mem_map.mp (hp.mem_iff.mp hy)
    rfl
  have ndk : (ks.map fun (k : Nat) => (k : Int)).Nodup := by
    unfold List.Nodup
    rw [List.pairwise_map]
    exact nd.imp fun h z => h (Int.ofNat.inj z)
  have nys : ys.Nodup := hp.nodup_iff.mpr ndk
  refine ⟨ys.map Int.toNat, e, ?_, fun k => ?_⟩
  · rw [List.pairwise_map]
    have q := List.Pairwise.and hs nys
    refine q.imp_of_mem fun {a b} ha hb h => ?_
    obtain ⟨i, _, rfl⟩ := List.mem_map.mp (hp.mem_iff.mp ha)
    obtain ⟨j, _, rfl⟩ := List.mem_map.mp (hp.mem_iff.mp hb)
    have h1 := h.1
    have h2 := h.2
    show i < j
    omega
  · constructor
    · intro h
      obtain ⟨y, hy, rfl⟩ := List.mem_map.mp h
      obtain ⟨i, hi, rfl⟩ := List.mem_map.mp (hp.mem_iff.mp hy)
      exact hi
    · intro h
      exact List.mem_map.mpr ⟨(k : Int), hp.mem_iff.mpr (List.mem_map.mpr ⟨k, h, rfl⟩), rfl⟩
theorem reach_mem {S : Sta} {live : List Nat} {k : Nat} (h : Reach S live k) : k ∈ live := Rch.am h
end
end WK
namespace WK
open PySem PySem.Spec PyProof.Rows L2 He WB
section
variable {P : Program} {w : World} {K : PySem.W.Frag} {mg : Str → Option Value} {base : Heap}
theorem _root_.WB.Ok.val {S : Sta} (o : WB.Ok S) {x : Str} (hx : x ∈ nmS) : valV S.names (.inr x) = some (S.look x) := by
  have m : (.inr x : Key) ∈ S.names.map (·.1) := by
    rw [o.names]; exact List.mem_map_of_mem hx
  unfold Sta.look
  cases e : valV S.names (.inr x) with
  | some v => rfl
  | none => exact absurd m (valV_not e)
theorem _root_.WB.Ok.n8 {S : Sta} (o : WB.Ok S) : S.names.length = 8 := by
  rw [← List.length_map (f := (·.1)), o.names]; rfl
theorem mem_refs {vs : List V} {j : Nat} (h : V.ref j ∈ vs) : j ∈ refs vs := List.mem_filterMap.mpr ⟨_, h, rfl⟩
theorem valV_mem {kvs : List (Key × V)} {k : Key} {v : V} (h : valV kvs k = some v) : v ∈ kvs.map (·.2) := by
  unfold valV at h
  obtain ⟨p, hp, e⟩ := Option.map_eq_some_iff.mp h
  exact List.mem_map.mpr ⟨p, List.mem_of_find?_eq_some hp, e⟩
theorem _root_.WB.Ok.look_live {S : Sta} {live : List Nat} (o : WB.Ok S) (l : Liv S live) {x : Str} (hx : x ∈ nmS) {j : Nat} (e : S.look x = .ref j) : j ∈ live := by
  refine l.kept j (.start (List.mem_append_left _ (mem_refs ?_)) trivial)
  have := valV_mem (o.val hx)
  rwa [e] at this
def spDo (K : PySem.W.Frag) (tag : Nat) : Sp := fun vs H Q _ => ∃ (h : Addr) (S : Sta) (live : List Nat) (O : List Addr) (dh n t : Addr) (A C : Nat → Addr) (d : Deed), d.tag = tag ∧ d.ok ∧ vs = .ref h :: d.args ∧ HeapX K H h S live O dh n t .non A C ∧ WB.Ok S ∧ Liv S live ∧
  ∀ r H' S' live' O' ch' A' C' told chg, StepR S d S' told chg → live' = (if S'.made = S.made then live else live ++ [S.made]) → Stp O H H' → Frs O O' H → TRF H O' H' r told → ChR H' ch' chg → HeapX K H' h S' live' O' dh n t ch' A' C' → Q r H'
end
end WK
namespace WK
open PySem PySem.Spec PyProof.Rows L2 He WB
section
variable {P : Program} {w : World} {K : PySem.W.Frag} {mg : Str → Option Value} {base : Heap}
theorem VR.ntup {H : Hp} {n : Addr} {vs : List (Key × V)} (e : H n = some (.dK vs)) {o : HO} : Tup H (upd H n o) := tup_upd (by rw [e]; intro xs z; cases z; rfl)
theorem TR.of {H : Hp} {r v : V} (h : VR H r v) : TR H r (.val v) := by
  cases v <;> first | exact h | exact h.elim
theorem TRF.of {H0 H : Hp} {O : List Addr} {r v : V} (h : VR H r v) : TRF H0 O H r (.val v) := ⟨TR.of h, trivial⟩
theorem same_live {S S' : Sta} {live : List Nat} (h : S'.made = S.made) : live = (if S'.made = S.made then live else live ++ [S.made]) := by rw [if_pos h]
end
end WK
namespace WK
open PySem PySem.Spec PyProof.Rows L2 He WB
section
variable {P : Program} {w : World} {K : PySem.W.Frag} {mg : Str → Option Value} {base : Heap}
end
end WK
namespace WK
open PySem PySem.Spec PyProof.Rows L2 He WB
section
variable {P : Program} {w : World} {K : PySem.W.Frag} {mg : Str → Option Value} {base : Heap}
theorem reach_all {S : Sta} {live : List Nat} (lv : Liv S live) (k : Nat) : Reach S live k ↔ ReachA S k := rch_iff (fun k h => lv.kept k (ReachA.kept h)) k
theorem tell_isWat {S : Sta} {R : Nat → Prop} {j : Nat} : ((S.tellBy R).th j).body.isWat = (S.th j).body.isWat := by
  show (match (S.th j).body with | .wat s g => _ | _ => _ : Th).body.isWat = _
  cases e : (S.th j).body <;> first | rfl | (show (S.th j).body.isWat = _; rw [e])
end
end WK
/-! What stays right as deeds are done. -/
namespace WB
open PySem PySem.Spec PyProof.Rows L2 He
theorem Rch.sub {nx nx' : Nat → List Nat} {am : Nat → Prop} {st st' : List Nat} {k : Nat} (hn : ∀ j k, k ∈ nx' j → k ∈ nx j) (hs : ∀ k ∈ st', am k → Rch nx am st k) (r : Rch nx' am st' k) : Rch nx am st k := by
  induction r with
  | start h ha => exact hs _ h ha
  | step _ hk ha ih => exact .step ih (hn _ _ hk) ha
theorem putK_mem {kvs : List (Key × V)} {k : Key} {v : V} {p : Key × V} (h : p ∈ putK kvs k v) : p ∈ kvs ∨ p = (k, v) := by
  unfold putK at h
  split at h
  · obtain ⟨q, hq, e⟩ := List.mem_map.mp h
    by_cases g : q.1 = k
    · rw [if_pos g] at e; exact .inr (by rw [← e, g])
    · rw [if_neg g] at e; exact .inl (e ▸ hq)
  · rcases List.mem_append.mp h with h | h
    · exact .inl h
    · exact .inr (List.mem_singleton.mp h)
theorem putK_keys' {kvs : List (Key × V)} {k : Key} {v : V} (h : k ∈ kvs.map (·.1)) : (putK kvs k v).map (·.1) = kvs.map (·.1) := by
  unfold putK
  obtain ⟨q, hq, e⟩ := List.mem_map.mp h
  rw [if_pos (List.any_eq_true.mpr ⟨q, hq, decide_eq_true e⟩), List.map_map]
  refine List.map_congr_left fun p _ => ?_
  show (if p.1 = k then (p.1, v) else p).1 = p.1
  split <;> rfl
theorem mem_refs_iff {vs : List V} {j : Nat} : j ∈ refs vs ↔ V.ref j ∈ vs := by
  unfold refs
  rw [List.mem_filterMap]
  constructor
  · rintro ⟨v, hv, e⟩
    cases v <;> first | cases e | skip
    exact hv
  · exact fun h => ⟨_, h, rfl⟩
theorem VOk.mono {m m' : Nat} (h : m ≤ m') : {v : V} → VOk m v → VOk m' v
  | .ref k, q => Nat.lt_of_lt_of_le q h
  | .non, _ => trivial
  | .int _, _ => trivial
theorem nm_key {S : Sta} (o : Ok S) {x : Str} (hx : x ∈ nmS) : (.inr x : Key) ∈ S.names.map (·.1) := by
  rw [o.names]; exact List.mem_map_of_mem hx
theorem Ok.setName {S : Sta} {x : Str} {v : V} (o : Ok S) (hx : x ∈ nmS) (hv : VOk S.made v) : Ok (S.setName x v) :=
  ⟨(putK_keys' (nm_key o hx)).trans o.names, fun p hp => by
    rcases putK_mem hp with h | rfl
    · exact o.nv p h
    · exact hv, o.wf, o.bv, o.wv, o.gl⟩
theorem Ok.setTh {S : Sta} {j : Nat} {t : Th} (o : Ok S) (w : t.body.wf) (b : ∀ v ∈ t.body.vals, VOk S.made v) (hw : ∀ s g, t.body = .wat s g → s < S.made ∧ t.last = .no) (hg : t.goal = .non ∨ ∃ x ∈ nmS, t.goal = .str x) : Ok (S.setTh j t) := by
  have key : ∀ (P : Th → Prop), P t → ∀ k, P (S.th k) → P ((S.setTh j t).th k) := fun P pt k pk => by
    by_cases e : k = j
    · subst e; rw [setTh_eq]; exact pt
    · rw [setTh_ne e]; exact pk
  exact ⟨o.names, o.nv, fun k hk => key (fun x => x.body.wf) w k (o.wf k hk), fun k hk => key (fun x => ∀ v ∈ x.body.vals, VOk S.made v) b k (o.bv k hk),
    fun k hk => key (fun x => ∀ s g, x.body = .wat s g → s < S.made ∧ x.last = .no) hw k (o.wv k hk), fun k hk => key (fun x => x.goal = .non ∨ ∃ y ∈ nmS, x.goal = .str y) hg k (o.gl k hk)⟩
theorem Ok.add {S : Sta} {t : Th} (o : Ok S) (w : t.body.wf) (b : ∀ v ∈ t.body.vals, VOk (S.made + 1) v) (hw : ∀ s g, t.body = .wat s g → s < S.made + 1 ∧ t.last = .no) (hg : t.goal = .non ∨ ∃ x ∈ nmS, t.goal = .str x) : Ok (S.add t) := by
  have key : ∀ (P : Th → Prop), P t → ∀ k < S.made + 1, (k < S.made → P (S.th k)) → P ((S.add t).th k) := fun P pt k hk pk => by
    by_cases e : k = S.made
    · subst e; show P (if S.made = S.made then t else S.th S.made); rw [if_pos rfl]; exact pt
    · show P (if k = S.made then t else S.th k); rw [if_neg e]; exact pk (by omega)
  exact ⟨o.names, fun p hp => VOk.mono (Nat.le_succ _) (o.nv p hp), fun k hk => key (fun x => x.body.wf) w k hk (o.wf k), fun k hk => key (fun x => ∀ v ∈ x.body.vals, VOk (S.made + 1) v) b k hk fun h v hv => VOk.mono (Nat.le_succ _) (o.bv k h v hv),
    fun k hk => key (fun x => ∀ s g, x.body = .wat s g → s < S.made + 1 ∧ x.last = .no) hw k hk fun h s g e => ⟨Nat.lt_succ_of_lt (o.wv k h s g e).1, (o.wv k h s g e).2⟩, fun k hk => key (fun x => x.goal = .non ∨ ∃ y ∈ nmS, x.goal = .str y) hg k hk (o.gl k)⟩
/-- what telling leaves as it is -/
theorem tell_th {S : Sta} {R : Nat → Prop} (j : Nat) : ((S.tellBy R).th j = S.th j) ∨ ∃ s g g', (S.th j).body = .wat s g ∧ (S.tellBy R).th j = { S.th j with body := .wat s g' } := by
  show (match (S.th j).body with | .wat s g => _ | _ => _) = _ ∨ _
  cases e : (S.th j).body with
  | wat s g =>
    refine .inr ⟨s, g, g || !@decide (R s) (Classical.propDecidable _), rfl, ?_⟩
    show (match (S.th j).body with | .wat s g => _ | _ => _) = _
    rw [e]
  | _ => exact .inl rfl
theorem tell_last {S : Sta} {R : Nat → Prop} (j : Nat) : ((S.tellBy R).th j).last = (S.th j).last := by
  rcases tell_th (S := S) (R := R) j with e | ⟨s, g, g', _, e⟩ <;> rw [e]
theorem tell_goal {S : Sta} {R : Nat → Prop} (j : Nat) : ((S.tellBy R).th j).goal = (S.th j).goal := by
  rcases tell_th (S := S) (R := R) j with e | ⟨s, g, g', _, e⟩ <;> rw [e]
theorem tell_heldS {S : Sta} {R : Nat → Prop} : heldS (S.tellBy R) = heldS S := by
  funext j
  unfold heldS
  rcases tell_th (S := S) (R := R) j with e | ⟨s, g, g', e1, e⟩
  · rw [e]
  · rw [e, e1]; rfl
theorem tell_dues {S : Sta} {R : Nat → Prop} : duesA (S.tellBy R) = duesA S := by
  unfold duesA
  refine List.filter_congr fun k _ => ?_
  rw [tell_last]
theorem tell_kept {S : Sta} {R : Nat → Prop} : KeptA (S.tellBy R) = KeptA S := by
  unfold KeptA
  rw [tell_heldS, tell_dues]; rfl
theorem tell_reach {S : Sta} {R : Nat → Prop} : ReachA (S.tellBy R) = ReachA S := by
  unfold ReachA
  rw [tell_heldS]; rfl
theorem Ok.tellBy {S : Sta} {R : Nat → Prop} (o : Ok S) : Ok (S.tellBy R) := by
  refine ⟨o.names, o.nv, fun k hk => ?_, fun k hk => ?_, fun k hk => ?_, fun k hk => by rw [tell_goal]; exact o.gl k hk⟩
  · rcases tell_th (S := S) (R := R) k with e | ⟨s, g, g', e1, e⟩ <;> rw [e]
    · exact o.wf k hk
    · exact trivial
  · rcases tell_th (S := S) (R := R) k with e | ⟨s, g, g', e1, e⟩ <;> rw [e]
    · exact o.bv k hk
    · intro v hv; cases hv
  · rcases tell_th (S := S) (R := R) k with e | ⟨s, g, g', e1, e⟩ <;> rw [e]
    · exact o.wv k hk
    · intro s2 g2 e2
      cases e2
      exact o.wv k hk s g e1
theorem perform_th {S : Sta} {j : Nat} (k : Nat) : (performS S j).th k = if k = j then ⟨(S.th j).body, .done, (S.th j).goal⟩ else S.th k := by
  unfold performS
  split <;> rfl
theorem perform_made {S : Sta} {j : Nat} : (performS S j).made = S.made := by
  unfold performS
  split <;> rfl
theorem Ok.perform {S : Sta} {j : Nat} (o : Ok S) (hj : j < S.made) (hd : (S.th j).last = .due) : Ok (performS S j) := by
  have o1 : Ok (S.setTh j ⟨(S.th j).body, .done, (S.th j).goal⟩) := o.setTh (o.wf j hj) (o.bv j hj) (fun s g e => by rw [(o.wv j hj s g e).2] at hd; cases hd) (o.gl j hj)
  unfold performS
  rcases o.gl j hj with e | ⟨x, hx, e⟩ <;> rw [e] <;> rw [e] at o1
  · exact o1
  · exact o1.setName hx hj
theorem perform_held {S : Sta} {j : Nat} : heldS (performS S j) = heldS S := by
  funext k
  unfold heldS
  rw [perform_th]
  by_cases e : k = j
  · rw [if_pos e, e]
  · rw [if_neg e]
theorem perform_dues {S : Sta} {j k : Nat} (h : k ∈ duesA (performS S j)) : k ∈ duesA S ∧ k ≠ j := by
  unfold duesA at h ⊢
  rw [perform_made] at h
  obtain ⟨h1, h2⟩ := List.mem_filter.mp h
  rw [perform_th] at h2
  by_cases e : k = j
  · rw [if_pos e] at h2; cases h2
  · rw [if_neg e] at h2; exact ⟨List.mem_filter.mpr ⟨h1, h2⟩, e⟩
theorem nums_setName {S : Sta} {x : Str} {v : V} {k : Nat} (h : k ∈ numsS (S.setName x v)) : k ∈ numsS S ∨ v = .ref k := by
  unfold numsS at h
  obtain ⟨p, hp, e⟩ := List.mem_map.mp (mem_refs_iff.mp h)
  rcases putK_mem hp with q | q
  · exact .inl (mem_refs_iff.mpr (List.mem_map.mpr ⟨p, q, e⟩))
  · rw [q] at e; exact .inr e
theorem perform_nums {S : Sta} {j k : Nat} (h : k ∈ numsS (performS S j)) : k ∈ numsS S ∨ k = j := by
  unfold performS at h
  split at h
  · rcases nums_setName h with h | h
    · exact .inl h
    · cases h; exact .inr rfl
  · exact .inl h
theorem due_mem {S : Sta} {j : Nat} (hj : j < S.made) (hd : (S.th j).last = .due) : j ∈ duesA S := List.mem_filter.mpr ⟨List.mem_range.mpr hj, by rw [hd]; rfl⟩
theorem mem_due {S : Sta} {j : Nat} (h : j ∈ duesA S) : j < S.made ∧ (S.th j).last = .due := by
  obtain ⟨h1, h2⟩ := List.mem_filter.mp h
  refine ⟨List.mem_range.mp h1, ?_⟩
  cases q : (S.th j).last with
  | due => rfl
  | no => rw [q] at h2; cases h2
  | done => rw [q] at h2; cases h2
theorem perform_kept {S : Sta} {j k : Nat} (hj : j < S.made) (hd : (S.th j).last = .due) (h : KeptA (performS S j) k) : KeptA S k := by
  unfold KeptA at h
  rw [perform_held] at h
  refine Rch.sub (fun _ _ h => h) (fun i hi _ => ?_) h
  rcases List.mem_append.mp hi with hi | hi
  · rcases perform_nums hi with q | rfl
    · exact .start (List.mem_append_left _ q) trivial
    · exact .start (List.mem_append_right _ (due_mem hj hd)) trivial
  · exact .start (List.mem_append_right _ (perform_dues hi).1) trivial
theorem Liv.perform {S : Sta} {live : List Nat} {j : Nat} (l : Liv S live) (hj : j < S.made) (hd : (S.th j).last = .due) : Liv (performS S j) live :=
  ⟨fun k hk => by rw [perform_made]; exact l.lt k hk, l.srt, l.len, fun k h => l.kept k (perform_kept hj hd h)⟩
theorem Liv.tellBy {S : Sta} {live : List Nat} {R : Nat → Prop} (l : Liv S live) : Liv (S.tellBy R) live :=
  ⟨l.lt, l.srt, l.len, fun k h => l.kept k (by rwa [tell_kept] at h)⟩
theorem foldP_th : ∀ {js : List Nat} {S : Sta} (k : Nat), (js.foldl performS S).th k = if k ∈ js then ⟨(S.th k).body, .done, (S.th k).goal⟩ else S.th k
  | [], S, k => (if_neg List.not_mem_nil).symm
  | j :: r, S, k => by
    rw [List.foldl_cons, foldP_th k, perform_th]
    by_cases e : k = j
    · subst e
      rw [if_pos rfl, if_pos List.mem_cons_self]
      split <;> rfl
    · rw [if_neg e]
      by_cases m : k ∈ r
      · rw [if_pos m, if_pos (List.mem_cons_of_mem _ m)]
      · rw [if_neg m, if_neg (fun z => (List.mem_cons.mp z).elim e m)]
theorem foldP_made : ∀ {js : List Nat} {S : Sta}, (js.foldl performS S).made = S.made
  | [], _ => rfl
  | j :: r, S => by rw [List.foldl_cons, foldP_made, perform_made]
theorem foldP_ok : ∀ {js : List Nat} {S : Sta} {live : List Nat}, js.Nodup → (∀ j ∈ js, j < S.made ∧ (S.th j).last = .due) → Ok S → Liv S live → Ok (js.foldl performS S) ∧ Liv (js.foldl performS S) live
  | [], S, live, _, _, o, l => ⟨o, l⟩
  | j :: r, S, live, nd, h, o, l => by
    obtain ⟨n1, n2⟩ := List.nodup_cons.mp nd
    obtain ⟨h1, h2⟩ := h j List.mem_cons_self
    rw [List.foldl_cons]
    refine foldP_ok n2 (fun i hi => ?_) (o.perform h1 h2) (l.perform h1 h2)
    have q := h i (List.mem_cons_of_mem _ hi)
    rw [perform_made, perform_th, if_neg (by rintro rfl; exact n1 hi)]
    exact q
theorem foldP_dues {js : List Nat} {S : Sta} : duesA (js.foldl performS S) = (duesA S).filter fun k => !decide (k ∈ js) := by
  unfold duesA
  rw [foldP_made, List.filter_filter]
  refine List.filter_congr fun k _ => ?_
  rw [foldP_th]
  by_cases m : k ∈ js
  · rw [if_pos m, decide_eq_true m]; rfl
  · rw [if_neg m, decide_eq_false m]; simp
theorem srt_ext {a b : List Nat} (ha : a.Pairwise (· < ·)) (hb : b.Pairwise (· < ·)) (h : ∀ k, k ∈ a ↔ k ∈ b) : a = b := by
  have na : a.Nodup := ha.imp fun h => Nat.ne_of_lt h
  have nb : b.Nodup := hb.imp fun h => Nat.ne_of_lt h
  exact List.Perm.eq_of_pairwise (fun _ _ _ _ x y => absurd (Nat.lt_trans x y) (Nat.lt_irrefl _)) ha hb ((List.perm_ext_iff_of_nodup na nb).mpr h)
theorem dues_srt {S : Sta} : (duesA S).Pairwise (· < ·) := List.pairwise_lt_range.filter _
theorem filt_len {α : Type} (p : α → Bool) : ∀ l : List α, (l.filter p).length + (l.filter fun k => !p k).length = l.length
  | [] => rfl
  | a :: r => by
    have := filt_len p r
    rw [List.filter_cons, List.filter_cons]
    cases p a <;> simp <;> omega
theorem turn_len {S : Sta} : (turnS S).length + (duesA ((turnS S).foldl performS S)).length = (duesA S).length := by
  classical
  rw [foldP_dues]
  have e : (duesA S).filter (fun k => !decide (k ∈ turnS S)) = (duesA S).filter fun k => !(!decide (ReachA S k)) := by
    refine List.filter_congr fun k hk => ?_
    congr 1
    unfold turnS
    by_cases q : ReachA S k
    · rw [decide_eq_true q]
      refine decide_eq_false fun z => ?_
      have := (List.mem_filter.mp z).2
      simp [q] at this
    · rw [decide_eq_false q]
      exact decide_eq_true (List.mem_filter.mpr ⟨hk, by simp [q]⟩)
  rw [e]
  unfold turnS
  exact filt_len _ _
end WB
namespace WK
open PySem PySem.Spec PyProof.Rows L2 He WB
section
variable {P : Program} {w : World} {K : PySem.W.Frag} {mg : Str → Option Value} {base : Heap}
theorem HeapX.off {H : Hp} {h : Addr} {S : Sta} {live : List Nat} {O : List Addr} {dh n t : Addr} {ch : V} {A C : Nat → Addr} {l : Addr} {o : HO} (X : HeapX K H h S live O dh n t ch A C) (hl : l ∉ O) (tp : Tup H (upd H l o)) : HeapX K (upd H l o) h S live O dh n t ch A C := by
  obtain ⟨vs, e1, e2, e3, e4, e5, e6, e7⟩ := X
  have ne : ∀ {x : Addr}, x ∈ O → x ≠ l := fun hx e => hl (e ▸ hx)
  exact ⟨vs, by rw [upd_ne (ne e7.h)]; exact e1, by rw [upd_ne (ne e7.n)]; exact e2, KVR.mono tp e3, by rw [upd_ne (ne e7.t)]; exact e4, fun k hk => (e5 k hk).off tp (ne (e7.a k hk)) fun w => ne (e7.c k hk w), e6, ⟨e7.h, e7.n, e7.t, e7.a, e7.c, fun b hb => by
    obtain ⟨u, e, q⟩ := e7.tr b hb
    exact ⟨u, by rw [upd_ne (ne hb)]; exact e, q⟩⟩⟩
theorem dues_eq {S : Sta} {live : List Nat} (lv : Liv S live) : dues S live = duesA S := by
  refine srt_ext (lv.srt.filter _) dues_srt fun k => ?_
  constructor
  · intro h
    obtain ⟨h1, h2⟩ := List.mem_filter.mp h
    exact List.mem_filter.mpr ⟨List.mem_range.mpr (lv.lt k h1), h2⟩
  · intro h
    have := (List.mem_filter.mp h).2
    exact List.mem_filter.mpr ⟨lv.kept k (.start (List.mem_append_right _ h) trivial), this⟩
def SetW (K : PySem.W.Frag) (h l : Addr) (S : Sta) (live : List Nat) (O : List Addr) (dh n t : Addr) (A C : Nat → Addr) (H : Hp) (m : Nat) (σ : L2.St) (H' : Hp) : Prop :=
  ∃ S1 ks x2 x3 x4, σ = [some (.ref h), some (.ref l), x2, x3, x4] ∧ H' l = some (.lst (nV ks)) ∧ HeapX K H' h S1 live O dh n t .non A C ∧ Stp (l :: O) H H' ∧ WB.Ok S1 ∧ Liv S1 live ∧ S1.made = S.made ∧ m = (duesA S1).length ∧
    (∀ ks' S', Settle S1 ks' S' → Settle S (ks ++ ks') S') ∧ ks.length + (duesA S1).length ≤ live.length
open Classical in
theorem turn_take {S : Sta} {i j : Nat} {R : List Nat} (hR : ∀ k, k ∈ R ↔ ReachA S k) (h : (duesA S)[i]? = some j) :
    ((duesA S).take (i + 1)).filter (fun k => !decide (ReachA S k)) = ((duesA S).take i).filter (fun k => !decide (ReachA S k)) ++ (if (!decide (j ∈ R)) = true then [j] else []) := by
  rw [take_snoc h, List.filter_append]
  congr 1
  have e : decide (j ∈ R) = decide (ReachA S j) := by
    by_cases q : j ∈ R
    · rw [decide_eq_true q, decide_eq_true ((hR j).mp q)]
    · rw [decide_eq_false q, decide_eq_false fun z => q ((hR j).mpr z)]
  rw [e, List.filter_cons]; rfl
open Classical in
end
end WK
/-! word, *parts = a tuple. -/
namespace WB
open PySem PySem.Spec PySem.Calls PyProof.Rows PySem.W L2 He
section
variable {prog : Program} {w : World} {A : Around} {E : Value → Shared → Prop} {s : Shared}
theorem star_raw {l : Addr} {u0 : Value} {us : List Value} {Q : List Value → Shared → Prop} (ht : IsTup s.heap l (u0 :: us).toArray) (hh : A.handled = none) (hz : us.length ≤ 1000)
    (h : ∀ (h' : Heap) (tk : Nat), (∀ b o, s.heap.get? b = some o → h'.get? b = some o) → Q [u0, .ref h'.objs.size] { s with heap := h'.push { cls := .type "list", data := .seq us.toArray }, toks := tk }) :
    wpAny (model prog w) A (unpackItems (.ref l) 2 (some 1)) Q E s := by
  have hll : l < s.heap.objs.size := by obtain ⟨o, ho, _⟩ := ht; exact Heap.lt_size ho
  have hlt : l ≠ s.heap.objs.size := Nat.ne_of_lt hll
  have hsz : (u0 :: us).toArray.size = us.length + 1 := by simp
  unfold unpackItems notIterableAtAll
  refine wpAny_bind (wpAny_bind (wpAny_specialOf ht.typeIs slot_tuple_iter.lookup (wpAny_pure ?_)))
  rw [if_neg (by decide)]
  refine wpAny_bind (wpAny_holding (iter_tuple ht ?_))
  refine wpAny_bind (wpAny_holding (draw_tuple hlt 1 0 _ _ ⟨_, Heap.get?_push_size _ rfl, rfl, rfl⟩ (ht.push _) (by omega) fun h1 it1 s1 => ?_))
  have ht1 : IsTup h1 l (u0 :: us).toArray := (ht.push _).extBut s1.extBut hlt
  have k1 : ∀ b o, s.heap.get? b = some o → h1.get? b = some o := fun b o e => s1.extBut b o (Nat.ne_of_lt (Heap.lt_size e)) (Heap.get?_push_of_some _ e)
  rw [Nat.zero_add] at it1
  obtain ⟨oi, hoi, _⟩ := id it1
  obtain ⟨ol, hol, _⟩ := id ht1
  show wpAny _ _ (if ([u0] : List Value).length < 1 then _ else _) _ _ _
  rw [if_neg (by show ¬ 1 < 1; omega)]
  refine wpAny_bind (wpAny_holding (kun_collect (s := { s with heap := h1 }) (T := "tuple_iterator") (.inr (.inr (.inr rfl))) (Walks.tuple (A := A.in1) hh s.heap.objs.size l hlt (u0 :: us).toArray) (fun j u st => st.1.typeIs) (k := 1) (by omega) ⟨it1, ht1⟩ (Heap.lt_size hoi) (Heap.lt_size hol) (fun h2 tk k2 => ?_) (by rw [sizeLine_eq]; omega)))
  show wpAny _ _ (if us.length < 0 then _ else _) _ _ _
  rw [if_neg (by omega)]
  show wpAny _ _ (newList (us.take us.length) >>= fun d => pure ([u0] ++ [d] ++ us.drop us.length)) _ _ _
  rw [List.take_length, List.drop_length]
  have k : ∀ b o, s.heap.get? b = some o → h2.get? b = some o := fun b o e => k2 b o (Nat.ne_of_lt (Heap.lt_size e)) (k1 b o e)
  exact wpAny_bind (wpAny_newList (wpAny_pure (h h2 tk k)) (by rw [sizeLine_eq]; omega))
end
/-- a, *b = a tuple: b a new list -/
def gStar1 (K : PySem.W.Frag) (t : TGs) : TG := fun v σ H Q => ∃ a x xs, v = .ref a ∧ SqT K H a (x :: xs) ∧ xs.length ≤ 1000 ∧ ∀ D, H D = none → t [x, .ref D] σ (upd H D (.lst xs)) Q
theorem pg_star {X : Cx} {pos : Pos} {e1 e2 : Expr} {sp : Pos} {k : Nat} {t : TGs} (hc : X.calm = true) (h : PGs X [e1, e2] t) (hn : (assignEach [e1, .Starred e2 sp] X.env).length = 2 := by rfl) (hst : (assignEach [e1, .Starred e2 sp] X.env).findIdx? (·.1) = some 1 := by rfl)
    (hm : (assignEach [e1, .Starred e2 sp] X.env).map (·.2) = (assignEach [e1, e2] X.env).map (·.2) := by rfl) : PG X (.Tuple [e1, .Starred e2 sp] k pos) (gStar1 X.K t) := by
  refine ⟨fun pins s σ H v u Q I r hw => ?_⟩
  obtain ⟨a, x, xs, e1', hq, hl, hw⟩ := hw
  subst e1'
  cases r
  obtain ⟨its, rv, ht, hz⟩ := I.tuple hq
  cases rv with
  | cons r0 rr =>
    rename_i u0 us
    have lu := rr.length
    rw [assign_Tuple]
    refine wpAny_bind (wpAny_standAt ?_)
    unfold unpack
    rw [hn, hst]
    refine wpAny_bind (wpAny_holding (star_raw ht (I.ok.hd hc) (by omega) fun h' tk kp => ?_))
    have I0 : Inv X pins σ H { s with heap := h', toks := tk } := I.kept kp
    have hf : H h'.objs.size = none := I0.hok.fresh (Nat.le_refl _)
    rw [hm]
    have I1 : Inv X pins σ (upd H h'.objs.size (.lst xs)) { s with heap := h'.push { cls := .type "list", data := .seq us.toArray }, toks := tk } :=
      I0.laid (t' := tk) (fun b u e => Heap.get?_push_of_some _ e) (Nat.le_refl _) ⟨by rw [sizeLine_eq]; omega, us, 0, rr, Heap.get?_push_size _ rfl⟩
    exact h.run pins _ σ _ [x, .ref h'.objs.size] [u0, .ref h'.objs.size] Q I1 (.cons r0 (.cons rfl .nil)) (hw _ hf)
end WB
/-! A call of a local that holds a def, with a starred argument. -/
namespace WB
open PySem PySem.Spec PyProof.Rows L2 He
section
variable {X : Cx} {M : C5} {k0 i : Nat} {x : Str} {p pos : Pos} {e : Expr} {es : List Expr} {t : TA}
def tCL (M : C5) (k0 i : Nat) (t : TA) : TE := fun σ H Q => ∃ (f : Addr) (ps : List Str) (sp : Sp) (k : Nat), σ[i]? = some (some (.ref f)) ∧ DefOk M k f ps sp ∧ k ≤ k0 ∧ t σ H fun vs H1 => sp vs H1 Q E0
theorem pe_clS (hM : five X = M) (hr : Room k0 X.A) (hN : X.N[i]? = some x) (hv : Vis X.env.scope x) (ha : PA X (e :: es) t) (hdb : (x == ("__debug__" : Str)) = false := by decide) (hcd : (x == ("__classdict__" : Str)) = false := by decide)
    (he : starEach (e :: es) X.env = (false, eval e X.env) :: starEach es X.env := by rfl) (hst : (backTo pos (starEach es X.env)).any (·.1) = true := by rfl) : PE X (.Call (.Name x p) (e :: es) [] pos) (tCL M k0 i t) := by
  subst hM
  refine ⟨fun pins s σ H Q I ⟨f, ps, sp, k, hs, D, hk, h⟩ => ?_⟩
  obtain ⟨fd, F, b⟩ := D.ex
  refine wpAny_Call_Name_kw (thn ((pe_var (pos := p) hN hv hdb hcd).run pins s σ H (fun v H1 => v = .ref f ∧ H1 = H) I ⟨.ref f, hs, rfl, rfl⟩) fun u s1 ⟨v, H1, I1, r1, q1⟩ => ?_)
  obtain ⟨rfl, rfl⟩ := q1
  cases r1
  refine PySem.W.callWith_S2 (h₀ := X.base) I.ok.mod.kin D.kp (thn (ha.run pos pins s1 σ _ _ I1 h) fun us s2 ⟨vs, H2, I2, r, q⟩ => ⟨I2.kIn, ?_⟩) he hst
  exact run_fn (dvs := []) F (hr.mono hk) b .nil pass0 I2 r (by rw [List.append_nil]; exact q)
end
end WB
namespace WK
open PySem PySem.Spec PyProof.Rows L2 He WB
section
variable {P : Program} {w : World} {K : PySem.W.Frag} {mg : Str → Option Value} {base : Heap}
def spAct (K : PySem.W.Frag) : Sp := fun vs H Q _ => ∃ (h dp : Addr) (S : Sta) (live : List Nat) (O : List Addr) (dh n t : Addr) (ch : V) (A C : Nat → Addr) (d : Deed), d.ok ∧ vs = [.ref h, .ref dp] ∧ SqT K H dp (.str d.word :: d.args) ∧ HeapX K H h S live O dh n t ch A C ∧ WB.Ok S ∧ Liv S live ∧
  ∀ r H' S' live' O' ch' A' C' told chg, StepR S d S' told chg → live' = (if S'.made = S.made then live else live ++ [S.made]) → Stp O H H' → Frs O O' H → TRF H O' H' r told → ChR H' ch' chg → HeapX K H' h S' live' O' dh n t ch' A' C' → Q r H'
end
end WK
/-! zip of a tuple and a list of one length. -/
namespace WB
open PySem PySem.Spec PyProof.Rows L2 He
/-- a tuple at a, a list at b, gone through together, each turn in a new pair -/
def ItzM (K : PySem.W.Frag) (a b : Addr) : It :=
  ⟨fun i H => ∃ (xs ys : List V) (x y : V), SqT K H a xs ∧ SqL K H b ys ∧ xs[i]? = some x ∧ ys[i]? = some y,
    fun i H v H' => ∃ T x y, v = .ref T ∧ H T = none ∧ H' = upd H T (.tup [x, y]) ∧ (∀ xs, SqT K H a xs → xs[i]? = some x) ∧ ∀ ys, SqL K H b ys → ys[i]? = some y,
    fun i H => ∃ xs ys : List V, SqT K H a xs ∧ SqL K H b ys ∧ i = xs.length ∧ i = ys.length⟩
theorem sep_mix {a b z TI TO i1 i2 : Addr} (D : ZipApart z TI TO i1 i2 a b) : ZipSep2 z TI TO i1 i2 [i1, a] [i2, b] where
  TIz := D.TIz
  TOz := D.TOz
  TITO := D.TITO
  TIi1 := D.TIi1
  mem1 := List.mem_cons_self
  zf1 := fun h => by simp only [List.mem_cons, List.not_mem_nil, or_false] at h; exact h.elim D.i1z.symm D.l1z.symm
  Tf1 := fun h => by simp only [List.mem_cons, List.not_mem_nil, or_false] at h; exact h.elim D.TOi1 D.l1TO.symm
  TIi2 := D.TIi2
  mem2 := List.mem_cons_self
  zf2 := fun h => by simp only [List.mem_cons, List.not_mem_nil, or_false] at h; exact h.elim D.i2z.symm D.l2z.symm
  Tf2 := fun h => by simp only [List.mem_cons, List.not_mem_nil, or_false] at h; exact h.elim D.TOi2 D.l2TO.symm
  sep1_2 := fun h => by simp only [List.mem_cons, List.not_mem_nil, or_false] at h; exact h.elim D.i12 D.l2i1.symm
  sep2_1 := fun h => by simp only [List.mem_cons, List.not_mem_nil, or_false] at h; exact h.elim D.i12.symm D.l1i2.symm
theorem mem5 {z TI TO i1 i2 c : Addr} {p : Addr → Prop} (h : c ∈ [z, TI, TO, i1, i2]) (h1 : p z) (h2 : p TI) (h3 : p TO) (h4 : p i1) (h5 : p i2) : p c := by
  simp only [List.mem_cons, List.not_mem_nil, or_false] at h
  rcases h with rfl | rfl | rfl | rfl | rfl <;> assumption
theorem turn_mix {P : Program} {w : World} {K : PySem.W.Frag} {elts : List Expr} {kk : Nat} {tpos : Pos} {a b z TI TO i1 i2 : Addr} (D : ZipApart z TI TO i1 i2 a b) :
    Turn P w K (.Tuple elts kk tpos) (ItzM K a b) [z, TI, TO, i1, i2] z (fun i h => IsZip h z TI TO .none ∧ IsPair h TI (.ref i1) (.ref i2) ∧ (∃ x y, IsPair h TO x y) ∧ h.IsTupleIter i1 a i ∧ h.IsListIter i2 b i) where
  mem := List.mem_cons_self
  obj := fun i h ⟨hz, hI, ⟨x, y, hO⟩, ⟨o1, p1, _, q1⟩, ⟨o2, p2, _, q2⟩⟩ c hc =>
    mem5 (p := fun c => ∃ o, h.get? c = some o ∧ ∀ v, o.data ≠ .cell v) hc ⟨_, hz, fun v q => by cases q⟩ ⟨_, hI, fun v q => by cases q⟩ ⟨_, hO, fun v q => by cases q⟩ ⟨o1, p1, fun v q => by rw [q1] at q; cases q⟩ ⟨o2, p2, fun v q => by rw [q2] at q; cases q⟩
  keep := fun i h h' ⟨hz, hI, ⟨x, y, hO⟩, t1, t2⟩ k =>
    ⟨k z (by simp) _ hz, k TI (by simp) _ hI, ⟨x, y, k TO (by simp) _ hO⟩, t1.at fun o q => k i1 (by simp) o q, t2.at fun o q => k i2 (by simp) o q⟩
  item := by
    rintro X rfl rfl rfl hc i pins s σ H E I hf ⟨hz, hI, ⟨x0, y0, hO⟩, t1, t2⟩ ⟨xs, ys, x, y, hx, hy, gx, gy⟩
    obtain ⟨us, ru, pu, _⟩ := I.tuple hx
    obtain ⟨vs, rv, pv, _⟩ := I.list hy
    obtain ⟨u, hu, rx⟩ := ru.get gx
    obtain ⟨v, hv, ry⟩ := rv.get gy
    have hh : X.A.in1.handled = none := I.ok.hd hc
    have lz : z < s.heap.objs.size := Heap.lt_size hz
    refine wpAny_pyNext_zipD2_item (sep_mix D) (Draws.tuple hh i1 a D.l1i1 us.toArray) (Draws.list hh i2 b D.l2i2 vs.toArray) hz hI hO ⟨t1, pu⟩ ⟨t2, pv.isList⟩
      (by rw [List.size_toArray]; exact (List.getElem?_eq_some_iff.mp hu).1) (by rw [List.size_toArray]; exact (List.getElem?_eq_some_iff.mp hv).1) fun u' v' h' tk e1 e2 z' O' s1 s2 hT hsz hk => ?_
    have e1' : u' = u := by simpa [hu, eq_comm] using e1
    have e2' : v' = v := by simpa [hv, eq_comm] using e2
    subst e1' e2'
    refine ⟨_, rfl, wpAny_letOwnedTupleGo_zip (s := { s with heap := h', toks := tk }) z' fun h2 z2 sb => ?_⟩
    have hT2 : h2.get? s.heap.objs.size = some { cls := .type "tuple", data := .seq #[u', v'] } := (sb.2 _ (Nat.ne_of_gt lz)).trans hT
    have new : ObjOk X.prog X.w (upd H s.heap.objs.size (.tup [x, y])) h2 s.heap.objs.size (.tup [x, y]) :=
      ⟨by show 2 ≤ sizeLine; decide, [u', v'], .cons rx (.cons ry .nil), ⟨_, hT2, rfl, _, rfl⟩⟩
    have I1 : Inv X pins σ (upd H s.heap.objs.size (.tup [x, y])) { s with heap := h2, toks := tk } :=
      I.turnedNew (t' := tk) (ch := [z, TI, TO, i1, i2]) (fun c o hb q => (sb.2 c fun e => hb (by simp [e])).trans (hk c o (fun e => hb (by simp [e])) (fun e => hb (by simp [e])) (fun e => hb (by simp [e])) (fun e => hb (by simp [e])) q)) hf (Nat.le_refl _) new
    refine ⟨.ref s.heap.objs.size, _, I1, rfl, ⟨_, x, y, rfl, I.hok.fresh (Nat.le_refl _), rfl, fun l hl => by rw [I.tuple_inj hl hx]; exact gx, fun l hl => by rw [I.list_inj hl hy]; exact gy⟩,
      ⟨z2, (sb.2 _ D.TIz).trans (hk _ _ D.TIz D.TITO D.TIi1 D.TIi2 hI), ⟨u', v', (sb.2 _ D.TOz).trans O'⟩, s1.1.at fun o q => (sb.2 _ D.i1z).trans q, s2.1.at fun o q => (sb.2 _ D.i2z).trans q⟩, fun c hcm => ?_⟩
    have lt : c < s.heap.objs.size := by
      obtain ⟨_, p1, _⟩ := t1
      obtain ⟨_, p2, _⟩ := t2
      exact mem5 (p := fun c => c < s.heap.objs.size) hcm lz (Heap.lt_size hI) (Heap.lt_size hO) (Heap.lt_size p1) (Heap.lt_size p2)
    rw [upd_ne (Nat.ne_of_lt lt)]
    exact (hf c hcm).1
  done := by
    rintro X rfl rfl rfl hc i pins s σ H E I hf ⟨hz, hI, ⟨x0, y0, hO⟩, t1, t2⟩ ⟨xs, ys, hx, hy, l1, l2⟩
    obtain ⟨us, ru, pu, _⟩ := I.tuple hx
    obtain ⟨vs, rv, pv, _⟩ := I.list hy
    have hh : X.A.in1.handled = none := I.ok.hd hc
    have m1 := ru.length
    have m2 := rv.length
    have n1 : i = us.toArray.size := by rw [List.size_toArray]; omega
    have n2 : i = vs.toArray.size := by rw [List.size_toArray]; omega
    exact wpAny_pyNext_zipD2_end (sep_mix D) (Draws.tuple hh i1 a D.l1i1 us.toArray) (Draws.list hh i2 b D.l2i2 vs.toArray) hz hI hO ⟨t1, pu⟩ ⟨t2, pv.isList⟩ (Nat.le_of_eq n1) (Nat.le_of_eq n2) (.inl n1) fun h' tk hk => ⟨rfl, I.turnedL (t' := tk) (ch := [z, TI, TO, i1, i2]) (fun c o hb q =>
      hk c o (fun e => hb (by simp [e])) (fun e => hb (by simp [e])) (fun e => hb (by simp [e])) (fun e => hb (by simp [e])) q) hf⟩
  self := fun A i s Q E st h => wpAny_pyIter_zip st.1 h
def iZipM (K : PySem.W.Frag) (ta : TA) : TI := fun σ H R => ta σ H fun vs H1 => ∃ a b xs ys, vs = [.ref a, .ref b] ∧ SqT K H1 a xs ∧ SqL K H1 b ys ∧ R (ItzM K a b) H1
theorem pi_zipM {X : Cx} {e e2 : Expr} {ta : TA} {p pos tpos : Pos} {elts : List Expr} {kk : Nat} (hg : Gl X "zip") (hm : X.mg "zip" = none) (ha : PA X [e, e2] ta)
    (hs : starEach [e, e2] X.env = (false, eval e X.env) :: starEach [e2] X.env := by rfl) (hpl : (backTo pos (starEach [e2] X.env)).any (·.1) = false := by rfl) :
    PI X (.Tuple elts kk tpos) (.Call (.Name "zip" p) [e, e2] [] pos) (iZipM X.K ta) := by
  refine ⟨fun pins s σ H R I h => ?_⟩
  refine Call_ (ld_blt I hg hm PyProof.Rows.boot_zip (PyProof.Rows.callWith_type1 (thn (ha.run pos pins s σ H _ I h) fun us s1 ⟨vs, H1, I1, r1, a, b, xs, ys, ex, hx, hy, q⟩ => ?_) hs hpl))
  subst ex
  cases r1 with
  | cons r rr =>
    cases rr with
    | cons r' rr =>
      cases rr
      cases r
      cases r'
      obtain ⟨us, ru, pu, _⟩ := I1.tuple hx
      obtain ⟨vs, rv, pv, _⟩ := I1.list hy
      have la : a < s1.heap.objs.size := by obtain ⟨o, e, _⟩ := id pu; exact Heap.lt_size e
      refine zip_begins2 (begins_tuple a us.toArray) (begins_list b vs.toArray) pu pv.isList fun h' hz hI hO p1 p2 hsz hk => wpAny_pyIter_zip hz ?_
      have I2 : Inv X pins σ H1 { s1 with heap := h' } := I1.kept (t' := s1.toks) hk
      refine ⟨_, [s1.heap.objs.size + 4, s1.heap.objs.size + 2, s1.heap.objs.size + 3, s1.heap.objs.size, s1.heap.objs.size + 1], _, _, H1, rfl, I2, turn_mix (PySem.W.ktu_apart s1.heap.objs.size a b la pv.lt), ⟨hz, hI, ⟨_, _, hO⟩, ⟨_, p1, rfl, rfl⟩, ⟨_, p2, rfl, rfl⟩⟩, fun c hc => ?_, q⟩
      have hle : s1.heap.objs.size ≤ c := mem5 (p := fun c => s1.heap.objs.size ≤ c) hc (Nat.le_add_right _ _) (Nat.le_add_right _ _) (Nat.le_add_right _ _) (Nat.le_refl _) (Nat.le_add_right _ _)
      exact I1.fpOk hle (I1.hok.fresh hle)
theorem walk_mix {K : PySem.W.Frag} {a b : Addr} {xs ys : List V} (hl : xs.length = ys.length) : Walk (ItzM K a b) xs.length (fun H => SqT K H a xs ∧ SqL K H b ys) (YPair (xs[·]?) (ys[·]?)) where
  goes := fun i H hi ⟨h1, h2⟩ => ⟨xs, ys, _, _, h1, h2, List.getElem?_eq_getElem hi, List.getElem?_eq_getElem (by omega)⟩
  stops := fun H ⟨h1, h2⟩ => ⟨xs, ys, h1, h2, rfl, hl⟩
  yields := fun i H v H' _ ⟨h1, h2⟩ ⟨T, x, y, e, hT, eH, f1, f2⟩ => ⟨T, x, y, e, hT, eH, f1 xs h1, f2 ys h2⟩
end WB
namespace WK
open PySem PySem.Spec PyProof.Rows L2 He WB
section
variable {P : Program} {w : World} {K : PySem.W.Frag} {mg : Str → Option Value} {base : Heap}
theorem if_t {b : Bool} {A B : Prop} (e : b = true) (h : A) : if b = true then A else B := by rw [if_pos e]; exact h
theorem if_f {b : Bool} {A B : Prop} (e : b = false) (h : B) : if b = true then A else B := by rw [e, if_neg (by decide)]; exact h
def spWithin : Sp := fun vs H Q _ => ∃ i lo hi : Int, vs = [.int i, .int lo, .int hi] ∧ Q (.bl (decide (lo ≤ i) && decide (i ≤ hi))) H
theorem ok_is_within (T : Tx w K mg) : DefOk ⟨P, w, K, mg, base⟩ 1 (ga K "is_within") ["number", "least", "most"] spWithin := by
  refine DefOk.mk' (f_is_within T) sc_is_within (fun _ _ _ _ _ _ us hl => match us, hl with | [_, _, _], _ => rfl) (fun vs H Q E h => ?_) (fun cdv A outer s H vs Q E hr h => ?_)
  · obtain ⟨i, lo, hi, rfl, _⟩ := h
    rfl
  · obtain ⟨i, lo, hi, rfl, k⟩ := h
    have hu := hu_of hr
    refine ⟨_, (pss_cons (ps_if (PW.pt (pw_or (pt_not (pt_val (pe_callB call_isi (by rfl) (z_isinstance T) (by decide +kernel) (pa_cons (pv 0) (pa_cons (pe_bltn (v := .ty "int") (by rfl) (z_int T) (by decide +kernel) rfl) pa_nil))))) (pw_or1 (pt_val (pe_callB call_isi (by rfl) (z_isinstance T) (by decide +kernel) (pa_cons (pv 0) (pa_cons (pe_bltn (v := .ty "bool") (by rfl) (z_bool T) (by decide +kernel) rfl) pa_nil))))))) (pss_one (ps_ret pe_bl)) pss_nil) (pss_one (ps_ret (pe_chain op_le op_le (pv 1) (pv 0) (pv 2))))), ?_⟩
    refine ⟨_, rfl, _, _, _, _, _, rfl, .ty _, .base (.int i), kit_ty (r := true) (by decide +kernel), _, rfl, ?_⟩
    refine ⟨_, rfl, _, _, _, _, _, rfl, .ty _, .base (.int i), kit_ty (r := false) (by decide +kernel), _, rfl, ?_⟩
    refine if_f rfl ⟨_, rfl, _, rfl, _, _, rfl, rfl, _, rfl, ?_⟩
    cases q : decide (lo ≤ i) with
    | true =>
      rw [q, Bool.true_and] at k
      exact if_t rfl ⟨_, rfl, _, _, rfl, rfl, k⟩
    | false =>
      rw [q, Bool.false_and] at k
      exact if_f rfl k
def WordOk (sh : Str) (v : V) : Prop :=
  (sh = "name" ∧ ∃ x ∈ nmS, v = .str x) ∨ (sh = "goal" ∧ GoalOk v) ∨ (sh = "kind" ∧ ∃ x ∈ kindsS, v = .str x) ∨ (sh = "number" ∧ ∃ i : Int, v = .int i ∧ 0 ≤ i ∧ i ≤ 99) ∨ (sh = "part" ∧ ∃ k, v = kV k ∧ PartOk k)
def spWordOf : Sp := fun vs H Q _ => ∃ (sh : Str) (v : V), vs = [.str sh, v] ∧ WordOk sh v ∧ Q (.bl true) H
theorem strs_flat : ∀ xs : List Str, (xs.map V.str).all flatV = true
  | [] => rfl
  | _ :: r => strs_flat r
theorem in_strs {x : Str} : ∀ {xs : List Str}, x ∈ xs → inV (.str x) (xs.map V.str) = true
  | y :: r, h => by
    show (eqV (.str y) (.str x) || inV (.str x) (r.map V.str)) = true
    rcases List.mem_cons.mp h with rfl | h
    · show ((x == x) || _) = true
      rw [beq_self_eq_true]; rfl
    · rw [in_strs h, Bool.or_true]
theorem int_strs {i : Int} : ∀ {xs : List Str}, inV (.int i) (xs.map V.str) = false
  | [] => rfl
  | y :: r => by
    show (eqV (.str y) (.int i) || inV (.int i) (r.map V.str)) = false
    rw [int_strs]; rfl
theorem ok_is_word_of (T : Tx w K mg) : DefOk ⟨P, w, K, mg, base⟩ 2 (ga K "is_word_of") ["shape", "word"] spWordOf := by
  refine DefOk.mk' (f_is_word_of T) sc_is_word_of (fun _ _ _ _ _ _ us hl => match us, hl with | [_, _], _ => rfl) (fun vs H Q E h => ?_) (fun cdv A outer s H vs Q E hr h => ?_)
  · obtain ⟨sh, v, rfl, _⟩ := h
    rfl
  · obtain ⟨sh, v, rfl, wo, k⟩ := h
    have hu := hu_of hr
    refine ⟨_, (pss_cons (ps_if (pt_cmpR op_eq (pv 0) pe_str (nomark _)) (pss_one (ps_ret (pe_cmpR op_in_seq (pv 1) (pe_glob (v := .ref (ga K "NAMES")) rfl (g_NAMES T) rfl) (by rfl)))) pss_nil) (pss_cons (ps_if (pt_cmpR op_eq (pv 0) pe_str (nomark _)) (pss_one (ps_ret (pe_or (pe_cmpR op_isN (pv 1) pe_non (nomark _)) (pe_one (pe_cmpR op_in_seq (pv 1) (pe_glob (v := .ref (ga K "NAMES")) rfl (g_NAMES T) rfl) (by rfl)))))) pss_nil) (pss_cons (ps_if (pt_cmpR op_eq (pv 0) pe_str (nomark _)) (pss_one (ps_ret (pe_cmpR op_in_seq (pv 1) (pe_glob (v := .ref (ga K "KINDS")) rfl (g_KINDS T) rfl) (by rfl)))) pss_nil) (pss_cons (ps_if (pt_cmpR op_eq (pv 0) pe_str (nomark _)) (pss_one (ps_ret (pe_cg (M := ⟨P, w, K, mg, base⟩) rfl hr rfl (pa_cons (pv 1) (pa_cons pe_int (pa_cons (pe_glob (v := .int 99) rfl (i_MOST_NUMBER T).choose_spec ⟨_, rfl⟩) pa_nil)))))) pss_nil) (pss_one (ps_ret (pe_or (pe_cmpR op_in_seq (pv 1) (pe_glob (v := .ref (ga K "LETTERS")) rfl (g_LETTERS T) rfl) (by rfl)) (pe_one (pe_cg (M := ⟨P, w, K, mg, base⟩) rfl hr rfl (pa_cons (pv 1) (pa_cons pe_int (pa_cons (pe_glob (v := .int 9) rfl (i_MOST_PART T).choose_spec ⟨_, rfl⟩) pa_nil)))))))))))), ?_⟩
    rcases wo with ⟨rfl, x, hx, rfl⟩ | ⟨rfl, hg⟩ | ⟨rfl, x, hx, rfl⟩ | ⟨rfl, i, rfl, h0, h1⟩ | ⟨rfl, y, rfl, hy⟩
    · refine ⟨_, rfl, rfl, _, rfl, if_t (by decide +kernel) ⟨_, rfl, ga K "NAMES", nmS.map V.str, rfl, .inr (strsB_ok (x_tup_NAMES T) _), rfl, strs_flat _, ?_⟩⟩
      show Q (.bl (inV _ _)) H
      rw [in_strs hx]; exact k
    · refine ⟨_, rfl, rfl, _, rfl, if_f (by decide +kernel) ⟨_, rfl, rfl, _, rfl, if_t (by decide +kernel) ?_⟩⟩
      rcases hg with rfl | ⟨x, hx, rfl⟩
      · exact ⟨_, rfl, rfl, _, rfl, if_t (by decide +kernel) k⟩
      · refine ⟨_, rfl, rfl, _, rfl, if_f rfl ⟨_, rfl, ga K "NAMES", nmS.map V.str, rfl, .inr (strsB_ok (x_tup_NAMES T) _), rfl, strs_flat _, ?_⟩⟩
        show Q (.bl (inV _ _)) H
        rw [in_strs hx]; exact k
    · refine ⟨_, rfl, rfl, _, rfl, if_f (by decide +kernel) ⟨_, rfl, rfl, _, rfl, if_f (by decide +kernel) ⟨_, rfl, rfl, _, rfl, if_t (by decide +kernel) ⟨_, rfl, ga K "KINDS", kindsS.map V.str, rfl, .inr (strsB_ok (x_tup_KINDS T) _), rfl, strs_flat _, ?_⟩⟩⟩⟩
      show Q (.bl (inV _ _)) H
      rw [in_strs hx]; exact k
    · refine ⟨_, rfl, rfl, _, rfl, if_f (by decide +kernel) ⟨_, rfl, rfl, _, rfl, if_f (by decide +kernel) ⟨_, rfl, rfl, _, rfl, if_f (by decide +kernel) ⟨_, rfl, rfl, _, rfl, if_t (by decide +kernel) ?_⟩⟩⟩⟩
      refine ⟨_, _, _, _, g_is_within T, ok_is_within T, by decide, _, rfl, i, 0, 99, rfl, ?_⟩
      rw [decide_eq_true h0, decide_eq_true h1]; exact k
    · refine ⟨_, rfl, rfl, _, rfl, if_f (by decide +kernel) ⟨_, rfl, rfl, _, rfl, if_f (by decide +kernel) ⟨_, rfl, rfl, _, rfl, if_f (by decide +kernel) ⟨_, rfl, rfl, _, rfl, if_f (by decide +kernel) ?_⟩⟩⟩⟩
      cases y with
      | inl i =>
        refine ⟨_, rfl, ga K "LETTERS", lets.map V.str, rfl, .inr (strsB_ok (x_tup_LETTERS T) _), rfl, strs_flat _, _, rfl, ?_⟩
        refine if_f int_strs ⟨_, _, _, _, g_is_within T, ok_is_within T, by decide, _, rfl, i, 0, 9, rfl, ?_⟩
        rw [decide_eq_true hy.1, decide_eq_true hy.2]; exact k
      | inr z =>
        exact ⟨_, rfl, ga K "LETTERS", lets.map V.str, rfl, .inr (strsB_ok (x_tup_LETTERS T) _), rfl, strs_flat _, _, rfl, if_t (in_strs hy) k⟩
end
end WK
namespace WK
open PySem PySem.Spec PyProof.Rows L2 He WB
section
variable {P : Program} {w : World} {K : PySem.W.Frag} {mg : Str → Option Value} {base : Heap}
def shapesOf : Deed → List Str
  | .make _ _ => ["name", "kind"]
  | .num _ _ => ["name", "number"]
  | .copy _ _ => ["name", "name"]
  | .drop _ => ["name"]
  | .put _ _ _ => ["name", "part", "name"]
  | .take _ _ _ => ["name", "name", "part"]
  | .cut _ _ => ["name", "part"]
  | .watch _ _ => ["name", "name"]
  | .last _ _ => ["name", "goal"]
  | .ask _ _ => ["name", "name"]
  | .settle => []
  | .say _ => ["name"]
theorem wo_name {x : Str} (h : x ∈ nmS) : WordOk "name" (.str x) := .inl ⟨rfl, x, h, rfl⟩
theorem wo_part {k : Key} (h : PartOk k) : WordOk "part" (kV k) := .inr (.inr (.inr (.inr ⟨rfl, k, rfl, h⟩)))
theorem words_ok : (d : Deed) → d.ok → Paired WordOk (shapesOf d) d.args
  | .make _ _, h => .cons (wo_name h.1) (.cons (.inr (.inr (.inl ⟨rfl, _, h.2, rfl⟩))) .nil)
  | .num _ _, h => .cons (wo_name h.1) (.cons (.inr (.inr (.inr (.inl ⟨rfl, _, rfl, h.2⟩)))) .nil)
  | .copy _ _, h => .cons (wo_name h.1) (.cons (wo_name h.2) .nil)
  | .drop _, h => .cons (wo_name h) .nil
  | .put _ _ _, h => .cons (wo_name h.1) (.cons (wo_part h.2.1) (.cons (wo_name h.2.2) .nil))
  | .take _ _ _, h => .cons (wo_name h.1) (.cons (wo_name h.2.1) (.cons (wo_part h.2.2) .nil))
  | .cut _ _, h => .cons (wo_name h.1) (.cons (wo_part h.2) .nil)
  | .watch _ _, h => .cons (wo_name h.1) (.cons (wo_name h.2) .nil)
  | .last _ _, h => .cons (wo_name h.1) (.cons (.inr (.inl ⟨rfl, h.2⟩)) .nil)
  | .ask _ _, h => .cons (wo_name h.1) (.cons (wo_name h.2) .nil)
  | .settle, _ => .nil
  | .say _, h => .cons (wo_name h) .nil
theorem sh_at (T : Tx w K mg) {x : Str} {vs : List Str} (h : (Fx.ttup "SHAPES" x vs).ok K = true) : PySem.W.nsIn K (ga K "SHAPES") x = some (some (.ref (ta K "SHAPES" x))) ∧ KDct K w (ga K "SHAPES") x (.ref (ta K "SHAPES" x)) ∧ ∀ H, SqT K H (ta K "SHAPES" x) (vs.map V.str) := by
  obtain ⟨f1, f2⟩ := ba h
  have D := (k_SHAPES T).choose_spec.choose_spec
  exact ⟨eqO_ok f1, ⟨_, _, _, D.at_, D.lit, eqO_ok f1, rfl⟩, strsB_ok f2⟩
theorem shapes_at (T : Tx w K mg) (d : Deed) : ∃ p, PySem.W.nsIn K (ga K "SHAPES") d.word = some (some (.ref p)) ∧ KDct K w (ga K "SHAPES") d.word (.ref p) ∧ ∀ H, SqT K H p ((shapesOf d).map V.str) := by
  cases d with
  | make x y => exact ⟨_, sh_at T (x_SHAPES_make T)⟩
  | num x y => exact ⟨_, sh_at T (x_SHAPES_num T)⟩
  | copy x y => exact ⟨_, sh_at T (x_SHAPES_copy T)⟩
  | drop x => exact ⟨_, sh_at T (x_SHAPES_drop T)⟩
  | put x y z => exact ⟨_, sh_at T (x_SHAPES_put T)⟩
  | take x y z => exact ⟨_, sh_at T (x_SHAPES_take T)⟩
  | cut x z => exact ⟨_, sh_at T (x_SHAPES_cut T)⟩
  | watch x y => exact ⟨_, sh_at T (x_SHAPES_watch T)⟩
  | last x y => exact ⟨_, sh_at T (x_SHAPES_last T)⟩
  | ask x y => exact ⟨_, sh_at T (x_SHAPES_ask T)⟩
  | settle => exact ⟨_, sh_at T (x_SHAPES_settle T)⟩
  | say x => exact ⟨_, sh_at T (x_SHAPES_say T)⟩
def DeedAt (H : Hp) (p : Addr) (d : Deed) : Prop := d.ok ∧ H p = some (.tup (.str d.word :: d.args))
def spIsDeed : Sp := fun vs H Q _ => ∃ (p : Addr) (d : Deed), vs = [.ref p] ∧ DeedAt H p d ∧ ∀ H', Same H H' → Q (.bl true) H'
theorem ok_is_deed (T : Tx w K mg) : DefOk ⟨P, w, K, mg, base⟩ 3 (ga K "is_deed") ["deed"] spIsDeed := by
  refine DefOk.mk' (f_is_deed T) sc_is_deed (fun _ _ _ _ _ _ us hl => match us, hl with | [_], _ => rfl) (fun vs H Q E h => ?_) (fun cdv A outer s H vs Q E hr h => ?_)
  · obtain ⟨p, d, rfl, _⟩ := h
    rfl
  · obtain ⟨p, d, rfl, ⟨hd, hp⟩, k⟩ := h
    have hu := hu_of hr
    refine ⟨_, (pss_cons (ps_if (PW.pt (pw_or (pt_not (pt_val (pe_callB call_isi (by rfl) (z_isinstance T) (by decide +kernel) (pa_cons (pv 0) (pa_cons (pe_bltn (v := .ty "tuple") (by rfl) (z_tuple T) (by decide +kernel) rfl) pa_nil))))) (pw_or1 (pt_not (pt_truth (pv 0) (by intro _; rfl)))))) (pss_one (ps_ret pe_bl)) pss_nil) (pss_cons (ps_asg (pv 0) (pg_star rfl (pgs_cons (pg_name (i := 1) sc_is_deed.nd rfl (Or.inl rfl)) (pgs_cons (pg_name (i := 2) sc_is_deed.nd rfl (Or.inl rfl)) pgs_nil)))) (pss_cons (ps_if (PW.pt (pw_or (pt_not (pt_val (pe_callB call_isi (by rfl) (z_isinstance T) (by decide +kernel) (pa_cons (pv 1) (pa_cons (pe_bltn (v := .ty "str") (by rfl) (z_str T) (by decide +kernel) rfl) pa_nil))))) (pw_or1 (pt_cmpR (op_notIn_kd (k_SHAPES T).choose_spec.choose_spec) (pv 1) (pe_glob (v := .ref (ga K "SHAPES")) rfl (g_SHAPES T) rfl) (by rfl))))) (pss_one (ps_ret pe_bl)) pss_nil) (pss_cons (ps_set (i := 3) sc_is_deed.nd rfl (Or.inl rfl) (pe_ix ix_kdict (pe_glob (v := .ref (ga K "SHAPES")) rfl (g_SHAPES T) rfl) (pv 1) (fun _ _ => rfl))) (pss_cons (ps_if (pt_cmpR op_ne (pe_callB call_len_seq (by rfl) (z_len T) PySem.boot_len (pa_cons (pv 2) pa_nil)) (pe_callB call_len_seq (by rfl) (z_len T) PySem.boot_len (pa_cons (pv 3) pa_nil)) (nomark _)) (pss_one (ps_ret pe_bl)) pss_nil) (pss_one (ps_ret (pe_callB (cr_all rfl) (by rfl) (z_all T) (by decide +kernel) (pa_cons (pe_lc (own := [("shape", 4), ("part", 5)]) (g := (gTup K 2 (gCons (gName 4) (gCons (gName 5) gNil)))) rfl sc_is_deed.nd (pi_zipM (by rfl) (z_zip T) (pa_cons (pv 3) (pa_cons (pv 2) pa_nil))) (blkOk_by (own := [("shape", 4), ("part", 5)]) (N := ["deed", "word", "parts", "shapes", "shape", "part"]) (sc := defScope s_is_deed) (by decide +kernel)) (fun _ _ _ _ _ => (pg_tupK (K := K) rfl rfl (pgs_cons (pg_name (i := 4) sc_is_deed.nd rfl (Or.inl rfl)) (pgs_cons (pg_name (i := 5) sc_is_deed.nd rfl (Or.inl rfl)) pgs_nil)))) (fun _ _ _ _ _ => by exact pts_nil) (fun _ _ _ _ _ => by exact (pe_cg (M := ⟨P, w, K, mg, base⟩) rfl hr rfl (pa_cons (pv 4) (pa_cons (pv 5) pa_nil))))) pa_nil))))))))), ?_⟩
    have wo := words_ok d hd
    have wl := Paired.length wo
    have la : d.args.length ≤ 3 := by cases d <;> simp [Deed.args]
    obtain ⟨sp, s1, s2, s3⟩ := shapes_at T d
    refine ⟨_, rfl, _, _, _, _, _, rfl, .ty _, .base (.tup hp), kit_ty (r := true) (by decide +kernel), _, rfl, ?_⟩
    refine ⟨_, rfl, _, .inr (.inl ⟨_, SqT.of hp, rfl⟩), if_f rfl ?_⟩
    refine ⟨_, rfl, p, _, _, rfl, SqT.of hp, by omega, fun D hD => ⟨_, _, rfl, _, _, rfl, rfl, ?_⟩⟩
    have sa : Same H (upd H D (.lst d.args)) := same_new hD
    refine ⟨_, rfl, _, _, _, _, _, rfl, .ty _, .base (.str _), kit_ty (r := true) (by decide +kernel), _, rfl, ?_⟩
    refine ⟨_, rfl, _, _, rfl, rfl, s1, _, rfl, if_f rfl ?_⟩
    refine ⟨_, rfl, _, _, _, rfl, rfl, s2, ?_⟩
    refine ⟨_, rfl, D, d.args, rfl, .inl (SqL.of upd_same), _, rfl, sp, _, rfl, .inr (s3 _), rfl, _, rfl, ?_⟩
    refine if_f (by rw [List.length_map, wl]; simp) ?_
    refine ⟨_, rfl, _, rfl, sp, D, _, _, rfl, s3 _, SqL.of upd_same, fun L hL => ?_⟩
    have nDL : D ≠ L := fun z => by rw [← z, upd_same] at hL; cases hL
    refine lc_it (walk_mix (xs := (shapesOf d).map V.str) (ys := d.args) (by rw [List.length_map]; exact wl)) (fun i H' => Same (upd H D (.lst d.args)) H' ∧ H' L = some (.lst ((List.replicate i true).map V.bl)))
      ⟨same_new hL, upd_same⟩ (fun i H' _ h => ⟨s3 _, SqL.of (h.1 _ _ upd_same)⟩) ?_ ?_
    · rintro i x H1 H2 hi ⟨q1, q2⟩ ⟨X0, a0, b0, rfl, hX, rfl, ha, hb⟩
      have ha' : ((shapesOf d).map V.str)[i]? = some a0 := ha
      rw [List.getElem?_map] at ha'
      obtain ⟨sh, hsh, rfl⟩ := Option.map_eq_some_iff.mp ha'
      have wk : WordOk sh b0 := by
        rcases Paired.at i wo with ⟨z, _⟩ | ⟨u, v, z1, z2, z3⟩
        · rw [hsh] at z; cases z
        · rw [hsh] at z1; cases z1
          rw [show d.args[i]? = some b0 from hb] at z2; cases z2
          exact z3
      refine ⟨X0, _, rfl, SqT.of upd_same, rfl, _, _, rfl, _, _, rfl, rfl, rfl, ?_⟩
      have q3 : Same (upd H D (.lst d.args)) (upd H1 X0 (.tup [.str sh, b0])) := q1.trans (same_new hX)
      have nLX : L ≠ X0 := ne_of_none q2 hX
      refine ⟨_, _, _, _, g_is_word_of T, ok_is_word_of T, by decide, _, rfl, _, rfl, sh, b0, rfl, wk, _, (by rw [upd_ne nLX]; exact q2), szl (by rw [List.length_map, List.length_replicate]; rw [List.length_map] at hi; omega), same_mut q3 hL, ?_⟩
      rw [upd_same, List.replicate_succ', List.map_append]; rfl
    · rintro H' ⟨q1, q2⟩
      refine ⟨L, _, rfl, SqL.of q2, ?_⟩
      have al : ∀ n : Nat, (List.replicate n true).all id = true := fun n => by
        induction n with
        | zero => rfl
        | succ n ih => rw [List.replicate_succ]; exact ih
      rw [al]
      exact k H' (sa.trans q1)
end
end WK
/-! The state stays right whatever deed is done. -/
namespace WB
open PySem PySem.Spec PyProof.Rows L2 He
theorem valV_vals {kvs : List (Key × V)} {k : Key} {v : V} (h : valV kvs k = some v) : v ∈ kvs.map (·.2) := by
  unfold valV at h
  obtain ⟨p, hp, e⟩ := Option.map_eq_some_iff.mp h
  exact List.mem_map.mpr ⟨p, List.mem_of_find?_eq_some hp, e⟩
theorem valV_key {kvs : List (Key × V)} {k : Key} (h : (valV kvs k).isSome = true) : k ∈ kvs.map (·.1) := by
  rw [← valV_any] at h
  obtain ⟨p, hp, e⟩ := List.any_eq_true.mp h
  exact List.mem_map.mpr ⟨p, hp, of_decide_eq_true e⟩
theorem getD_ref {kvs : List (Key × V)} {k : Key} {j : Nat} (h : (valV kvs k).getD .non = .ref j) : V.ref j ∈ kvs.map (·.2) := by
  cases e : valV kvs k with
  | none => rw [e] at h; cases h
  | some v => rw [e] at h; cases (show v = .ref j from h); exact valV_vals e
theorem held_vals {b : Body} {k : Nat} (h : k ∈ b.held) : V.ref k ∈ b.vals := by
  cases b with
  | wat s g => cases h
  | row xs =>
    have h1 := mem_refs_iff.mp h
    obtain ⟨p, hp, e⟩ := List.mem_map.mp h1
    obtain ⟨q, hq, rfl⟩ := List.mem_map.mp hp
    have : q.1 ∈ xs := by
      have := List.mem_zipIdx' hq
      rw [this.2]; exact List.getElem_mem _
    rwa [show q.1 = .ref k from e] at this
  | dic r kvs =>
    cases r with
    | true =>
      obtain ⟨p, hp, e⟩ := List.mem_map.mp (mem_refs_iff.mp h)
      obtain ⟨q, _, rfl⟩ := List.mem_map.mp hp
      exact getD_ref e
    | false =>
      obtain ⟨p, hp, e⟩ := List.mem_map.mp (mem_refs_iff.mp h)
      obtain ⟨q, _, rfl⟩ := List.mem_map.mp hp
      exact getD_ref e
theorem Ok.kept_lt {S : Sta} (o : Ok S) {k : Nat} (h : KeptA S k) : k < S.made := by
  induction h with
  | start h _ =>
    rcases List.mem_append.mp h with h | h
    · obtain ⟨p, hp, e⟩ := List.mem_map.mp (mem_refs_iff.mp h)
      have := o.nv p hp
      rw [e] at this; exact this
    · exact (mem_due h).1
  | step _ hk _ ih => exact o.bv _ ih _ (held_vals hk)
theorem Liv.range {S : Sta} (o : Ok S) (h : S.made ≤ 800) : Liv S (List.range S.made) :=
  ⟨fun _ hk => List.mem_range.mp hk, List.pairwise_lt_range, by rw [List.length_range]; exact h, fun _ hk => List.mem_range.mpr (o.kept_lt hk)⟩
theorem Ok.look_ok {S : Sta} (o : Ok S) (x : Str) : VOk S.made (S.look x) := by
  unfold Sta.look
  cases e : valV S.names (.inr x) with
  | none => exact trivial
  | some v =>
    obtain ⟨p, hp, e2⟩ := List.mem_map.mp (valV_vals e)
    rw [show (some v).getD .non = v from rfl, ← e2]
    exact o.nv p hp
theorem Ok.look_lt {S : Sta} (o : Ok S) {x : Str} {j : Nat} (e : S.look x = .ref j) : j < S.made := by
  have := o.look_ok x
  rw [e] at this; exact this
theorem vals_put {b : Body} {k : Key} {u v : V} (h : v ∈ (b.put k u).vals) : v ∈ b.vals ∨ v = u := by
  cases b with
  | wat s g => cases h
  | dic r kvs =>
    obtain ⟨p, hp, e⟩ := List.mem_map.mp h
    rcases putK_mem hp with q | q
    · exact .inl (List.mem_map.mpr ⟨p, q, e⟩)
    · rw [q] at e; exact .inr e.symm
  | row xs =>
    have h' : v ∈ (if keyN k = xs.length then Body.row (xs ++ [u]) else Body.row (xs.set (keyN k) u)).vals := h
    split at h'
    · rcases List.mem_append.mp h' with q | q
      · exact .inl q
      · exact .inr (List.mem_singleton.mp q)
    · rcases List.mem_or_eq_of_mem_set h' with q | q
      · exact .inl q
      · exact .inr q
theorem vals_cut {b : Body} {k : Key} {v : V} (h : v ∈ (b.cut k).vals) : v ∈ b.vals ∨ v = .non := by
  cases b with
  | wat s g => cases h
  | dic r kvs =>
    cases r with
    | true =>
      obtain ⟨p, hp, e⟩ := List.mem_map.mp h
      rcases putK_mem hp with q | q
      · exact .inl (List.mem_map.mpr ⟨p, q, e⟩)
      · rw [q] at e; exact .inr e.symm
    | false =>
      obtain ⟨p, hp, e⟩ := List.mem_map.mp h
      exact .inl (List.mem_map.mpr ⟨p, (List.mem_filter.mp hp).1, e⟩)
  | row xs => exact .inl (List.mem_of_mem_eraseIdx h)
theorem at_vals {b : Body} {k : Key} : b.at k ∈ b.vals ∨ b.at k = .non := by
  cases b with
  | wat s g => exact .inr rfl
  | dic r kvs =>
    show (valV kvs k).getD .non ∈ _ ∨ (valV kvs k).getD .non = _
    cases e : valV kvs k with
    | none => exact .inr rfl
    | some v => exact .inl (valV_vals e)
  | row xs =>
    show xs.getD (keyN k) .non ∈ xs ∨ xs.getD (keyN k) .non = _
    rw [List.getD_eq_getElem?_getD]
    cases e : xs[keyN k]? with
    | none => exact .inr rfl
    | some v => exact .inl (List.mem_of_getElem? e)
theorem wf_put {b : Body} {k : Key} {u : V} (w : b.wf) (f : b.fits k = true) : (b.put k u).wf := by
  cases b with
  | wat s g => exact trivial
  | dic r kvs =>
    cases r with
    | true => exact (putK_keys' (valV_key f)).trans w
    | false =>
      obtain ⟨w1, w2, w3⟩ := w
      have f' : ((valV kvs k).isSome || (inR 0 10 k && decide (kvs.length < 6))) = true := f
      cases hs : (valV kvs k).isSome with
      | true =>
        have e := putK_keys' (v := u) (valV_key hs)
        refine ⟨by rw [e]; exact w1, by rw [← List.length_map (f := (·.1)), e, List.length_map]; exact w2, fun p hp => ?_⟩
        rcases putK_mem hp with q | q
        · exact w3 p q
        · obtain ⟨p', hp', e'⟩ := List.mem_map.mp (valV_key hs)
          obtain ⟨i, hi, h2⟩ := w3 p' hp'
          exact ⟨i, by rw [q]; exact (e'.symm.trans hi), h2⟩
      | false =>
        rw [hs, Bool.false_or, Bool.and_eq_true] at f'
        obtain ⟨f1, f2⟩ := f'
        have f2 := of_decide_eq_true f2
        have nk : k ∉ kvs.map (·.1) := fun m => by
          have := valV_any k kvs
          rw [hs] at this
          obtain ⟨p, hp, e⟩ := List.mem_map.mp m
          exact absurd (List.any_eq_true.mpr ⟨p, hp, decide_eq_true e⟩) (by rw [this]; decide)
        have e : putK kvs k u = kvs ++ [(k, u)] := by
          unfold putK
          rw [if_neg (by rw [valV_any, hs]; decide)]
        cases k with
        | inr z => cases f1
        | inl i =>
          have f1 := of_decide_eq_true f1
          show (Body.dic false (putK kvs (.inl i) u)).wf
          rw [e]
          refine ⟨?_, by rw [List.length_append]; show kvs.length + 1 ≤ 6; omega, fun p hp => ?_⟩
          · rw [List.map_append]
            exact List.nodup_append.mpr ⟨w1, List.nodup_cons.mpr ⟨List.not_mem_nil, List.nodup_nil⟩, fun a ha b hb e => nk (by have q : a = .inl i := e.trans (List.mem_singleton.mp hb); rw [← q]; exact ha)⟩
          · rcases List.mem_append.mp hp with q | q
            · exact w3 p q
            · exact ⟨i, by rw [List.mem_singleton.mp q], f1.1, f1.2⟩
  | row xs =>
    cases k with
    | inr z => cases f
    | inl i =>
      have f' := of_decide_eq_true (show decide (0 ≤ i ∧ i < min ((xs.length : Int) + 1) 8) = true from f)
      have w' : xs.length ≤ 8 := w
      show (if i.toNat = xs.length then Body.row (xs ++ [u]) else Body.row (xs.set i.toNat u)).wf
      split
      · show (xs ++ [u]).length ≤ 8
        rw [List.length_append, List.length_singleton]; omega
      · show (xs.set i.toNat u).length ≤ 8
        rw [List.length_set]; exact w'
theorem wf_cut {b : Body} {k : Key} (w : b.wf) (f : b.has k = true) : (b.cut k).wf := by
  cases b with
  | wat s g => exact trivial
  | dic r kvs =>
    cases r with
    | true => exact (putK_keys' (valV_key f)).trans w
    | false =>
      obtain ⟨w1, w2, w3⟩ := w
      exact ⟨(List.filter_sublist.map _).nodup w1, Nat.le_trans (List.length_filter_le _ _) w2, fun p hp => w3 p (List.mem_filter.mp hp).1⟩
  | row xs =>
    show (xs.eraseIdx (keyN k)).length ≤ 8
    have w' : xs.length ≤ 8 := w
    have := List.length_eraseIdx_le xs (keyN k)
    omega
theorem fits_notWat {b : Body} {k : Key} (f : b.fits k = true) : b.isWat = false := by
  cases b with
  | wat s g => cases f
  | _ => rfl
theorem has_notWat {b : Body} {k : Key} (f : b.has k = true) : b.isWat = false := by
  cases b with
  | wat s g => cases f
  | _ => rfl
theorem put_isWat {b : Body} {k : Key} {u : V} : (b.put k u).isWat = b.isWat := by
  cases b with
  | row xs => show (if keyN k = xs.length then Body.row (xs ++ [u]) else Body.row (xs.set (keyN k) u)).isWat = _; split <;> rfl
  | _ => rfl
theorem cut_isWat {b : Body} {k : Key} : (b.cut k).isWat = b.isWat := by
  cases b with
  | dic r kvs => cases r <;> rfl
  | _ => rfl
theorem wat_false {b : Body} {s : Nat} {g : Bool} (h : b.isWat = false) (e : b = .wat s g) : False := by rw [e] at h; cases h
end WB
/-! Deeds keep the state right. -/
namespace WB
open PySem PySem.Spec PyProof.Rows L2 He
theorem foldP_ok1 : ∀ {js : List Nat} {S : Sta}, js.Nodup → (∀ j ∈ js, j < S.made ∧ (S.th j).last = .due) → Ok S → Ok (js.foldl performS S)
  | [], S, _, _, o => o
  | j :: r, S, nd, h, o => by
    obtain ⟨n1, n2⟩ := List.nodup_cons.mp nd
    obtain ⟨h1, h2⟩ := h j List.mem_cons_self
    rw [List.foldl_cons]
    refine foldP_ok1 n2 (fun i hi => ?_) (o.perform h1 h2)
    have q := h i (List.mem_cons_of_mem _ hi)
    rw [perform_made, perform_th, if_neg (by rintro rfl; exact n1 hi)]
    exact q
theorem turn_ok {S : Sta} (o : Ok S) : Ok ((turnS S).foldl performS S) :=
  foldP_ok1 ((dues_srt.filter _).imp fun h => Nat.ne_of_lt h) (fun j hj => mem_due (List.mem_filter.mp hj).1) o
theorem Settle.ok {S S' : Sta} {ks : List Nat} (h : Settle S ks S') : Ok S → Ok S' ∧ S'.made = S.made := by
  induction h with
  | done _ => exact fun o => ⟨o.tellBy, rfl⟩
  | turn _ _ ih =>
    intro o
    obtain ⟨a, b⟩ := ih (turn_ok o.tellBy)
    exact ⟨a, b.trans (foldP_made.trans rfl)⟩
theorem emptyB_wf {kind : Str} : (emptyB kind).wf := by
  unfold emptyB
  split
  · show rec0.map (·.1) = letK
    unfold rec0; rw [List.map_map]; exact List.map_id _
  · split
    · exact Nat.zero_le _
    · exact ⟨List.nodup_nil, Nat.zero_le _, fun p hp => by cases hp⟩
theorem emptyB_vals {kind : Str} {v : V} (h : v ∈ (emptyB kind).vals) : v = .non := by
  unfold emptyB at h
  split at h
  · obtain ⟨p, hp, e⟩ := List.mem_map.mp h
    unfold rec0 at hp
    obtain ⟨k, _, rfl⟩ := List.mem_map.mp hp
    exact e.symm
  · split at h
    · cases h
    · cases h
theorem emptyB_not {kind : Str} {s : Nat} {g : Bool} (h : emptyB kind = .wat s g) : False := by
  unfold emptyB at h
  split at h
  · cases h
  · split at h <;> cases h
theorem Ok.at_ok {S : Sta} (o : Ok S) {j : Nat} (hj : j < S.made) (k : Key) : VOk S.made ((S.th j).body.at k) := by
  rcases at_vals (b := (S.th j).body) (k := k) with h | h
  · exact o.bv j hj _ h
  · rw [h]; exact trivial
theorem Ok.step {S S' : Sta} {d : Deed} {t : Told} {c : Chg} (o : Ok S) (hd : d.ok) (h : StepR S d S' t c) : Ok S' ∧ (S'.made = S.made ∨ S'.made = S.made + 1) := by
  cases h with
  | settle h => exact ⟨(h.ok o).1, .inl (h.ok o).2⟩
  | other h =>
    cases d with
    | settle => exact absurd rfl h
    | make x kind => exact ⟨(o.add (t := ⟨emptyB kind, .no, .non⟩) emptyB_wf (fun v hv => by rw [emptyB_vals hv]; exact trivial) (fun s g e => (emptyB_not e).elim) (.inl rfl)).setName hd.1 (Nat.lt_succ_self _), .inr rfl⟩
    | num x n => exact ⟨o.setName hd.1 trivial, .inl rfl⟩
    | copy x y => exact ⟨o.setName hd.1 (o.look_ok y), .inl rfl⟩
    | drop x => exact ⟨o.setName hd trivial, .inl rfl⟩
    | say x => exact ⟨o, .inl rfl⟩
    | put x k y =>
      by_cases e : ∃ j, S.look x = .ref j
      · obtain ⟨j, e⟩ := e
        have hj := o.look_lt e
        cases f : (S.th j).body.fits k with
        | false => rw [put_no' e f]; exact ⟨o, .inl rfl⟩
        | true =>
          rw [put_yes e f]
          refine ⟨o.setTh (wf_put (o.wf j hj) f) (fun v hv => ?_) (fun s g q => (wat_false (put_isWat.trans (fits_notWat f)) q).elim) (o.gl j hj), .inl rfl⟩
          rcases vals_put hv with q | rfl
          · exact o.bv j hj v q
          · exact o.look_ok y
      · rw [put_no fun j q => e ⟨j, q⟩]; exact ⟨o, .inl rfl⟩
    | take x y k =>
      by_cases e : ∃ j, S.look y = .ref j
      · obtain ⟨j, e⟩ := e
        cases f : (S.th j).body.has k with
        | false => rw [take_no' e f]; exact ⟨o, .inl rfl⟩
        | true => rw [take_yes e f]; exact ⟨o.setName hd.1 (o.at_ok (o.look_lt e) k), .inl rfl⟩
      · rw [take_no fun j q => e ⟨j, q⟩]; exact ⟨o, .inl rfl⟩
    | cut x k =>
      by_cases e : ∃ j, S.look x = .ref j
      · obtain ⟨j, e⟩ := e
        have hj := o.look_lt e
        cases f : (S.th j).body.has k with
        | false => rw [cut_no' e f]; exact ⟨o, .inl rfl⟩
        | true =>
          rw [cut_yes e f]
          refine ⟨o.setTh (wf_cut (o.wf j hj) f) (fun v hv => ?_) (fun s g q => (wat_false (cut_isWat.trans (has_notWat f)) q).elim) (o.gl j hj), .inl rfl⟩
          rcases vals_cut hv with q | rfl
          · exact o.bv j hj v q
          · exact trivial
      · rw [cut_no fun j q => e ⟨j, q⟩]; exact ⟨o, .inl rfl⟩
    | watch x y =>
      by_cases e : ∃ j, S.look y = .ref j
      · obtain ⟨j, e⟩ := e
        rw [watch_yes e]
        exact ⟨(o.add (t := ⟨.wat j false, .no, .non⟩) trivial (fun v hv => by cases hv) (fun s g q => by cases q; exact ⟨Nat.lt_succ_of_lt (o.look_lt e), rfl⟩) (.inl rfl)).setName hd.1 (Nat.lt_succ_self _), .inr rfl⟩
      · rw [watch_no fun j q => e ⟨j, q⟩]; exact ⟨o, .inl rfl⟩
    | last x g =>
      by_cases e : ∃ j, S.look x = .ref j
      · obtain ⟨j, e⟩ := e
        have hj := o.look_lt e
        cases f : ((S.th j).body.isWat || (S.th j).last != .no) with
        | true => rw [last_no' e f]; exact ⟨o, .inl rfl⟩
        | false =>
          rw [last_yes e f]
          rw [Bool.or_eq_false_iff] at f
          exact ⟨o.setTh (o.wf j hj) (o.bv j hj) (fun s g q => (wat_false f.1 q).elim) hd.2, .inl rfl⟩
      · rw [last_no fun j q => e ⟨j, q⟩]; exact ⟨o, .inl rfl⟩
    | ask x y =>
      by_cases e : ∃ j, S.look y = .ref j
      · obtain ⟨j, e⟩ := e
        have hj := o.look_lt e
        cases f : ((S.tellBy (ReachA S)).th j).body.isWat with
        | false => rw [ask_no' e f]; exact ⟨o, .inl rfl⟩
        | true =>
          obtain ⟨s, b, q⟩ : ∃ s b, ((S.tellBy (ReachA S)).th j).body = .wat s b := by
            cases q : ((S.tellBy (ReachA S)).th j).body with
            | wat s b => exact ⟨s, b, rfl⟩
            | dic r z => rw [q] at f; cases f
            | row z => rw [q] at f; cases f
          rw [ask_yes e q]
          have o2 := o.tellBy (R := ReachA S)
          refine ⟨o2.setName hd.1 ?_, .inl rfl⟩
          cases b with
          | true => exact trivial
          | false => exact (o2.wv j hj s false q).1
      · rw [ask_no fun j q => e ⟨j, q⟩]; exact ⟨o, .inl rfl⟩
theorem range_live {S S' : Sta} (h : S'.made = S.made ∨ S'.made = S.made + 1) : (if S'.made = S.made then List.range S.made else List.range S.made ++ [S.made]) = List.range S'.made := by
  rcases h with h | h
  · rw [if_pos h, h]
  · rw [if_neg (by omega), h, List.range_succ]
end WB
namespace WK
open PySem PySem.Spec PyProof.Rows L2 He WB
section
variable {P : Program} {w : World} {K : PySem.W.Frag} {mg : Str → Option Value} {base : Heap}
theorem DeedAt.same {H H' : Hp} (s : Same H H') {p : Addr} {d : Deed} (h : DeedAt H p d) : DeedAt H' p d := ⟨h.1, s _ _ h.2⟩
def spCheck (K : PySem.W.Frag) : Sp := fun vs H Q _ => ∃ (l : Addr) (ps : List Addr) (ds : List Deed), vs = [.ref l] ∧ SqL K H l (ps.map V.ref) ∧ Paired (DeedAt H) ps ds ∧ ps.length ≤ 120 ∧ ∀ H', Same H H' → Q .non H'
theorem ok_check_program (T : Tx w K mg) : DefOk ⟨P, w, K, mg, base⟩ 4 (ga K "check_program") ["program"] (spCheck K) := by
  refine DefOk.mk' (f_check_program T) sc_check_program (fun _ _ _ _ _ _ us hl => match us, hl with | [_], _ => rfl) (fun vs H Q E h => ?_) (fun cdv A outer s H vs Q E hr h => ?_)
  · obtain ⟨l, ps, ds, rfl, _⟩ := h
    rfl
  · obtain ⟨l, ps, ds, rfl, hl, hp, l1, k⟩ := h
    have hu := hu_of hr
    refine ⟨_, (pss_one (ps_for PassesOwn.never rfl (pi_enum (by rfl) (z_enumerate T) (pa_cons (pv 0) pa_nil)) (pg_tup rfl (pgs_cons (pg_name (i := 1) sc_check_program.nd rfl (Or.inl rfl)) (pgs_cons (pg_name (i := 2) sc_check_program.nd rfl (Or.inl rfl)) pgs_nil))) (pss_one (ps_if (PW.pt (pw_or (pt_cmpR op_eq (pv 1) (pe_glob (v := .int 120) rfl (i_MOST_DEEDS T).choose_spec ⟨_, rfl⟩) (nomark _)) (pw_or1 (pt_not (pt_val (pe_cg (M := ⟨P, w, K, mg, base⟩) rfl hr rfl (pa_cons (pv 2) pa_nil))))))) (pss_one ps_never) pss_nil)))), ?_⟩
    refine ⟨_, rfl, l, _, rfl, hl, ?_⟩
    refine for_it walk_enum (fun i σ H' => ∃ x1 x2, σ = [some (.ref l), x1, x2] ∧ Same H H') ⟨_, _, rfl, Same.refl H⟩ (fun i σ H' _ ⟨_, _, _, s⟩ => s.seq hl) ?_ ?_
    · rintro i x σ H1 H2 hi ⟨x1, x2, rfl, s1⟩ ⟨X0, a0, b0, rfl, hX, rfl, ha, hb⟩
      cases ha
      have hb' : (ps.map V.ref)[i]? = some b0 := hb
      rw [List.getElem?_map] at hb'
      obtain ⟨p, hpi, rfl⟩ := Option.map_eq_some_iff.mp hb'
      rw [List.length_map] at hi
      have s2 : Same H (upd H1 X0 (.tup [.int (i : Int), .ref p])) := s1.trans (same_new hX)
      obtain ⟨d, hd⟩ : ∃ d, DeedAt H p d := by
        rcases Paired.at i hp with ⟨z, _⟩ | ⟨u, v, z1, z2, z3⟩
        · rw [hpi] at z; cases z
        · rw [hpi] at z1; cases z1; exact ⟨v, z3⟩
      refine ⟨X0, _, rfl, SqT.of upd_same, rfl, _, _, rfl, _, _, rfl, rfl, ?_⟩
      refine ⟨_, rfl, rfl, _, rfl, if_f (decide_eq_false fun z => by have q := V.int.inj z; omega) ?_⟩
      refine ⟨_, _, _, _, g_is_deed T, ok_is_deed T, by decide, _, rfl, p, d, rfl, hd.same s2, fun H3 s3 => ⟨_, rfl, if_f rfl ⟨_, _, rfl, s2.trans s3⟩⟩⟩
    · rintro σ H' ⟨_, _, rfl, s1⟩
      exact k H' s1
end
end WK
namespace WK
open PySem PySem.Spec PyProof.Rows L2 He WB
section
variable {P : Program} {w : World} {K : PySem.W.Frag} {mg : Str → Option Value} {base : Heap}
def PlainAt (K : PySem.W.Frag) (H : Hp) (p : Addr) (S : Sta) (O : List Addr) : Prop :=
  ∃ (dp h dh n t : Addr) (ch : V) (A C : Nat → Addr), H p = some (.ins (ga K "Plain") dp [("heap", .ref h)]) ∧ HeapX K H h S (List.range S.made) O dh n t ch A C ∧ p ∉ O
theorem PlainAt.same {H H' : Hp} (s : Same H H') {p : Addr} {S : Sta} {O : List Addr} (x : PlainAt K H p S O) : PlainAt K H' p S O :=
  let ⟨dp, h, dh, n, t, ch, A, C, e, X, q⟩ := x; ⟨dp, h, dh, n, t, ch, A, C, s _ _ e, X.same s, q⟩
def spPlainInit (K : PySem.W.Frag) : Sp := fun vs H Q _ => ∃ (p dp : Addr), vs = [.ref p] ∧ H p = some (.ins (ga K "Plain") dp []) ∧
  ∀ O H', Stp [p] H H' → (∀ a ∈ O, H a = none) → PlainAt K H' p S0 O → Q .non H'
def spPlainDo (K : PySem.W.Frag) : Sp := fun vs H Q _ => ∃ (p q : Addr) (S : Sta) (O : List Addr) (d : Deed), vs = [.ref p, .ref q] ∧ PlainAt K H p S O ∧ DeedAt H q d ∧ WB.Ok S ∧ S.made ≤ 790 ∧
  ∀ r H' S' O' told chg, StepR S d S' told chg → Stp O H H' → Frs O O' H → TRF H O' H' r told → PlainAt K H' p S' O' → Q r H'
def spPlainPhoto (K : PySem.W.Frag) : Sp := fun vs H Q _ => ∃ (p : Addr) (S : Sta) (O : List Addr), vs = [.ref p] ∧ PlainAt K H p S O ∧ WB.Ok S ∧ S.made ≤ 790 ∧
  ∀ q H' ks, Same H H' → H q = none → ks.Pairwise (· < ·) → (∀ k, k ∈ ks ↔ ReachA S k) → PhotoAt H H' q S ks → Q (.ref q) H'
end
end WK
/-! What the law's own lists are. -/
namespace WB
open PySem PySem.Spec PyProof.Rows L2 He
theorem ints_lay : ∀ xs : List Int, PyData.canLayAll0 (xs.map PyData.int) = true
  | [] => by simp [PyData.canLayAll0]
  | x :: r => by
    have := ints_lay r
    simp [PyData.canLayAll0, PyData.canLay0, this]
theorem ints_depth : ∀ xs : List Int, PyData.depthAll (xs.map PyData.int) ≤ 1
  | [] => by simp [PyData.depthAll]
  | x :: r => by
    have := ints_depth r
    simp only [List.map_cons, PyData.depthAll, PyData.depth]
    omega
theorem ints_shaped (xs : List Int) : SeqAt.shaped (.list (xs.map PyData.int)) = true := by
  show (PyData.canLay0 (.list (xs.map PyData.int)) && decide (PyData.depth (.list (xs.map PyData.int)) ≤ 64)) = true
  rw [Bool.and_eq_true]
  refine ⟨?_, decide_eq_true ?_⟩
  · simp only [PyData.canLay0]; exact ints_lay xs
  · have := ints_depth xs
    simp only [PyData.depth]; omega
theorem ints_dp {K : PySem.W.Frag} {H : Hp} : ∀ xs : List Int, DpAll K H (xs.map V.int) (xs.map PyData.int)
  | [] => .nil
  | x :: r => .cons (.int x) (ints_dp r)
theorem ints_nil (xs : List Int) : PyData.eqv (.list (xs.map PyData.int)) (.list []) = xs.isEmpty := by
  cases xs with
  | nil => simp [PyData.eqv, PyData.eqvAll]
  | cons x r => simp [PyData.eqv, PyData.eqvAll]
/-- the law's own source of numbers: at h, its script at l -/
def NumAt (H : Hp) (h l : Addr) : Prop := ∃ (m b : Int) (xs : List Int), H h = some (.lst [.int m, .ref l, .int b]) ∧ H l = some (.lst (xs.map V.int)) ∧ h ≠ l ∧ xs.length ≤ 100
theorem NumAt.same {H H' : Hp} {h l : Addr} (s : Same H H') (x : NumAt H h l) : NumAt H' h l :=
  let ⟨m, b, xs, e1, e2, ne, n⟩ := x; ⟨m, b, xs, s _ _ e1, s _ _ e2, ne, n⟩
theorem NumAt.stp {H H' : Hp} {h l : Addr} {O : List Addr} (s : Stp O H H') (h1 : h ∉ O) (h2 : l ∉ O) (x : NumAt H h l) : NumAt H' h l :=
  let ⟨m, b, xs, e1, e2, ne, n⟩ := x; ⟨m, b, xs, s _ _ e1 h1, s _ _ e2 h2, ne, n⟩
end WB
namespace WK
open PySem PySem.Spec PyProof.Rows L2 He WB
section
variable {P : Program} {w : World} {K : PySem.W.Frag} {mg : Str → Option Value} {base : Heap}
def spMix (K : PySem.W.Frag) : Sp := fun vs H Q _ => ∃ (a : Addr) (xs : List Int) (sd : Int), vs = [.ref a, .int sd] ∧ SqL K H a (xs.map V.int) ∧ xs.length ≤ 100 ∧ ∀ h l H', Same H H' → H h = none → H l = none → NumAt H' h l → Q (.ref h) H'
theorem ok__law_mix (T : Tx w K mg) : DefOk ⟨P, w, K, mg, base⟩ 1 (ga K "_law_mix") ["_law_script", "_law_seed"] (spMix K) := by
  refine DefOk.mk' (f__law_mix T) sc__law_mix (fun _ _ _ _ _ _ us hl => match us, hl with | [_, _], _ => rfl) (fun vs H Q E h => ?_) (fun cdv A outer s H vs Q E hr h => ?_)
  · obtain ⟨a, xs, sd, rfl, _⟩ := h
    rfl
  · obtain ⟨a, xs, sd, rfl, ha, hx, k⟩ := h
    have hu := hu_of hr
    refine ⟨_, (pss_cons (ps_set (i := 2) sc__law_mix.nd rfl (Or.inl rfl) (pv 1)) (pss_cons (ps_for PassesOwn.never rfl (pi_list (pv 0)) (pg_name (i := 3) sc__law_mix.nd rfl (Or.inl rfl)) (pss_one (ps_set (i := 2) sc__law_mix.nd rfl (Or.inl rfl) (pe_op op_modN (pe_op op_add (pe_op op_add (pe_op op_mul (pv 2) pe_int) (pe_op op_modN (pv 3) pe_int)) pe_int) pe_int)))) (pss_one (ps_ret (pe_lst (pa_cons (pv 2) (pa_cons (pe_callTy call_list_of (by rfl) (z_list T) (by decide +kernel) (pa_cons (pv 0) pa_nil)) (pa_cons pe_int pa_nil)))))))), ?_⟩
    refine ⟨_, rfl, _, rfl, _, rfl, ⟨_, ha⟩, ?_⟩
    refine for_list (K := K) (a := a) (xs := xs.map V.int) (fun i σ H' => H' = H ∧ ∃ (m : Int) (x3 : Option V), σ = [some (.ref a), some (.int sd), some (.int m), x3]) ⟨rfl, _, _, rfl⟩ (fun i σ H' _ ⟨e, _⟩ => e ▸ ha) ?_ ?_
    · rintro i x σ H1 hi ⟨rfl, m, x3, rfl⟩
      rw [List.getElem?_map] at hi
      obtain ⟨c, hc, rfl⟩ := Option.map_eq_some_iff.mp hi
      exact ⟨_, rfl, _, _, rfl, rfl, .inr ⟨by decide, by decide⟩, _, rfl, _, _, rfl, rfl, (show (2147483629 : Int) ≠ 0 by decide), _, _, rfl, rfl, _, _, rfl, rfl, _, _, rfl, rfl, (show (2147483647 : Int) ≠ 0 by decide), rfl, _, _, rfl⟩
    · rintro σ H1 ⟨rfl, m, x3, rfl⟩
      refine ⟨_, rfl, _, rfl, a, _, rfl, .inl ha, fun l hl => ⟨by show 3 ≤ sizeLine; decide, fun h hh => ?_⟩⟩
      have nhl : h ≠ l := fun z => by rw [z, upd_same] at hh; cases hh
      have hh0 : H1 h = none := by rw [upd_ne nhl] at hh; exact hh
      exact k h l _ (fun b o e => by rw [upd_ne (ne_of_none e hh0), upd_ne (ne_of_none e hl)]; exact e) hh0 hl ⟨m, 0, xs, upd_same, by rw [upd_ne nhl.symm]; exact upd_same, nhl, hx⟩
theorem at_3 {α : Type} {x y z : α} : atI [x, y, z] 0 = some x ∧ atI [x, y, z] 1 = some y ∧ atI [x, y, z] 2 = some z := ⟨rfl, rfl, rfl⟩
theorem fmod_in {i n : Int} (h : 0 < n) : 0 ≤ i.fmod n ∧ i.fmod n < n := ⟨Int.fmod_nonneg_of_pos i h, Int.fmod_lt_of_pos i h⟩
def spNext (K : PySem.W.Frag) : Sp := fun vs H Q _ => ∃ (h l : Addr) (many : Int), vs = [.ref h, .int many] ∧ NumAt H h l ∧ 0 < many ∧ many ≤ 2000000 ∧ ∀ r H', 0 ≤ r → r < many → Stp [h, l] H H' → NumAt H' h l → Q (.int r) H'
theorem ok__law_next (T : Tx w K mg) : DefOk ⟨P, w, K, mg, base⟩ 1 (ga K "_law_next") ["_law_h", "_law_many"] (spNext K) := by
  refine DefOk.mk' (f__law_next T) sc__law_next (fun _ _ _ _ _ _ us hl => match us, hl with | [_, _], _ => rfl) (fun vs H Q E h => ?_) (fun cdv A outer s H vs Q E hr h => ?_)
  · obtain ⟨h, l, many, rfl, _⟩ := h
    rfl
  · obtain ⟨h, l, many, rfl, ⟨m, b, xs, e1, e2, ne, hx⟩, h0, h1, k⟩ := h
    have hu := hu_of hr
    refine ⟨_, (pss_cons (ps_set (i := 2) sc__law_next.nd rfl (Or.inl rfl) (pe_op op_modN (pe_ix ix_list (pv 0) pe_int (fun _ _ => rfl)) (pe_callB (call_max2 rfl) (by rfl) (z_max T) (by decide +kernel) (pa_cons pe_int (pa_cons (pe_callB call_len_seq (by rfl) (z_len T) PySem.boot_len (pa_cons (pe_ix ix_list (pv 0) pe_int (fun _ _ => rfl)) pa_nil)) pa_nil))))) (pss_cons (ps_set (i := 3) sc__law_next.nd rfl (Or.inl rfl) (pe_ifExp (pt_cmpR (op_neD hr.units) (pe_ix ix_list (pv 0) pe_int (fun _ _ => rfl)) (pe_lst pa_nil) (nomark _)) (pe_ix ix_list (pe_ix ix_list (pv 0) pe_int (fun _ _ => rfl)) (pv 2) (fun _ _ => rfl)) pe_int)) (pss_cons (ps_if (pt_cmpR op_ge (pv 3) (pe_op op_pow pe_int pe_int) (nomark _)) (pss_cons (ps_asg (pe_op op_fdivN (pv 3) (pv 1)) (pg_sub (pe_ix ix_list (pv 0) pe_int (fun _ _ => rfl)) (pv 2) set_list)) (pss_one (ps_ret (pe_op op_modN (pv 3) (pv 1))))) pss_nil) (pss_cons (ps_asg (pe_op op_modN (pe_op op_add (pe_op op_add (pe_op op_mul (pe_ix ix_list (pv 0) pe_int (fun _ _ => rfl)) pe_int) (pe_op op_mul (pv 3) pe_int)) pe_int) pe_int) (pg_sub (pv 0) pe_int set_list)) (pss_cons (ps_asg (pe_op op_add (pe_ix ix_list (pv 0) pe_int (fun _ _ => rfl)) pe_int) (pg_sub (pv 0) pe_int set_list)) (pss_one (ps_ret (pe_op op_modN (pe_op op_fdivN (pe_ix ix_list (pv 0) pe_int (fun _ _ => rfl)) pe_int) (pv 1))))))))), ?_⟩
    have i0 : atI [V.int m, .ref l, .int b] 0 = some (.int m) := rfl
    have i1 : atI [V.int m, .ref l, .int b] 1 = some (.ref l) := rfl
    have i2 : atI [V.int m, .ref l, .int b] 2 = some (.int b) := rfl
    have sh := SqL.of (K := K) e1
    have sl := SqL.of (K := K) e2
    refine ⟨_, rfl, h, _, 2, _, rfl, rfl, sh, i2, _, rfl, h, _, 1, _, rfl, rfl, sh, i1, l, _, rfl, .inl sl, _, _, rfl, _, _, rfl, rfl, ?_, ?_⟩
    · show (if ((List.map V.int xs).length : Int) > 1 then ((List.map V.int xs).length : Int) else 1) ≠ 0
      split <;> omega
    generalize hN : (if ((List.map V.int xs).length : Int) > 1 then ((List.map V.int xs).length : Int) else 1) = N
    have N0 : 0 < N := by rw [← hN]; split <;> omega
    have Nl : xs ≠ [] → N = xs.length := fun hne => by
      have : 0 < xs.length := List.length_pos_iff.mpr hne
      rw [← hN, List.length_map]; split <;> omega
    obtain ⟨t0, t1⟩ := fmod_in (i := b) N0
    obtain ⟨t, ht⟩ : ∃ t, b.fmod N = t := ⟨_, rfl⟩
    rw [ht] at t0 t1
    refine ⟨_, rfl, h, _, 1, _, rfl, rfl, sh, i1, by show 0 ≤ sizeLine; decide, fun Z hZ => ?_⟩
    have s1 : Same H (upd H Z (.lst [])) := same_new hZ
    have g1 := s1 _ _ e1
    have g2 := s1 _ _ e2
    have sh1 := SqL.of (K := K) g1
    have sl1 := SqL.of (K := K) g2
    refine ⟨_, _, .lst sl1 (ints_dp xs), .lst (SqL.of upd_same) .nil, ints_shaped xs, ints_shaped [], _, rfl, ?_⟩
    rw [ints_nil]
    by_cases hne : xs = []
    · subst hne
      refine if_f rfl ⟨_, rfl, _, _, rfl, rfl, ⟨by decide, by decide, by decide⟩, _, _, rfl, rfl, _, rfl, if_f (by decide +kernel) ?_⟩
      refine ⟨_, rfl, h, _, 0, _, rfl, rfl, sh1, i0, _, _, rfl, rfl, .inr ⟨by decide, by decide⟩, _, rfl, _, _, rfl, rfl, .inr ⟨by decide, by decide⟩, _, _, rfl, rfl, _, _, rfl, rfl, _, _, rfl, rfl, (show (2147483647 : Int) ≠ 0 by decide), _, rfl, h, _, 0, 0, rfl, rfl, g1, rfl, ?_⟩
      refine ⟨_, rfl, h, _, 2, _, rfl, rfl, SqL.of upd_same, rfl, _, _, rfl, rfl, _, rfl, h, _, 2, 2, rfl, rfl, upd_same, rfl, ?_⟩
      refine ⟨_, rfl, h, _, 0, _, rfl, rfl, SqL.of upd_same, rfl, _, _, rfl, rfl, ⟨by decide, by decide⟩, _, rfl, _, _, rfl, rfl, (show many ≠ 0 by omega), ?_⟩
      exact k _ _ (fmod_in h0).1 (fmod_in h0).2 (((Stp.of_same s1).trans' (Stp.upd (.inl List.mem_cons_self))).trans' (Stp.upd (.inl List.mem_cons_self))) ⟨_, b + 1, _, upd_same, by rw [upd_ne ne.symm, upd_ne ne.symm]; exact g2, ne, hx⟩
    · have lt : t.toNat < xs.length := by have := Nl hne; omega
      obtain ⟨c, hc⟩ : ∃ c, xs[t.toNat]? = some c := ⟨_, List.getElem?_eq_getElem lt⟩
      have et : ((t.toNat : Nat) : Int) = t := by omega
      have hcv : atI (List.map V.int xs) t = some (V.int c) := by
        rw [← et]; exact atI_nat (by rw [List.getElem?_map, hc]; rfl)
      have hix : ixN (List.map V.int xs).length t = some t.toNat := by
        rw [List.length_map]; unfold ixN; rw [if_pos t0, if_pos (by omega)]
      refine if_t (by cases xs with | nil => exact absurd rfl hne | cons x r => rfl) ⟨_, rfl, h, _, 1, _, rfl, rfl, sh1, i1, _, rfl, l, _, t, _, rfl, (by rw [← ht]), sl1, hcv, ?_⟩
      refine ⟨_, rfl, _, _, rfl, rfl, ⟨by decide, by decide, by decide⟩, _, _, rfl, rfl, _, rfl, ?_⟩
      cases hb : decide ((10 : Int) ^ (18 : Int).toNat ≤ c) with
      | true =>
        refine if_t rfl ?_
        refine ⟨_, rfl, _, rfl, _, _, rfl, rfl, ⟨by omega, by omega⟩, _, rfl, h, _, 1, _, rfl, rfl, sh1, i1, _, rfl, l, _, t, t.toNat, rfl, (by rw [← ht]), g2, hix, ?_⟩
        refine ⟨_, rfl, _, rfl, _, _, rfl, rfl, (show many ≠ 0 by omega), ?_⟩
        refine k _ _ (fmod_in h0).1 (fmod_in h0).2 ((Stp.of_same s1).trans' (Stp.upd (.inl (List.mem_cons_of_mem _ List.mem_cons_self)))) ⟨m, b, xs.set t.toNat (c.fdiv many), by rw [upd_ne ne]; exact g1, by rw [upd_same, List.map_set], ne, by rw [List.length_set]; exact hx⟩
      | false =>
        refine if_f rfl ?_
        refine ⟨_, rfl, h, _, 0, _, rfl, rfl, sh1, i0, _, _, rfl, rfl, .inr ⟨by decide, by decide⟩, _, rfl, _, _, rfl, rfl, .inr ⟨by decide, by decide⟩, _, _, rfl, rfl, _, _, rfl, rfl, _, _, rfl, rfl, (show (2147483647 : Int) ≠ 0 by decide), _, rfl, h, _, 0, 0, rfl, rfl, g1, rfl, ?_⟩
        refine ⟨_, rfl, h, _, 2, _, rfl, rfl, SqL.of upd_same, rfl, _, _, rfl, rfl, _, rfl, h, _, 2, 2, rfl, rfl, upd_same, rfl, ?_⟩
        refine ⟨_, rfl, h, _, 0, _, rfl, rfl, SqL.of upd_same, rfl, _, _, rfl, rfl, ⟨by decide, by decide⟩, _, rfl, _, _, rfl, rfl, (show many ≠ 0 by omega), ?_⟩
        exact k _ _ (fmod_in h0).1 (fmod_in h0).2 (((Stp.of_same s1).trans' (Stp.upd (.inl List.mem_cons_self))).trans' (Stp.upd (.inl List.mem_cons_self))) ⟨_, b + 1, _, upd_same, by rw [upd_ne ne.symm, upd_ne ne.symm]; exact g2, ne, hx⟩
end
end WK
/-! The law's own heap: the same state, in dicts. -/
namespace WB
open PySem PySem.Spec PyProof.Rows L2 He
def lstS : Lst → Str
  | .no => "none"
  | .due => "due"
  | .done => "done"
def Body.lsees : Body → V
  | .wat s _ => .int (s : Int)
  | _ => .non
def Body.lgone : Body → Bool
  | .wat _ g => g
  | _ => false
/-- a thing as the law keeps it, its parts at c -/
def thD (c : Addr) (t : Th) : List (Key × V) :=
  [(.inr "kind", .str t.body.kind), (.inr "held", .ref c), (.inr "sees", t.body.lsees), (.inr "gone", .bl t.body.lgone), (.inr "last", .str (lstS t.last)), (.inr "goal", t.goal)]
def HeldAt (H : Hp) (c : Addr) : Body → Prop
  | .dic _ kvs => ∃ vs, H c = some (.dK vs) ∧ KVR H vs kvs
  | .row xs => ∃ vs, H c = some (.lst vs) ∧ LVR H vs xs
  | .wat _ _ => H c = some (.dK [])
theorem HeldAt.some {H : Hp} {c : Addr} {b : Body} (h : HeldAt H c b) : ∃ o, H c = some o ∧ still o = false ∧ ∀ ps, o ≠ .tbl ps := by
  cases b with
  | dic r kvs => obtain ⟨vs, e, _⟩ := h; exact ⟨_, e, rfl, fun xs z => by cases z⟩
  | row xs => obtain ⟨vs, e, _⟩ := h; exact ⟨_, e, rfl, fun xs z => by cases z⟩
  | wat s g => exact ⟨_, h, rfl, fun xs z => by cases z⟩
theorem HeldAt.mono {H H' : Hp} {c : Addr} {b : Body} (tp : Tup H H') (e : H' c = H c) (h : HeldAt H c b) : HeldAt H' c b := by
  cases b with
  | dic r kvs => obtain ⟨vs, p, q⟩ := h; exact ⟨vs, e.trans p, KVR.mono tp q⟩
  | row xs => obtain ⟨vs, p, q⟩ := h; exact ⟨vs, e.trans p, LVR.mono tp q⟩
  | wat s g => exact e.trans h
structure LAp (made : Nat) (m n l : Addr) (A C : Nat → Addr) : Prop where
  mn : m ≠ n
  ml : m ≠ l
  nl : n ≠ l
  am : ∀ k < made, A k ≠ m
  an : ∀ k < made, A k ≠ n
  al : ∀ k < made, A k ≠ l
  cm : ∀ k < made, C k ≠ m
  cn : ∀ k < made, C k ≠ n
  cl : ∀ k < made, C k ≠ l
  aa : ∀ i < made, ∀ j < made, i ≠ j → A i ≠ A j
  cc : ∀ i < made, ∀ j < made, i ≠ j → C i ≠ C j
  ac : ∀ i < made, ∀ j < made, A i ≠ C j
/-- where the table of the def _law_parts stands, and the name of its lambda -/
def tabP : Addr := 215
def lamQ : Str := "_law_parts.<locals>.<lambda>"
theorem TabS_moved {H H' : Hp} {P : Addr} {q : Str} (t : LamX.TabS H P q) (tp : Tup H H') (e : H' P = H P) : LamX.TabS H' P q := by
  obtain ⟨ps, h1, h2, h3⟩ := t
  refine ⟨ps, e.trans h1, h2, fun pos cv hc => ?_⟩
  obtain ⟨c, e1, e2⟩ := h3 pos cv hc
  exact ⟨c, e1, tp.ext _ _ e2⟩
structure LOw (H : Hp) (made : Nat) (O : List Addr) (m n l : Addr) (A C : Nat → Addr) : Prop where
  m : m ∈ O
  n : n ∈ O
  l : l ∈ O
  a : ∀ k < made, A k ∈ O
  c : ∀ k < made, C k ∈ O
  tr : ∀ a ∈ O, H a ≠ none
  tO : tabP ∈ O
  tb : LamX.TabS H tabP lamQ
theorem LOw.ntab {H : Hp} {made : Nat} {O : List Addr} {m n l : Addr} {A C : Nat → Addr} (o : LOw H made O m n l A C) {a : Addr} {u : HO} (h : H a = some u) (hu : ∀ ps, u ≠ .tbl ps) : tabP ≠ a := fun z => by
  obtain ⟨ps, h1, _⟩ := o.tb
  rw [z, h] at h1
  exact hu ps (Option.some.inj h1)
theorem LOw.put {H : Hp} {made : Nat} {O : List Addr} {m n l : Addr} {A C : Nat → Addr} (o : LOw H made O m n l A C) {a : Addr} {u x : HO} (h : H a = some u) (tp : Tup H (upd H a x)) (hu : ∀ ps, u ≠ .tbl ps) : LOw (upd H a x) made O m n l A C :=
  ⟨o.m, o.n, o.l, o.a, o.c, fun a ha => upd_some (o.tr a ha), o.tO, TabS_moved o.tb tp (upd_ne (o.ntab h hu))⟩
def thL (A : Nat → Addr) (made : Nat) : List V := (List.range made).map fun k => V.ref (A k)
def LawX (H : Hp) (m : Addr) (S : Sta) (O : List Addr) (n l : Addr) (A C : Nat → Addr) : Prop :=
  ∃ vs, H m = some (.dK [(.inr "names", .ref n), (.inr "things", .ref l)]) ∧ H n = some (.dK vs) ∧ KVR H vs S.names ∧ H l = some (.lst (thL A S.made)) ∧
    (∀ k < S.made, H (A k) = some (.dK (thD (C k) (S.th k))) ∧ HeldAt H (C k) (S.th k).body) ∧ LAp S.made m n l A C ∧ LOw H S.made O m n l A C
section
variable {H H' : Hp} {m n l : Addr} {S : Sta} {O : List Addr} {A C : Nat → Addr}
theorem LawX.keep (X : LawX H m S O n l A C) (tp : Tup H H') (k : ∀ a ∈ O, H' a = H a) : LawX H' m S O n l A C := by
  obtain ⟨vs, e1, e2, e3, e4, e5, e6, e7⟩ := X
  refine ⟨vs, (k _ e7.m).trans e1, (k _ e7.n).trans e2, KVR.mono tp e3, (k _ e7.l).trans e4, fun j hj => ⟨(k _ (e7.a j hj)).trans (e5 j hj).1, (e5 j hj).2.mono tp (k _ (e7.c j hj))⟩, e6, ⟨e7.m, e7.n, e7.l, e7.a, e7.c, fun a ha => by rw [k a ha]; exact e7.tr a ha, e7.tO, TabS_moved e7.tb tp (k _ e7.tO)⟩⟩
theorem LawX.same (s : Same H H') (X : LawX H m S O n l A C) : LawX H' m S O n l A C := by
  obtain ⟨_, _, _, _, _, _, _, e7⟩ := id X
  refine X.keep (Same.tup s) fun a ha => ?_
  cases e : H a with
  | none => exact absurd e (e7.tr a ha)
  | some o => exact s a o e
/-- what others own changes -/
theorem LawX.stp {O2 : List Addr} (s : Stp O2 H H') (tp : Tup H H') (d : ∀ a ∈ O, a ∉ O2) (X : LawX H m S O n l A C) : LawX H' m S O n l A C := by
  obtain ⟨_, _, _, _, _, _, _, e7⟩ := id X
  refine X.keep tp fun a ha => ?_
  cases e : H a with
  | none => exact absurd e (e7.tr a ha)
  | some o => exact s a o e (d a ha)
theorem LawX.name {vs' ns : List (Key × V)} (X : LawX H m S O n l A C) (hr : KVR (upd H n (.dK vs')) vs' ns) : LawX (upd H n (.dK vs')) m { S with names := ns } O n l A C := by
  obtain ⟨vs, e1, e2, e3, e4, e5, e6, e7⟩ := X
  have tp : Tup H (upd H n (.dK vs')) := tup_upd (by rw [e2]; intro xs z; cases z; rfl)
  exact ⟨vs', by rw [upd_ne e6.mn]; exact e1, upd_same, hr, by rw [upd_ne e6.nl.symm]; exact e4, fun j hj => ⟨by rw [upd_ne (e6.an j hj)]; exact (e5 j hj).1, (e5 j hj).2.mono tp (upd_ne (e6.cn j hj))⟩, e6, e7.put e2 tp (by intro ps z; cases z)⟩
/-- a thing's own words change -/
theorem LawX.attr {k : Nat} {x : Th} (X : LawX H m S O n l A C) (hk : k < S.made) (eb : HeldAt H (C k) x.body) : LawX (upd H (A k) (.dK (thD (C k) x))) m (S.setTh k x) O n l A C := by
  obtain ⟨vs, e1, e2, e3, e4, e5, e6, e7⟩ := X
  have tp : Tup H (upd H (A k) (.dK (thD (C k) x))) := tup_upd (by rw [(e5 k hk).1]; intro xs z; cases z; rfl)
  refine ⟨vs, by rw [upd_ne (e6.am k hk).symm]; exact e1, by rw [upd_ne (e6.an k hk).symm]; exact e2, KVR.mono tp e3, by rw [upd_ne (e6.al k hk).symm]; exact e4, fun j hj => ?_, e6, e7.put (e5 k hk).1 tp (by intro ps z; cases z)⟩
  by_cases e : j = k
  · subst e; rw [setTh_eq]
    exact ⟨upd_same, eb.mono tp (upd_ne (e6.ac j hj j hj).symm)⟩
  · rw [setTh_ne e]
    exact ⟨by rw [upd_ne (e6.aa j hj k hk e)]; exact (e5 j hj).1, (e5 j hj).2.mono tp (upd_ne (e6.ac k hk j hj).symm)⟩
/-- a thing's parts change -/
theorem LawX.cell {k : Nat} {o : HO} {b : Body} (X : LawX H m S O n l A C) (hk : k < S.made) (eb : HeldAt (upd H (C k) o) (C k) b) (e1 : b.kind = (S.th k).body.kind) (e2 : b.lsees = (S.th k).body.lsees) (e3 : b.lgone = (S.th k).body.lgone) :
    LawX (upd H (C k) o) m (S.setTh k { S.th k with body := b }) O n l A C := by
  obtain ⟨vs, f1, f2, f3, f4, f5, f6, f7⟩ := X
  obtain ⟨o0, c1, c2, c3⟩ := (f5 k hk).2.some
  have tp : Tup H (upd H (C k) o) := tup_upd (by rw [c1]; intro xs z; cases z; exact c2)
  refine ⟨vs, by rw [upd_ne (f6.cm k hk).symm]; exact f1, by rw [upd_ne (f6.cn k hk).symm]; exact f2, KVR.mono tp f3, by rw [upd_ne (f6.cl k hk).symm]; exact f4, fun j hj => ?_, f6, f7.put c1 tp c3⟩
  by_cases e : j = k
  · subst e; rw [setTh_eq]
    refine ⟨?_, eb⟩
    rw [upd_ne (f6.ac j hj j hj), (f5 j hj).1]
    show some (HO.dK (thD (C j) (S.th j))) = some (HO.dK (thD (C j) { S.th j with body := b }))
    unfold thD
    rw [e1, e2, e3]
  · rw [setTh_ne e]
    exact ⟨by rw [upd_ne (f6.ac j hj k hk)]; exact (f5 j hj).1, (f5 j hj).2.mono tp (upd_ne (f6.cc j hj k hk e))⟩
theorem LawX.congr {S' : Sta} (X : LawX H m S O n l A C) (hn : S'.names = S.names) (hm : S'.made = S.made) (ht : ∀ k < S.made, S'.th k = S.th k) : LawX H m S' O n l A C := by
  obtain ⟨vs, e1, e2, e3, e4, e5, e6, e7⟩ := X
  exact ⟨vs, e1, e2, by rw [hn]; exact e3, by rw [hm]; exact e4, fun k hk => by rw [hm] at hk; rw [ht k hk]; exact e5 k hk, by rw [hm]; exact e6, by rw [hm]; exact e7⟩
theorem thL_add {a : Addr} {made : Nat} : thL (addF made a A) (made + 1) = thL A made ++ [.ref a] := by
  unfold thL
  rw [List.range_succ, List.map_append]
  congr 1
  · refine List.map_congr_left fun k hk => ?_
    rw [addF_ne (Nat.ne_of_lt (List.mem_range.mp hk))]
  · show [V.ref (addF made a A made)] = _
    rw [addF_eq]
/-- a new thing -/
theorem LawX.add {a c : Addr} {x : Th} (X : LawX H m S O n l A C) (ha : H a = some (.dK (thD c x))) (hc : HeldAt H c x.body) (na : a ∉ O) (nc : c ∉ O) (ac : a ≠ c) :
    LawX (upd H l (.lst (thL A S.made ++ [.ref a]))) m (S.add x) (a :: c :: O) n l (addF S.made a A) (addF S.made c C) := by
  obtain ⟨vs, e1, e2, e3, e4, e5, e6, e7⟩ := X
  have tp : Tup H (upd H l (.lst (thL A S.made ++ [.ref a]))) := tup_upd (by rw [e4]; intro xs z; cases z; rfl)
  have nl : ∀ {b : Addr}, b ∉ O → b ≠ l := fun hb e => hb (e ▸ e7.l)
  have nO : ∀ {b d : Addr}, b ∈ O → d ∉ O → b ≠ d := fun hb hd e => hd (e ▸ hb)
  obtain ⟨o0, c1, _, _⟩ := hc.some
  have lt : ∀ {k : Nat}, k < S.made + 1 → k ≠ S.made → k < S.made := fun h1 h2 => by omega
  refine ⟨vs, by rw [upd_ne e6.ml]; exact e1, by rw [upd_ne e6.nl]; exact e2, KVR.mono tp e3, by rw [upd_same]; show _ = some (HO.lst (thL _ (S.made + 1))); rw [thL_add], fun k hk => ?_, ?_, ?_⟩
  · by_cases e : k = S.made
    · subst e
      rw [addF_eq, addF_eq]
      show upd H l _ a = some (.dK (thD c (if S.made = S.made then x else S.th S.made))) ∧ HeldAt _ c (if S.made = S.made then x else S.th S.made).body
      rw [if_pos rfl]
      exact ⟨by rw [upd_ne (nl na)]; exact ha, hc.mono tp (upd_ne (nl nc))⟩
    · rw [addF_ne e, addF_ne e]
      have hk' := lt hk e
      show upd H l _ (A k) = some (.dK (thD (C k) (if k = S.made then x else S.th k))) ∧ HeldAt _ (C k) (if k = S.made then x else S.th k).body
      rw [if_neg e]
      exact ⟨by rw [upd_ne (e6.al k hk')]; exact (e5 k hk').1, (e5 k hk').2.mono tp (upd_ne (e6.cl k hk'))⟩
  · have ga : ∀ k < S.made + 1, addF S.made a A k = a ∧ k = S.made ∨ addF S.made a A k = A k ∧ k < S.made := fun k hk => by
      by_cases e : k = S.made
      · subst e; exact .inl ⟨addF_eq, rfl⟩
      · exact .inr ⟨addF_ne e, lt hk e⟩
    have gc : ∀ k < S.made + 1, addF S.made c C k = c ∧ k = S.made ∨ addF S.made c C k = C k ∧ k < S.made := fun k hk => by
      by_cases e : k = S.made
      · subst e; exact .inl ⟨addF_eq, rfl⟩
      · exact .inr ⟨addF_ne e, lt hk e⟩
    refine ⟨e6.mn, e6.ml, e6.nl, fun k hk => ?_, fun k hk => ?_, fun k hk => ?_, fun k hk => ?_, fun k hk => ?_, fun k hk => ?_, fun i hi j hj ij => ?_, fun i hi j hj ij => ?_, fun i hi j hj => ?_⟩
    · rcases ga k hk with ⟨e, _⟩ | ⟨e, h⟩ <;> rw [e]
      · exact (nO e7.m na).symm
      · exact e6.am k h
    · rcases ga k hk with ⟨e, _⟩ | ⟨e, h⟩ <;> rw [e]
      · exact (nO e7.n na).symm
      · exact e6.an k h
    · rcases ga k hk with ⟨e, _⟩ | ⟨e, h⟩ <;> rw [e]
      · exact (nO e7.l na).symm
      · exact e6.al k h
    · rcases gc k hk with ⟨e, _⟩ | ⟨e, h⟩ <;> rw [e]
      · exact (nO e7.m nc).symm
      · exact e6.cm k h
    · rcases gc k hk with ⟨e, _⟩ | ⟨e, h⟩ <;> rw [e]
      · exact (nO e7.n nc).symm
      · exact e6.cn k h
    · rcases gc k hk with ⟨e, _⟩ | ⟨e, h⟩ <;> rw [e]
      · exact (nO e7.l nc).symm
      · exact e6.cl k h
    · rcases ga i hi with ⟨e, q⟩ | ⟨e, h⟩ <;> rcases ga j hj with ⟨e', q'⟩ | ⟨e', h'⟩ <;> rw [e, e']
      · exact absurd (q.trans q'.symm) ij
      · exact (nO (e7.a j h') na).symm
      · exact nO (e7.a i h) na
      · exact e6.aa i h j h' ij
    · rcases gc i hi with ⟨e, q⟩ | ⟨e, h⟩ <;> rcases gc j hj with ⟨e', q'⟩ | ⟨e', h'⟩ <;> rw [e, e']
      · exact absurd (q.trans q'.symm) ij
      · exact (nO (e7.c j h') nc).symm
      · exact nO (e7.c i h) nc
      · exact e6.cc i h j h' ij
    · rcases ga i hi with ⟨e, q⟩ | ⟨e, h⟩ <;> rcases gc j hj with ⟨e', q'⟩ | ⟨e', h'⟩ <;> rw [e, e']
      · exact ac
      · exact (nO (e7.c j h') na).symm
      · exact nO (e7.a i h) nc
      · exact e6.ac i h j h'
  · refine ⟨List.mem_cons_of_mem _ (List.mem_cons_of_mem _ e7.m), List.mem_cons_of_mem _ (List.mem_cons_of_mem _ e7.n), List.mem_cons_of_mem _ (List.mem_cons_of_mem _ e7.l), fun k hk => ?_, fun k hk => ?_, fun b hb => ?_, List.mem_cons_of_mem _ (List.mem_cons_of_mem _ e7.tO), TabS_moved e7.tb tp (upd_ne (e7.ntab e4 (by intro ps z; cases z)))⟩
    · by_cases e : k = S.made
      · subst e; rw [addF_eq]; exact List.mem_cons_self
      · rw [addF_ne e]; exact List.mem_cons_of_mem _ (List.mem_cons_of_mem _ (e7.a k (lt hk e)))
    · by_cases e : k = S.made
      · subst e; rw [addF_eq]; exact List.mem_cons_of_mem _ List.mem_cons_self
      · rw [addF_ne e]; exact List.mem_cons_of_mem _ (List.mem_cons_of_mem _ (e7.c k (lt hk e)))
    · refine upd_some ?_
      rcases List.mem_cons.mp hb with rfl | hb
      · rw [ha]; intro z; cases z
      · rcases List.mem_cons.mp hb with rfl | hb
        · rw [c1]; intro z; cases z
        · exact e7.tr b hb
end
end WB
/-! Several readings of one expression; list(range). -/
namespace WB
open PySem PySem.Spec PyProof.Rows L2 He
section
variable {X : Cx} {e : Expr} {s : Stmt} {t1 t2 : TE}
theorem pe_or2 (h1 : PE X e t1) (h2 : PE X e t2) : PE X e (fun σ H Q => t1 σ H Q ∨ t2 σ H Q) := by
  refine ⟨fun pins s σ H Q I h => ?_⟩
  rcases h with h | h
  · exact h1.run pins s σ H Q I h
  · exact h2.run pins s σ H Q I h
theorem ps_or2 {u1 u2 : TS} (h1 : PS X s u1) (h2 : PS X s u2) : PS X s (fun D σ H => u1 D σ H ∨ u2 D σ H) := by
  refine ⟨fun pins s σ H D I h => ?_⟩
  rcases h with h | h
  · exact h1.run pins s σ H D I h
  · exact h2.run pins s σ H D I h
theorem call_lenLD : CallR X (.builtin "len") (fun xs H Q => (∃ a kvs, xs = [V.ref a] ∧ H a = some (.dK kvs) ∧ Q (.int kvs.length) H) ∨ ∃ p ys, xs = [.ref p] ∧ (SqL X.K H p ys ∨ SqT X.K H p ys) ∧ Q (.int ys.length) H) := CallR.or call_lenD call_len_seq
theorem vals_by : ∀ {xs : List V} {us : List Value}, xs.length = us.length → (∀ (i : Nat) (x : V) (u : Value), xs[i]? = some x → us[i]? = some u → RelV x u) → Vals xs us
  | [], [], _, _ => .nil
  | x :: xs, u :: us, hl, h => .cons (h 0 x u rfl rfl) (vals_by (Nat.succ.inj hl) fun i y v e1 e2 => h (i + 1) y v e1 e2)
theorem rng_vals {n : Nat} {acc : Array Value} (h : ItemsOf (fun i v => ∃ t, v = .int ((0 : Int) + (i : Int) * 1) t) acc n) : Vals ((List.range n).map fun (i : Nat) => V.int (i : Int)) acc.toList := by
  refine vals_by (by rw [List.length_map, List.length_range, Array.length_toList]; exact h.1.symm) fun i x u e1 e2 => ?_
  rw [List.getElem?_map] at e1
  obtain ⟨j, hj, rfl⟩ := Option.map_eq_some_iff.mp e1
  have : j = i := by
    obtain ⟨h1, h2⟩ := List.getElem?_eq_some_iff.mp hj
    rw [List.getElem_range] at h2; exact h2.symm
  subst this
  obtain ⟨t, rfl⟩ := h.2 j u (by rw [← Array.getElem?_toList]; exact e2)
  exact ⟨t, by rw [Int.zero_add, Int.mul_one]⟩
theorem call_list_rng (hc : X.calm = true) : CallR X (.type "list") (fun xs H Q => ∃ (p : Addr) (n : Nat), xs = [.ref p] ∧ H p = some (.rng 0 (n : Int)) ∧ n ≤ 1000 ∧ ∀ l, H l = none → Q (.ref l) (upd H l (.lst ((List.range n).map fun (i : Nat) => V.int (i : Int))))) := by
  intro pins s σ H xs us Q I r h
  obtain ⟨p, n, rfl, hp, hn, q⟩ := h
  obtain ⟨u, rfl, rx⟩ := vals1 r
  cases rx
  obtain ⟨t, v, w, ho⟩ := I.hok p _ hp
  have hs : Builtin.Range.rangeSize 0 (n : Int) 1 = (n : Int) := by
    rw [rangeSize_one]; split <;> omega
  refine call_list_range (I.ok.hd hc) ho (small_one (by decide) (by decide) (by omega) (by omega)) hs (by omega) fun h' tk acc c kp e hi => ?_
  have rv := rng_vals hi
  have I0 : Inv X pins σ H { s with heap := h', toks := tk } := I.kept kp
  refine ⟨.ref s.heap.objs.size, upd H s.heap.objs.size (.lst ((List.range n).map fun (i : Nat) => V.int (i : Int))), I.laid (t' := tk) kp (Nat.le_refl _) ?_, rfl, q _ (I.hok.fresh (Nat.le_refl _))⟩
  refine ⟨Nat.le_trans (show _ ≤ 1000 by rw [List.length_map, List.length_range]; exact hn) (by decide), acc.toList, c, rv, ?_⟩
  rw [Array.toArray_toList]
  exact e
end
end WB
namespace WK
open PySem PySem.Spec PyProof.Rows L2 He WB
section
variable {P : Program} {w : World} {K : PySem.W.Frag} {mg : Str → Option Value} {base : Heap}
theorem LVR.len {H : Hp} {vs xs : List V} (h : LVR H vs xs) : vs.length = xs.length := Paired.length h
theorem thL_at {A : Nat → Addr} {made j : Nat} (h : j < made) : atI (thL A made) (j : Int) = some (.ref (A j)) := atI_nat (by unfold thL; rw [List.getElem?_map, List.getElem?_range h]; rfl)
def spLThing : Sp := fun vs H Q _ => ∃ (m : Addr) (S : Sta) (O : List Addr) (n l : Addr) (A C : Nat → Addr) (x : Str), vs = [.ref m, .str x] ∧ LawX H m S O n l A C ∧ WB.Ok S ∧ x ∈ nmS ∧
  (∀ j, S.look x = .ref j → Q (.ref (A j)) H) ∧ ((∀ j, S.look x ≠ .ref j) → Q .non H)
theorem ok__law_thing (T : Tx w K mg) : DefOk ⟨P, w, K, mg, base⟩ 1 (ga K "_law_thing") ["_law_m", "_law_name"] spLThing := by
  refine DefOk.mk' (f__law_thing T) sc__law_thing (fun _ _ _ _ _ _ us hl => match us, hl with | [_, _], _ => rfl) (fun vs H Q E h => ?_) (fun cdv A outer s H vs Q E hr h => ?_)
  · obtain ⟨m, S, O, n, l, A', C', x, rfl, _⟩ := h
    rfl
  · obtain ⟨m, S, O, n, l, A', C', x, rfl, X, ok, hx, k1, k2⟩ := h
    have hu := hu_of hr
    refine ⟨_, (pss_cons (ps_set (i := 2) sc__law_thing.nd rfl (Or.inl rfl) (pe_dget hu (pe_dget hu (pv 0) pe_str (fun _ _ => rfl)) (pv 1) (fun _ _ => rfl))) (pss_one (ps_ret (pe_ifExp (pt_val (pe_callB call_isi (by rfl) (z_isinstance T) (by decide +kernel) (pa_cons (pv 2) (pa_cons (pe_bltn (v := .ty "tuple") (by rfl) (z_tuple T) (by decide +kernel) rfl) pa_nil)))) (pe_ix ix_list (pe_dget hu (pv 0) pe_str (fun _ _ => rfl)) (pe_ix ix_tup (pv 2) pe_int (fun _ _ => rfl)) (fun _ _ => rfl)) pe_non)))), ?_⟩
    obtain ⟨vs, e1, e2, e3, e4, e5, e6, e7⟩ := id X
    obtain ⟨u, hu2, ru⟩ := KVR.val_some e3 (ok.val hx)
    refine ⟨_, rfl, m, .ref n, rfl, DGet.k (k := .inr "names") e1, _, rfl, n, u, rfl, (by rw [← hu2]; exact DGet.k (k := .inr x) e2), ?_⟩
    rcases ru.cases with ⟨eu, el⟩ | ⟨i, eu, el⟩ | ⟨b, j, eu, el, eb⟩
    · subst eu
      refine ⟨_, rfl, _, _, _, _, _, rfl, .ty _, .base .non, kit_ty (r := false) (by decide +kernel), _, rfl, if_f rfl ?_⟩
      exact k2 (by rw [el]; intro j z; cases z)
    · subst eu
      refine ⟨_, rfl, _, _, _, _, _, rfl, .ty _, .base (.int i), kit_ty (r := false) (by decide +kernel), _, rfl, if_f rfl ?_⟩
      exact k2 (by rw [el]; intro j z; cases z)
    · subst eu
      refine ⟨_, rfl, _, _, _, _, _, rfl, .ty _, .base (.tup eb), kit_ty (r := true) (by decide +kernel), _, rfl, if_t rfl ?_⟩
      have hj := ok.look_lt el
      exact ⟨_, rfl, m, .ref l, rfl, DGet.k (k := .inr "things") e1, _, rfl, b, _, 1, _, rfl, rfl, SqT.of eb, rfl, l, _, j, _, rfl, rfl, SqL.of e4, thL_at hj, k1 j el⟩
theorem flat_k (k : Key) : flatV (kV k) = true := by cases k <;> rfl
theorem nats_flat : ∀ xs : List Nat, (xs.map fun (i : Nat) => V.int (i : Int)).all flatV = true
  | [] => rfl
  | _ :: r => nats_flat r
theorem nat_in {n : Nat} {k : Key} : inV (kV k) ((List.range n).map fun (i : Nat) => V.int (i : Int)) = inR 0 n k := by
  unfold inV
  rw [List.any_map]
  cases k with
  | inr z => exact List.any_eq_false.mpr fun x _ => by show ¬ (false = true); decide
  | inl i =>
    show ((List.range n).any fun (j : Nat) => ((j : Int) == i)) = decide (0 ≤ i ∧ i < n)
    by_cases h : 0 ≤ i ∧ i < n
    · rw [decide_eq_true h]
      exact List.any_eq_true.mpr ⟨i.toNat, List.mem_range.mpr (by omega), by rw [beq_iff_eq]; omega⟩
    · rw [decide_eq_false h]
      refine List.any_eq_false.mpr fun x hx => ?_
      have := List.mem_range.mp hx
      intro z
      have := beq_iff_eq.mp z
      omega
theorem kd {b : Body} {z : Str} {r : Bool} (y : Str) (h : b.kind = y) (e : decide (V.str y = V.str z) = r) : decide (V.str b.kind = V.str z) = r := by rw [h]; exact e
def spLHas : Sp := fun vs H Q _ => ∃ (a c : Addr) (t : Th) (k : Key), vs = [.ref a, kV k] ∧ H a = some (.dK (thD c t)) ∧ HeldAt H c t.body ∧ t.body.wf ∧ (∀ H', Same H H' → Q (.bl (t.body.has k)) H')
theorem ok__law_has (T : Tx w K mg) : DefOk ⟨P, w, K, mg, base⟩ 1 (ga K "_law_has") ["_law_thing_here", "_law_part_here"] spLHas := by
  refine DefOk.mk' (f__law_has T) sc__law_has (fun _ _ _ _ _ _ us hl => match us, hl with | [_, _], _ => rfl) (fun vs H Q E h => ?_) (fun cdv A outer s H vs Q E hr h => ?_)
  · obtain ⟨a, c, t, k0, rfl, _⟩ := h
    rfl
  · obtain ⟨a, c, t, k0, rfl, e1, e2, wf, k⟩ := h
    have hu := hu_of hr
    refine ⟨_, (pss_cons (ps_if (pt_cmpR op_eq (pe_dget hu (pv 0) pe_str (fun _ _ => rfl)) pe_str (nomark _)) (pss_one (ps_ret (pe_cmpR op_in_seq (pv 1) (pe_callTy (call_list_rng rfl) (by rfl) (z_list T) (by decide +kernel) (pa_cons (pe_callTy cr_range1K (by rfl) (z_range T) (by decide +kernel) (pa_cons (pe_callB call_lenLD (by rfl) (z_len T) PySem.boot_len (pa_cons (pe_dget hu (pv 0) pe_str (fun _ _ => rfl)) pa_nil)) pa_nil)) pa_nil)) (by rfl)))) pss_nil) (pss_one (ps_ret (pe_cmp (pc_din hu (pv 1) (pe_dget hu (pv 0) pe_str (fun _ _ => rfl))) rfl)))), ?_⟩
    have dk := DGet.k (k := .inr "kind") e1
    have dh := DGet.k (k := .inr "held") e1
    refine ⟨_, rfl, a, .str t.body.kind, rfl, dk, rfl, _, rfl, ?_⟩
    cases eb : t.body with
    | row xs =>
      rw [eb] at e2 wf k
      obtain ⟨vs, e3, e4⟩ := e2
      refine if_t (kd "row" rfl (by decide +kernel)) ?_
      refine ⟨_, rfl, _, rfl, a, .ref c, rfl, dh, .inr ⟨c, vs, rfl, .inl (SqL.of e3), _, rfl, fun p hp => ⟨p, vs.length, rfl, upd_same, ?_, fun l hl => ?_⟩⟩⟩
      · rw [LVR.len e4]; exact Nat.le_trans wf (by decide)
      · refine ⟨l, _, rfl, .inl (SqL.of upd_same), flat_k k0, nats_flat _, ?_⟩
        show Q (.bl (inV _ _)) _
        rw [nat_in]
        rw [show (Body.row xs).has k0 = inR 0 xs.length k0 from rfl, ← LVR.len e4] at k
        exact k _ ((same_new hp).trans (same_new hl))
    | dic r kvs =>
      rw [eb] at e2 k
      obtain ⟨vs, e3, e4⟩ := e2
      refine if_f (by cases r with | false => exact kd "book" rfl (by decide +kernel) | true => exact kd "record" rfl (by decide +kernel)) ?_
      refine ⟨_, rfl, _, rfl, a, .ref c, rfl, dh, c, _, rfl, DGet.k (k := k0) e3, ?_⟩
      rw [KVR.any k0 e4]
      exact k H (Same.refl H)
    | wat s g =>
      rw [eb] at e2 k
      refine if_f (kd "watch" rfl (by decide +kernel)) ?_
      refine ⟨_, rfl, _, rfl, a, .ref c, rfl, dh, c, _, rfl, DGet.k (k := k0) e2, ?_⟩
      exact k H (Same.refl H)
def spLMay : Sp := fun vs H Q _ => ∃ (a c : Addr) (t : Th) (k : Key), vs = [.ref a, kV k] ∧ H a = some (.dK (thD c t)) ∧ HeldAt H c t.body ∧ t.body.wf ∧ (∀ H', Same H H' → Q (.bl (t.body.fits k)) H')
theorem lets_in {k : Key} {kvs : List (Key × V)} (h : kvs.map (·.1) = letK) : (decide (∃ z ∈ lets, k = .inr z)) = (valV kvs k).isSome := by
  rw [← valV_any]
  by_cases q : ∃ z ∈ lets, k = .inr z
  · rw [decide_eq_true q]
    obtain ⟨z, hz, rfl⟩ := q
    have m : (.inr z : Key) ∈ kvs.map (·.1) := by rw [h]; exact List.mem_map_of_mem hz
    obtain ⟨p, hp, e⟩ := List.mem_map.mp m
    exact (List.any_eq_true.mpr ⟨p, hp, decide_eq_true e⟩).symm
  · rw [decide_eq_false q]
    refine (List.any_eq_false.mpr fun p hp z => q ?_).symm
    have m : p.1 ∈ kvs.map (·.1) := List.mem_map_of_mem hp
    rw [h] at m
    obtain ⟨y, hy, e⟩ := List.mem_map.mp (show p.1 ∈ lets.map Sum.inr from m)
    exact ⟨y, hy, (of_decide_eq_true z).symm.trans e.symm⟩
theorem let_in {k : Key} : inV (kV k) (lets.map V.str) = decide (∃ z ∈ lets, k = .inr z) := by
  unfold inV
  rw [List.any_map]
  cases k with
  | inl i =>
    rw [decide_eq_false (by rintro ⟨z, _, e⟩; cases e)]
    exact List.any_eq_false.mpr fun x _ => by show ¬ (false = true); decide
  | inr y =>
    show (lets.any fun z => (z == y)) = _
    by_cases h : ∃ z ∈ lets, (.inr y : Key) = .inr z
    · rw [decide_eq_true h]
      obtain ⟨z, hz, e⟩ := h
      exact List.any_eq_true.mpr ⟨z, hz, by rw [beq_iff_eq]; exact (Sum.inr.inj e).symm⟩
    · rw [decide_eq_false h]
      refine List.any_eq_false.mpr fun x hx q => h ⟨x, hx, ?_⟩
      rw [beq_iff_eq.mp q]
theorem ok__law_may (T : Tx w K mg) : DefOk ⟨P, w, K, mg, base⟩ 1 (ga K "_law_may") ["_law_thing_here", "_law_part_here"] spLMay := by
  refine DefOk.mk' (f__law_may T) sc__law_may (fun _ _ _ _ _ _ us hl => match us, hl with | [_, _], _ => rfl) (fun vs H Q E h => ?_) (fun cdv A outer s H vs Q E hr h => ?_)
  · obtain ⟨a, c, t, k0, rfl, _⟩ := h
    rfl
  · obtain ⟨a, c, t, k0, rfl, e1, e2, wf, k⟩ := h
    have hu := hu_of hr
    refine ⟨_, (pss_cons (ps_if (pt_cmpR op_eq (pe_dget hu (pv 0) pe_str (fun _ _ => rfl)) pe_str (nomark _)) (pss_one (ps_ret (pe_cmpR op_in_seq (pv 1) (pe_callTy (call_list_rng rfl) (by rfl) (z_list T) (by decide +kernel) (pa_cons (pe_callTy cr_range1K (by rfl) (z_range T) (by decide +kernel) (pa_cons (pe_callB (call_min2 rfl) (by rfl) (z_min T) (by decide +kernel) (pa_cons pe_int (pa_cons (pe_op op_add (pe_callB call_lenLD (by rfl) (z_len T) PySem.boot_len (pa_cons (pe_dget hu (pv 0) pe_str (fun _ _ => rfl)) pa_nil)) pe_int) pa_nil))) pa_nil)) pa_nil)) (by rfl)))) pss_nil) (pss_cons (ps_if (PW.pt (pw_and (pt_cmpR op_eq (pe_dget hu (pv 0) pe_str (fun _ _ => rfl)) pe_str (nomark _)) (pw_and1 (pt_cmpR op_in_seq (pv 1) (pe_callTy (call_list_rng rfl) (by rfl) (z_list T) (by decide +kernel) (pa_cons (pe_callTy cr_range1K (by rfl) (z_range T) (by decide +kernel) (pa_cons pe_int pa_nil)) pa_nil)) (by rfl))))) (pss_one (ps_ret (pe_or (pe_cmp (pc_din hu (pv 1) (pe_dget hu (pv 0) pe_str (fun _ _ => rfl))) rfl) (pe_one (pe_cmpR op_lt (pe_callB call_lenLD (by rfl) (z_len T) PySem.boot_len (pa_cons (pe_dget hu (pv 0) pe_str (fun _ _ => rfl)) pa_nil)) pe_int (nomark _)))))) pss_nil) (pss_one (ps_ret (pe_and (pe_cmpR op_eq (pe_dget hu (pv 0) pe_str (fun _ _ => rfl)) pe_str (nomark _)) (pe_one (pe_cmpR op_in_seq (pv 1) (pe_tup (pa_cons pe_str (pa_cons pe_str (pa_cons pe_str (pa_cons pe_str pa_nil))))) (by rfl)))))))), ?_⟩
    have dk := DGet.k (k := .inr "kind") e1
    have dh := DGet.k (k := .inr "held") e1
    refine ⟨_, rfl, a, .str t.body.kind, rfl, dk, rfl, _, rfl, ?_⟩
    cases eb : t.body with
    | row xs =>
      rw [eb] at e2 wf k
      obtain ⟨vs, e3, e4⟩ := e2
      refine if_t (kd "row" rfl (by decide +kernel)) ?_
      refine ⟨_, rfl, _, rfl, a, .ref c, rfl, dh, .inr ⟨c, vs, rfl, .inl (SqL.of e3), _, _, rfl, rfl, _, _, rfl, _, rfl, fun p hp => ⟨p, min (vs.length + 1) 8, rfl, ?_, by omega, fun l hl => ?_⟩⟩⟩
      · rw [upd_same]
        congr 2
        split <;> omega
      · refine ⟨l, _, rfl, .inl (SqL.of upd_same), flat_k k0, nats_flat _, ?_⟩
        show Q (.bl (inV _ _)) _
        rw [nat_in]
        have ef : (Body.row xs).fits k0 = inR 0 ((min (vs.length + 1) 8 : Nat) : Int) k0 := by
          show inR 0 (min ((xs.length : Int) + 1) 8) k0 = _
          rw [← LVR.len e4]
          congr 1
          omega
        rw [ef] at k
        exact k _ ((same_new hp).trans (same_new hl))
    | dic r kvs =>
      rw [eb] at e2 wf k
      obtain ⟨vs, e3, e4⟩ := e2
      cases r with
      | true =>
        refine if_f (kd "record" rfl (by decide +kernel)) ?_
        refine ⟨_, rfl, a, .str (Body.dic true kvs).kind, rfl, (by rw [← eb]; exact dk), rfl, _, rfl, if_f (kd "record" rfl (by decide +kernel)) ?_⟩
        refine if_f rfl ⟨_, rfl, a, .str (Body.dic true kvs).kind, rfl, (by rw [← eb]; exact dk), rfl, _, rfl, if_t (kd "record" rfl (by decide +kernel)) ⟨_, rfl, by show 4 ≤ sizeLine; decide, fun p hp => ?_⟩⟩
        refine ⟨p, lets.map V.str, rfl, .inr (SqT.of upd_same), flat_k k0, strs_flat _, ?_⟩
        show Q (.bl (inV _ _)) _
        rw [let_in, lets_in wf]
        exact k _ (same_new hp)
      | false =>
        refine if_f (kd "book" rfl (by decide +kernel)) ?_
        refine ⟨_, rfl, a, .str (Body.dic false kvs).kind, rfl, (by rw [← eb]; exact dk), rfl, _, rfl, if_t (kd "book" rfl (by decide +kernel)) ?_⟩
        refine ⟨_, rfl, _, rfl, fun p hp => ⟨p, 10, rfl, upd_same, by omega, fun l hl => ⟨l, _, rfl, .inl (SqL.of upd_same), flat_k k0, nats_flat _, _, rfl, ?_⟩⟩⟩
        have s2 := (same_new (o := .rng 0 10) hp).trans (same_new (o := .lst ((List.range 10).map fun (i : Nat) => V.int (i : Int))) hl)
        have f1 := s2 _ _ e1
        have f3 := s2 _ _ e3
        have fh := DGet.k (k := .inr "held") f1
        rw [nat_in]
        have ef : (Body.dic false kvs).fits k0 = ((valV kvs k0).isSome || (inR 0 10 k0 && decide (kvs.length < 6))) := rfl
        rw [ef] at k
        cases hb : inR 0 10 k0 with
        | true =>
          refine if_t rfl ⟨_, rfl, _, rfl, a, .ref c, rfl, fh, c, _, rfl, DGet.k (k := k0) f3, _, rfl, ?_⟩
          rw [KVR.any k0 e4]
          rw [hb, Bool.true_and] at k
          cases hs : (valV kvs k0).isSome with
          | true =>
            rw [hs, Bool.true_or] at k
            exact if_t rfl (k _ s2)
          | false =>
            rw [hs, Bool.false_or] at k
            refine if_f rfl ⟨_, rfl, a, .ref c, rfl, fh, .inl ⟨c, vs, rfl, f3, _, _, rfl, rfl, ?_⟩⟩
            have el : decide ((vs.length : Int) < 6) = decide (kvs.length < 6) := by
              rw [KVR.length e4]
              by_cases q : kvs.length < 6
              · rw [decide_eq_true q, decide_eq_true (by omega)]
              · rw [decide_eq_false q, decide_eq_false (by omega)]
            rw [← el] at k
            exact k _ s2
        | false =>
          have hs : (valV kvs k0).isSome = false := by
            cases hs : (valV kvs k0).isSome with
            | false => rfl
            | true =>
              obtain ⟨p', hp', e'⟩ := List.mem_map.mp (valV_key hs)
              obtain ⟨i, hi, h2, h3⟩ := wf.2.2 p' hp'
              have : k0 = .inl i := e'.symm.trans hi
              subst this
              rw [show inR 0 10 (.inl i) = decide (0 ≤ i ∧ i < 10) from rfl, decide_eq_true ⟨h2, h3⟩] at hb
              cases hb
          rw [hs, hb] at k
          have fk := DGet.k (k := .inr "kind") f1
          exact if_f rfl ⟨_, rfl, a, .str t.body.kind, rfl, fk, rfl, _, rfl, if_f (by rw [eb]; exact kd "book" rfl (by decide +kernel)) (k _ s2)⟩
    | wat s g =>
      rw [eb] at k
      refine if_f (kd "watch" rfl (by decide +kernel)) ?_
      refine ⟨_, rfl, a, .str (Body.wat s g).kind, rfl, (by rw [← eb]; exact dk), rfl, _, rfl, if_f (kd "watch" rfl (by decide +kernel)) ?_⟩
      exact if_f rfl ⟨_, rfl, a, .str (Body.wat s g).kind, rfl, (by rw [← eb]; exact dk), rfl, _, rfl, if_f (kd "watch" rfl (by decide +kernel)) (k H (Same.refl H))⟩
end
end WK
namespace WK
open PySem PySem.Spec PyProof.Rows L2 He WB
section
variable {P : Program} {w : World} {K : PySem.W.Frag} {mg : Str → Option Value} {base : Heap}
def spLWrite : Sp := fun vs H Q _ => ∃ (a c : Addr) (t : Th) (k : Key) (v x : V) (word : Str), vs = [.ref a, .str word, kV k, v] ∧ H a = some (.dK (thD c t)) ∧ HeldAt H c t.body ∧ t.body.wf ∧ VR H v x ∧
  ((word = "put" ∧ t.body.fits k = true ∧ ∀ o, HeldAt (upd H c o) c (t.body.put k x) → Q .non (upd H c o)) ∨ (word = "cut" ∧ t.body.has k = true ∧ ∀ o, HeldAt (upd H c o) c (t.body.cut k) → Q .non (upd H c o)))
theorem ok__law_write (T : Tx w K mg) : DefOk ⟨P, w, K, mg, base⟩ 1 (ga K "_law_write") ["_law_thing_here", "_law_word_here", "_law_part_here", "_law_value"] spLWrite := by
  refine DefOk.mk' (f__law_write T) sc__law_write (fun _ _ _ _ _ _ us hl => match us, hl with | [_, _, _, _], _ => rfl) (fun vs H Q E h => ?_) (fun cdv A outer s H vs Q E hr h => ?_)
  · obtain ⟨a, c, t, k0, v, x, word, rfl, _⟩ := h
    rfl
  · obtain ⟨a, c, t, k0, v, x, word, rfl, e1, e2, wf, rv, h⟩ := h
    have hu := hu_of hr
    refine ⟨_, (pss_one (ps_if (PW.pt (pw_and (pt_cmpR op_eq (pv 1) pe_str (nomark _)) (pw_and (pt_cmpR op_eq (pe_dget hu (pv 0) pe_str (fun _ _ => rfl)) pe_str (nomark _)) (pw_and1 (pt_cmpR op_eq (pv 2) (pe_callB call_lenLD (by rfl) (z_len T) PySem.boot_len (pa_cons (pe_dget hu (pv 0) pe_str (fun _ _ => rfl)) pa_nil)) (nomark _)))))) (pss_one (ps_expr (pe_bm PySem.F.plainAttrs_list PySem.F.slot_list_append PySem.F.type_list_append mt_append (pe_dget hu (pv 0) pe_str (fun _ _ => rfl)) (pa_cons (pv 3) pa_nil)))) (pss_one (ps_if (pt_cmpR op_eq (pv 1) pe_str (nomark _)) (pss_one (ps_or2 (ps_dput hu (pe_dget hu (pv 0) pe_str (fun _ _ => rfl)) (pv 2) (pv 3) rfl) (ps_asg (pv 3) (pg_sub (pe_dget hu (pv 0) pe_str (fun _ _ => rfl)) (pv 2) set_list)))) (pss_one (ps_if (pt_cmpR op_eq (pe_dget hu (pv 0) pe_str (fun _ _ => rfl)) pe_str (nomark _)) (pss_one (ps_or2 (ps_dput hu (pe_dget hu (pv 0) pe_str (fun _ _ => rfl)) (pv 2) pe_non rfl) (ps_asg pe_non (pg_sub (pe_dget hu (pv 0) pe_str (fun _ _ => rfl)) (pv 2) set_list)))) (pss_one (ps_expr (pe_or2 (pe_dpop1 (pe_dget hu (pv 0) pe_str (fun _ _ => rfl)) (pv 2) (by exact ⟨rfl, rfl, rfl, rfl⟩)) (pe_bm PySem.F.plainAttrs_list PySem.F.slot_list_pop PySem.F.type_list_pop mt_popAt (pe_dget hu (pv 0) pe_str (fun _ _ => rfl)) (pa_cons (pv 2) pa_nil))))))))))), ?_⟩
    have dk := DGet.k (k := .inr "kind") e1
    have dh := DGet.k (k := .inr "held") e1
    rcases h with ⟨rfl, hf, k⟩ | ⟨rfl, hf, k⟩
    · refine ⟨_, rfl, rfl, _, rfl, if_t (by decide +kernel) ⟨_, rfl, a, .str t.body.kind, rfl, dk, rfl, _, rfl, ?_⟩⟩
      cases eb : t.body with
      | wat s g => rw [eb] at hf; cases hf
      | row xs =>
        rw [eb] at e2 wf hf k
        obtain ⟨vs, e3, e4⟩ := e2
        refine if_t (kd "row" rfl (by decide +kernel)) ?_
        cases k0 with
        | inr z => cases hf
        | inl i =>
          have hf' := of_decide_eq_true (show decide (0 ≤ i ∧ i < min ((xs.length : Int) + 1) 8) = true from hf)
          have l4 := LVR.len e4
          have w8 : xs.length ≤ 8 := wf
          refine ⟨_, rfl, _, rfl, a, .ref c, rfl, dh, .inr ⟨c, vs, rfl, .inl (SqL.of e3), rfl, _, rfl, ?_⟩⟩
          by_cases q : i = (vs.length : Int)
          · refine if_t (decide_eq_true (by rw [q]; rfl)) ?_
            refine ⟨_, rfl, a, .ref c, rfl, dh, .inl ⟨rfl, _, SqL.of e3⟩, _, rfl, c, vs, v, rfl, rfl, e3, szl (by omega), ?_⟩
            refine k _ ?_
            have tp : Tup H (upd H c (.lst (vs ++ [v]))) := tup_upd (by rw [e3]; intro y z; cases z; rfl)
            show HeldAt _ c (if keyN (.inl i) = xs.length then Body.row (xs ++ [x]) else _)
            rw [if_pos (by show i.toNat = xs.length; omega)]
            exact ⟨_, upd_same, LVR.mono tp (Paired.app e4 (.cons rv .nil))⟩
          · refine if_f (decide_eq_false fun z => q (V.int.inj z)) ?_
            refine ⟨_, rfl, rfl, _, rfl, if_t (by decide +kernel) (.inr ⟨_, rfl, ?_⟩)⟩
            have hix : ixN vs.length i = some i.toNat := by unfold ixN; rw [if_pos hf'.1, if_pos (by omega)]
            refine ⟨_, rfl, a, .ref c, rfl, dh, _, rfl, c, vs, i, i.toNat, rfl, rfl, e3, hix, ?_⟩
            refine k _ ?_
            have tp : Tup H (upd H c (.lst (vs.set i.toNat v))) := tup_upd (by rw [e3]; intro y z; cases z; rfl)
            show HeldAt _ c (if keyN (.inl i) = xs.length then _ else Body.row (xs.set (keyN (.inl i)) x))
            rw [if_neg (by show ¬ i.toNat = xs.length; omega)]
            exact ⟨_, upd_same, LVR.mono tp (Paired.setP rv i.toNat e4)⟩
      | dic r kvs =>
        rw [eb] at e2 wf hf k
        obtain ⟨vs, e3, e4⟩ := e2
        refine if_f (by cases r with | false => exact kd "book" rfl (by decide +kernel) | true => exact kd "record" rfl (by decide +kernel)) ?_
        have ls : vs.length < sizeLine := szl (by rw [KVR.length e4]; have := wf_len wf; omega)
        refine ⟨_, rfl, rfl, _, rfl, if_t (by decide +kernel) (.inl ⟨_, rfl, _, rfl, a, .ref c, rfl, dh, _, rfl, c, _, rfl, DPut.k (k := k0) e3 ls, ?_⟩)⟩
        have tp : Tup H (upd H c (.dK (putK vs k0 v))) := tup_upd (by rw [e3]; intro y z; cases z; rfl)
        exact k _ ⟨_, upd_same, KVR.mono tp (KVR.put rv e4)⟩
    · refine ⟨_, rfl, rfl, _, rfl, if_f (by decide +kernel) ⟨_, rfl, rfl, _, rfl, if_f (by decide +kernel) ⟨_, rfl, a, .str t.body.kind, rfl, dk, rfl, _, rfl, ?_⟩⟩⟩
      cases eb : t.body with
      | wat s g => rw [eb] at hf; cases hf
      | row xs =>
        rw [eb] at e2 wf hf k
        obtain ⟨vs, e3, e4⟩ := e2
        refine if_f (kd "row" rfl (by decide +kernel)) ?_
        cases k0 with
        | inr z => cases hf
        | inl i =>
          have hf' := of_decide_eq_true (show decide (0 ≤ i ∧ i < (xs.length : Int)) = true from hf)
          have l4 := LVR.len e4
          have lt : i.toNat < vs.length := by omega
          have w8 : xs.length ≤ 8 := wf
          refine .inr ⟨_, rfl, a, .ref c, rfl, dh, .inl ⟨rfl, _, SqL.of e3⟩, _, rfl, c, vs, i, i.toNat, vs[i.toNat], rfl, rfl, e3, by omega, by omega, ?_, List.getElem?_eq_getElem lt, ?_⟩
          · exact PySem.StrLaws.seqIndex_nonneg hf'.1 (by omega)
          · have tp : Tup H (upd H c (.lst (vs.eraseIdx i.toNat))) := tup_upd (by rw [e3]; intro y z; cases z; rfl)
            exact k _ ⟨_, upd_same, LVR.mono tp (Paired.erase i.toNat e4)⟩
      | dic r kvs =>
        rw [eb] at e2 wf hf k
        obtain ⟨vs, e3, e4⟩ := e2
        have ls : vs.length < sizeLine := szl (by rw [KVR.length e4]; have := wf_len wf; omega)
        cases r with
        | true =>
          refine if_t (kd "record" rfl (by decide +kernel)) (.inl ⟨_, rfl, a, .ref c, rfl, dh, _, rfl, c, _, rfl, DPut.k (k := k0) e3 ls, ?_⟩)
          have tp : Tup H (upd H c (.dK (putK vs k0 .non))) := tup_upd (by rw [e3]; intro y z; cases z; rfl)
          exact k _ ⟨_, upd_same, KVR.mono tp (KVR.put (show VR H .non .non from rfl) e4)⟩
        | false =>
          refine if_f (kd "book" rfl (by decide +kernel)) ?_
          have hs : (valV vs k0).isSome = true := by rw [KVR.any k0 e4]; exact hf
          obtain ⟨u, hu'⟩ := Option.isSome_iff_exists.mp hs
          refine .inl ⟨_, rfl, a, .ref c, rfl, dh, c, rfl, ?_, _, rfl, vs, k0, u, e3, rfl, hu', ?_⟩
          · exact .inl ⟨_, .inl e3⟩
          · have tp : Tup H (upd H c (.dK (dropK vs k0))) := tup_upd (by rw [e3]; intro y z; cases z; rfl)
            exact k _ ⟨_, upd_same, KVR.mono tp (KVR.drop e4)⟩
end
end WK
namespace WK
open PySem PySem.Spec PyProof.Rows L2 He WB
section
variable {P : Program} {w : World} {K : PySem.W.Frag} {mg : Str → Option Value} {base : Heap}
theorem nm_abc : nm0 = ("pqrstuvw" : Str).cps.toList.map fun c => ((.inr ⟨#[c]⟩ : Key), V.non) := by decide +kernel
theorem nm_at {i c : Nat} (h : ("pqrstuvw" : Str).cps[i]? = some c) : nm0[i]? = some (.inr ⟨#[c]⟩, .non) := by
  rw [nm_abc, List.getElem?_map, Array.getElem?_toList, h]; rfl
theorem kvr_non {H : Hp} : ∀ xs : List Str, KVR H (xs.map fun x => ((.inr x : Key), V.non)) (xs.map fun x => ((.inr x : Key), V.non))
  | [] => .nil
  | _ :: r => .cons ⟨rfl, rfl⟩ (kvr_non r)
def spLModel : Sp := fun vs H Q _ => vs = [] ∧ LamX.TabS H tabP lamQ ∧ ∀ m n l H', Same H H' → H m = none → H n = none → H l = none → LawX H' m S0 [m, n, l, tabP] n l (fun _ => 0) (fun _ => 0) → Q (.ref m) H'
theorem ok__law_model (T : Tx w K mg) : DefOk ⟨P, w, K, mg, base⟩ 1 (ga K "_law_model") [] spLModel := by
  refine DefOk.mk' (f__law_model T) sc__law_model (fun _ _ _ _ _ _ us hl => match us, hl with | [], _ => rfl) (fun vs H Q E h => ?_) (fun cdv A outer s H vs Q E hr h => ?_)
  · obtain ⟨rfl, _⟩ := h
    rfl
  · obtain ⟨rfl, tb, k⟩ := h
    have hu := hu_of hr
    refine ⟨_, (pss_one (ps_ret (pe_disp (pps_cons pe_str (pe_callTy (call_dictP rfl) (by rfl) (z_dict T) (by decide +kernel) (pa_cons (pe_lc (own := [("_law_name", 0)]) (g := (gName 0)) rfl sc__law_model.nd (pi_str pe_str) (blkOk_by (own := [("_law_name", 0)]) (N := ["_law_name"]) (sc := defScope s__law_model) (by decide +kernel)) (fun _ _ _ _ _ => (pg_name (i := 0) sc__law_model.nd rfl (Or.inl rfl))) (fun _ _ _ _ _ => by exact pts_nil) (fun _ _ _ _ _ => by exact (pe_tup (pa_cons (pv 0) (pa_cons pe_non pa_nil))))) pa_nil)) (pps_cons pe_str (pe_lst pa_nil) pps_nil)) (by rfl) (by rfl) (fun z => by cases z) (by decide)))), ?_⟩
    refine fun m hm => ?_
    refine ⟨_, rfl, ?_⟩
    have sm : Same H (upd H m (.dK [])) := same_new hm
    refine fun D hD => ?_
    have nDm : D ≠ m := fun z => by rw [z, upd_same] at hD; cases hD
    refine lc_it walk_str (fun i H' => Same (upd H m (.dK [])) H' ∧ ∃ ps : List Addr, H' D = some (.lst (ps.map V.ref)) ∧ Paired (fun p kv => H' p = some (.tup [kV kv.1, kv.2])) ps (nm0.take i)) ⟨same_new hD, [], upd_same, .nil⟩ (fun _ _ _ _ => trivial) ?_ ?_
    · rintro i x H1 H2 hi ⟨s1, ps, g1, g2⟩ ⟨rfl, c, hc, rfl⟩
      refine ⟨rfl, ?_⟩
      refine ⟨_, rfl, by show 2 ≤ sizeLine; decide, fun p hp => ?_⟩
      have hpD : D ≠ p := ne_of_none g1 hp
      have ek := nm_at hc
      have l1 : ps.length ≤ 8 := by rw [Paired.length g2, List.length_take]; exact Nat.le_trans (Nat.min_le_right _ _) (by decide)
      refine ⟨ps.map V.ref, by rw [upd_ne hpD]; exact g1, szl (by rw [List.length_map]; omega), same_mut (s1.trans (same_new hp)) hD, ps ++ [p], by rw [upd_same, List.map_append]; rfl, ?_⟩
      rw [take_snoc ek]
      have tp : ∀ (q : Addr) (o : HO), H2 q = some o → q ≠ D → upd (upd H2 p (.tup [.str ⟨#[c]⟩, .non])) D (.lst (ps.map V.ref ++ [.ref p])) q = some o := fun q o e nq => by
        rw [upd_ne nq, upd_ne (ne_of_none e hp)]; exact e
      refine Paired.app (Paired.imp (fun q kv e => tp q _ e fun z => by rw [z, g1] at e; cases e) g2) (.cons ?_ .nil)
      rw [upd_ne hpD.symm, upd_same]; rfl
    · rintro H1 ⟨s1, ps, g1, g2⟩
      rw [List.take_of_length_le (by decide)] at g2
      refine ⟨D, ps, nm0, rfl, SqL.of g1, Paired.imp (fun _ _ e => SqT.of e) g2, fun n hn => ?_⟩
      have s2 := s1.trans (same_new (o := .dK (mergeK [] nm0)) hn)
      refine ⟨by show 0 ≤ sizeLine; decide, fun l hl => ?_⟩
      have s3 := s2.trans (same_new (o := .lst []) hl)
      have hm3 := s3 _ _ (upd_same (a := m) (o := HO.dK []))
      refine ⟨hm3, [(.inr "names", .ref n), (.inr "things", .ref l)], rfl, by show 2 ≤ 15; decide, ?_⟩
      have nl : n ≠ l := fun z => by rw [← z, upd_same] at hl; cases hl
      have m1 := s1 _ _ (upd_same (a := m) (o := HO.dK []))
      have nm : m ≠ n := ne_of_none m1 hn
      have hm2 := (s1.trans (same_new (o := .dK (mergeK [] nm0)) hn)) _ _ (upd_same (a := m) (o := HO.dK []))
      have lm : m ≠ l := ne_of_none hm2 hl
      have n0 : H n = none := sm.free (s1.free hn)
      have l0 : H l = none := sm.free (s2.free hl)
      have sF := same_mut (o := .dK [(.inr "names", .ref n), (.inr "things", .ref l)]) (sm.trans s3) hm
      refine k m n l _ sF hm n0 l0 ⟨nm0, ?_, ?_, kvr_non nmS, ?_, fun j hj => absurd hj (Nat.not_lt_zero j), ⟨nm, lm, nl, ?_, ?_, ?_, ?_, ?_, ?_, ?_, ?_, ?_⟩, ⟨?_, ?_, ?_, ?_, ?_, ?_, ?_, tb.ext sF⟩⟩
      · rw [upd_same]; rfl
      · rw [upd_ne nm.symm, upd_ne nl, upd_same]; rfl
      · rw [upd_ne lm.symm, upd_same]; rfl
      all_goals first
        | exact fun j hj => absurd hj (Nat.not_lt_zero j)
        | exact List.mem_cons_self
        | exact List.mem_cons_of_mem _ List.mem_cons_self
        | exact List.mem_cons_of_mem _ (List.mem_cons_of_mem _ List.mem_cons_self)
        | exact List.mem_cons_of_mem _ (List.mem_cons_of_mem _ (List.mem_cons_of_mem _ List.mem_cons_self))
        | skip
      · intro b hb
        rcases List.mem_cons.mp hb with rfl | hb
        · rw [upd_same]; intro z; cases z
        · rcases List.mem_cons.mp hb with rfl | hb
          · rw [upd_ne nm.symm, upd_ne nl, upd_same]; intro z; cases z
          · rcases List.mem_cons.mp hb with rfl | hb
            · rw [upd_ne lm.symm, upd_same]; intro z; cases z
            · obtain ⟨ps, e, _⟩ := tb
              have e2 := sF _ _ e
              rw [List.mem_singleton.mp hb]
              exact fun z => by cases e2.symm.trans z
end
end WK
namespace WK
open PySem PySem.Spec PyProof.Rows L2 He WB
section
variable {P : Program} {w : World} {K : PySem.W.Frag} {mg : Str → Option Value} {base : Heap}
theorem rec_abc : rec0 = ("abcd" : Str).cps.toList.map fun c => ((.inr ⟨#[c]⟩ : Key), V.non) := by decide +kernel
theorem rec_at {i c : Nat} (h : ("abcd" : Str).cps[i]? = some c) : rec0[i]? = some (.inr ⟨#[c]⟩, .non) := by
  rw [rec_abc, List.getElem?_map, Array.getElem?_toList, h]; rfl
def newD (kind : Str) (c : Addr) : List (Key × V) := [(.inr "kind", .str kind), (.inr "held", .ref c), (.inr "sees", .non), (.inr "gone", .bl false), (.inr "last", .str "none"), (.inr "goal", .non)]
def kinds4 : List Str := ["record", "row", "book", "watch"]
def newB (kind : Str) : Body := if kind = "watch" then .wat 0 false else emptyB kind
def spLMake : Sp := fun vs H Q _ => ∃ (m : Addr) (S : Sta) (O : List Addr) (n l : Addr) (A C : Nat → Addr) (kind : Str), vs = [.ref m, .str kind] ∧ LawX H m S O n l A C ∧ S.made ≤ 790 ∧ kind ∈ kinds4 ∧
  ∀ a c p H1, Same H H1 → H a = none → H c = none → a ≠ c → H1 a = some (.dK (newD kind c)) → HeldAt H1 c (newB kind) → H1 p = none → p ≠ l →
    Q (.ref p) (upd (upd H1 l (.lst (thL A S.made ++ [.ref a]))) p (.tup [.str "thing", .int (S.made : Int)]))
theorem ok__law_make (T : Tx w K mg) : DefOk ⟨P, w, K, mg, base⟩ 1 (ga K "_law_make") ["_law_m", "_law_kind"] spLMake := by
  refine DefOk.mk' (f__law_make T) sc__law_make (fun _ _ _ _ _ _ us hl => match us, hl with | [_, _], _ => rfl) (fun vs H Q E h => ?_) (fun cdv A outer s H vs Q E hr h => ?_)
  · obtain ⟨m, S, O, n, l, A', C', kind, rfl, _⟩ := h
    rfl
  · obtain ⟨m, S, O, n, l, A', C', kind, rfl, X, hm, hk, k⟩ := h
    have hu := hu_of hr
    refine ⟨_, (pss_cons (ps_set (i := 3) sc__law_make.nd rfl (Or.inl rfl) (pe_dget hu (pe_disp (pps_cons pe_str (pe_callTy (call_dictP rfl) (by rfl) (z_dict T) (by decide +kernel) (pa_cons (pe_lc (own := [("_law_letter", 2)]) (g := (gName 2)) rfl sc__law_make.nd (pi_str pe_str) (blkOk_by (own := [("_law_letter", 2)]) (N := ["_law_m", "_law_kind", "_law_letter", "_law_held_here"]) (sc := defScope s__law_make) (by decide +kernel)) (fun _ _ _ _ _ => (pg_name (i := 2) sc__law_make.nd rfl (Or.inl rfl))) (fun _ _ _ _ _ => by exact pts_nil) (fun _ _ _ _ _ => by exact (pe_tup (pa_cons (pv 2) (pa_cons pe_non pa_nil))))) pa_nil)) (pps_cons pe_str (pe_lst pa_nil) (pps_cons pe_str pe_dnewK (pps_cons pe_str pe_dnewK pps_nil)))) (by rfl) (by rfl) (fun z => by cases z) (by decide)) (pv 1) (fun _ _ => rfl))) (pss_cons (ps_expr (pe_bm PySem.F.plainAttrs_list PySem.F.slot_list_append PySem.F.type_list_append mt_append (pe_dget hu (pv 0) pe_str (fun _ _ => rfl)) (pa_cons (pe_disp (pps_cons pe_str (pv 1) (pps_cons pe_str (pv 3) (pps_cons pe_str pe_non (pps_cons pe_str pe_bl (pps_cons pe_str pe_str (pps_cons pe_str pe_non pps_nil)))))) (by rfl) (by rfl) (fun z => by cases z) (by decide)) pa_nil))) (pss_one (ps_ret (pe_tup (pa_cons pe_str (pa_cons (pe_op op_sub (pe_callB call_len_seq (by rfl) (z_len T) PySem.boot_len (pa_cons (pe_dget hu (pv 0) pe_str (fun _ _ => rfl)) pa_nil)) pe_int) pa_nil))))))), ?_⟩
    obtain ⟨vs, e1, e2, e3, e4, e5, e6, e7⟩ := id X
    refine fun q hq => ?_
    have sq : Same H (upd H q (.dK [])) := same_new hq
    refine ⟨_, rfl, fun D hD => ?_⟩
    refine lc_it walk_str (fun i H' => Same (upd H q (.dK [])) H' ∧ ∃ ps : List Addr, H' D = some (.lst (ps.map V.ref)) ∧ Paired (fun p kv => H' p = some (.tup [kV kv.1, kv.2])) ps (rec0.take i)) ⟨same_new hD, [], upd_same, .nil⟩ (fun _ _ _ _ => trivial) ?_ ?_
    · rintro i x H1 H2 hi ⟨s1, ps, g1, g2⟩ ⟨rfl, c, hc, rfl⟩
      refine ⟨rfl, ?_⟩
      refine ⟨_, rfl, by show 2 ≤ sizeLine; decide, fun p hp => ?_⟩
      have hpD : D ≠ p := ne_of_none g1 hp
      have ek := rec_at hc
      have l1 : ps.length ≤ 4 := by rw [Paired.length g2, List.length_take]; exact Nat.le_trans (Nat.min_le_right _ _) (by decide)
      refine ⟨ps.map V.ref, by rw [upd_ne hpD]; exact g1, szl (by rw [List.length_map]; omega), same_mut (s1.trans (same_new hp)) hD, ps ++ [p], by rw [upd_same, List.map_append]; rfl, ?_⟩
      rw [take_snoc ek]
      have tp : ∀ (q : Addr) (o : HO), H2 q = some o → q ≠ D → upd (upd H2 p (.tup [.str ⟨#[c]⟩, .non])) D (.lst (ps.map V.ref ++ [.ref p])) q = some o := fun q o e nq => by
        rw [upd_ne nq, upd_ne (ne_of_none e hp)]; exact e
      refine Paired.app (Paired.imp (fun q kv e => tp q _ e fun z => by rw [z, g1] at e; cases e) g2) (.cons ?_ .nil)
      rw [upd_ne hpD.symm, upd_same]; rfl
    · rintro H1 ⟨s1, ps, g1, g2⟩
      rw [List.take_of_length_le (by decide)] at g2
      refine ⟨D, ps, rec0, rfl, SqL.of g1, Paired.imp (fun _ _ e => SqT.of e) g2, fun r hr => ?_⟩
      have s2 := s1.trans (same_new (o := .dK (mergeK [] rec0)) hr)
      refine ⟨by show 0 ≤ sizeLine; decide, fun rw' hrw => ?_⟩
      have s3 := s2.trans (same_new (o := .lst []) hrw)
      refine fun b hb => ?_
      have s4 := s3.trans (same_new (o := .dK []) hb)
      refine fun t ht => ?_
      have s5 := s4.trans (same_new (o := .dK []) ht)
      refine ⟨s5 _ _ upd_same, [(.inr "record", .ref r), (.inr "row", .ref rw'), (.inr "book", .ref b), (.inr "watch", .ref t)], rfl, by show 4 ≤ 15; decide, ?_⟩
      have hm5 := (sq.trans s5)
      obtain ⟨X5, eX⟩ : ∃ X5, X5 = (upd (upd (upd (upd H1 r (.dK (mergeK [] rec0))) rw' (.lst [])) b (.dK [])) t (.dK [])) := ⟨_, rfl⟩
      rw [← eX] at hm5 ⊢
      have nrr : r ≠ rw' := fun z => by rw [← z, upd_same] at hrw; cases hrw
      have grw : upd (upd H1 r (.dK (mergeK [] rec0))) rw' (.lst []) rw' = some (.lst []) := upd_same
      have gr2 : upd (upd H1 r (.dK (mergeK [] rec0))) rw' (.lst []) r = some (.dK rec0) := by rw [upd_ne nrr, upd_same]; rfl
      have nrb : r ≠ b := ne_of_none gr2 hb
      have nwb : rw' ≠ b := ne_of_none grw hb
      have gr3 : X5 r = some (.dK rec0) := by
        rw [eX, upd_ne (ne_of_none (by rw [upd_ne nrb]; exact gr2) ht), upd_ne nrb]; exact gr2
      have gw3 : X5 rw' = some (.lst []) := by
        rw [eX, upd_ne (ne_of_none (by rw [upd_ne nwb]; exact grw) ht), upd_ne nwb]; exact grw
      have gb3 : X5 b = some (.dK []) := by
        rw [eX, upd_ne (ne_of_none upd_same ht)]; exact upd_same
      have gt3 : X5 t = some (.dK []) := by rw [eX]; exact upd_same
      have gq3 : X5 q = some (.dK []) := by rw [eX]; exact s5 _ _ upd_same
      have r0 : H r = none := sq.free (s1.free hr)
      have w0 : H rw' = none := sq.free (s2.free hrw)
      have b0 : H b = none := sq.free (s3.free hb)
      have t0 : H t = none := sq.free (s4.free ht)
      obtain ⟨c, oc, c0, hc, ncq, hh, hv⟩ : ∃ (c : Addr) (oc : HO), H c = none ∧ X5 c = some oc ∧ c ≠ q ∧ (∀ G : Hp, G c = some oc → HeldAt G c (newB kind)) ∧ valV (mergeK [] [(.inr "record", .ref r), (.inr "row", .ref rw'), (.inr "book", .ref b), (.inr "watch", .ref t)]) (.inr kind) = some (V.ref c) := by
        have ne : ∀ {x : Addr} {o : HO}, X5 x = some o → o ≠ .dK [] → x ≠ q := fun e h z => by rw [z, gq3] at e; exact h (Option.some.inj e).symm
        have k4 : kind = "record" ∨ kind = "row" ∨ kind = "book" ∨ kind = "watch" := by
          unfold kinds4 at hk
          rcases List.mem_cons.mp hk with h | hk
          · exact .inl h
          · rcases List.mem_cons.mp hk with h | hk
            · exact .inr (.inl h)
            · rcases List.mem_cons.mp hk with h | hk
              · exact .inr (.inr (.inl h))
              · exact .inr (.inr (.inr (List.mem_singleton.mp hk)))
        rcases k4 with rfl | rfl | rfl | rfl
        · exact ⟨r, _, r0, gr3, ne gr3 (by intro z; cases z), fun G e => ⟨_, e, kvr_non lets⟩, rfl⟩
        · exact ⟨rw', _, w0, gw3, ne gw3 (by intro z; cases z), fun G e => ⟨_, e, .nil⟩, rfl⟩
        · exact ⟨b, _, b0, gb3, (ne_of_none (s3 _ _ upd_same) hb).symm, fun G e => ⟨_, e, .nil⟩, rfl⟩
        · exact ⟨t, _, t0, gt3, (ne_of_none (s4 _ _ upd_same) ht).symm, fun G e => e, rfl⟩
      have s6 : Same H (upd X5 q (.dK (mergeK [] [(.inr "record", .ref r), (.inr "row", .ref rw'), (.inr "book", .ref b), (.inr "watch", .ref t)]))) := same_mut hm5 hq
      refine ⟨_, rfl, q, .ref c, rfl, (by rw [← hv]; exact DGet.k (k := .inr kind) upd_same), ?_⟩
      refine ⟨_, rfl, m, .ref l, rfl, DGet.k (k := .inr "things") (s6 _ _ e1), .inl ⟨rfl, _, SqL.of (s6 _ _ e4)⟩, fun a ha => ?_⟩
      have a0 : H a = none := s6.free ha
      have gc : upd X5 q (.dK (mergeK [] [(.inr "record", .ref r), (.inr "row", .ref rw'), (.inr "book", .ref b), (.inr "watch", .ref t)])) c = some oc := by rw [upd_ne ncq]; exact hc
      generalize upd X5 q (.dK (mergeK [] [(.inr "record", .ref r), (.inr "row", .ref rw'), (.inr "book", .ref b), (.inr "watch", .ref t)])) = G at s6 ha gc ⊢
      have nac : a ≠ c := (ne_of_none gc ha).symm
      have s7 : Same H (upd G a (.dK (newD kind c))) := s6.trans (same_new ha)
      refine ⟨_, rfl, _, rfl, upd_same, newD kind c, rfl, by show 6 ≤ 15; decide, ?_⟩
      rw [upd_upd, show mergeK [] (newD kind c) = newD kind c from by kernel_rfl]
      have e4' := s7 _ _ e4
      have lt : (thL A' S.made).length = S.made := by unfold thL; rw [List.length_map, List.length_range]
      refine ⟨l, _, .ref a, rfl, rfl, e4', szl (by rw [lt]; omega), ?_⟩
      have nlm : m ≠ l := e6.ml
      have hm9 : upd (upd G a (.dK (newD kind c))) l (.lst (thL A' S.made ++ [V.ref a])) m = some (.dK [(.inr "names", .ref n), (.inr "things", .ref l)]) := by rw [upd_ne nlm]; exact s7 _ _ e1
      refine ⟨_, rfl, m, .ref l, rfl, DGet.k (k := .inr "things") hm9, l, _, rfl, .inl (SqL.of upd_same), _, _, rfl, rfl, by show 2 ≤ sizeLine; decide, fun p hp => ?_⟩
      have npl : p ≠ l := fun z => by rw [z, upd_same] at hp; cases hp
      rw [upd_ne npl] at hp
      have q1 := k a c p _ s7 a0 c0 nac upd_same (hh _ (by rw [upd_ne nac.symm]; exact gc)) hp npl
      have ev : ((thL A' S.made ++ [V.ref a]).length : Int) - 1 = (S.made : Int) := by rw [List.length_append, lt]; show ((S.made + 1 : Nat) : Int) - 1 = _; omega
      rw [← ev] at q1
      exact q1
end
end WK
/-! The law's look at a thing's parts. -/
namespace WB
open PySem PySem.Spec PyProof.Rows L2 He PySem.W
/-- what the law tells of a thing's parts -/
def lparts : Body → List (Key × V)
  | .wat _ _ => []
  | b => b.shown
def kLeK (a b : Key) : Bool := !dataLt (kD b) (kD a)
theorem kLe_srt (vs : List (Key × V)) : (vs.mergeSort kLe).Pairwise fun p q => kLeK p.1 q.1 = true :=
  List.pairwise_mergeSort (le := kLe) (fun a b c => (sortLe_total _ false _).trans a b c) (fun a b => by rw [Bool.or_eq_true]; exact (sortLe_total _ false _).total a b) vs
theorem valV_one {k : Key} {v : V} : ∀ {kvs : List (Key × V)}, (kvs.map (·.1)).Nodup → (k, v) ∈ kvs → valV kvs k = some v
  | [], _, h => by cases h
  | (j, u) :: r, nd, h => by
    obtain ⟨n1, n2⟩ := List.nodup_cons.mp nd
    rcases List.mem_cons.mp h with e | h
    · cases e
      exact valV_pos rfl
    · have nj : k ≠ j := fun z => n1 (z ▸ List.mem_map_of_mem (f := (·.1)) h)
      rw [valV_neg fun z => nj z.symm]
      exact valV_one n2 h
theorem paired_by {α β : Type} {R : α → β → Prop} : ∀ {xs : List α} {ys : List β}, xs.length = ys.length → (∀ (i : Nat) x y, xs[i]? = some x → ys[i]? = some y → R x y) → Paired R xs ys
  | [], [], _, _ => .nil
  | [], _ :: _, h, _ => by cases h
  | _ :: _, [], h, _ => by cases h
  | x :: xs, y :: ys, h, r => .cons (r 0 x y rfl rfl) (paired_by (Nat.succ.inj h) fun i a b e1 e2 => r (i + 1) a b e1 e2)
theorem kvr_by {H : Hp} {vs kvs ys : List (Key × V)} {ks : List Key} (r : KVR H vs kvs) (p : ys.Perm vs) (nd : (vs.map (·.1)).Nodup) (e : ys.map (·.1) = ks) : KVR H ys (ks.map fun k => (k, (valV kvs k).getD .non)) := by
  refine paired_by (by rw [List.length_map, ← e, List.length_map]) fun i x y hx hy => ?_
  rw [List.getElem?_map, ← e, List.getElem?_map, hx] at hy
  cases Option.some.inj hy
  refine ⟨rfl, ?_⟩
  have hv : valV vs x.1 = some x.2 := valV_one nd (p.mem_iff.mp (List.mem_of_getElem? hx))
  rcases KVR.val x.1 r with ⟨z, _⟩ | ⟨v, u, h1, h2, h3⟩
  · rw [z] at hv; cases hv
  · rw [h1] at hv
    cases hv
    show VR H x.2 ((valV kvs x.1).getD .non)
    rw [h2]
    exact h3
theorem kLeK_int (i j : Int) : kLeK (.inl i) (.inl j) = decide (i ≤ j) := by
  unfold kLeK kD
  rw [dataLt_int]
  by_cases h : j < i
  · have h' : ¬ i ≤ j := by omega
    simp [h, h']
  · have h' : i ≤ j := by omega
    simp [h, h']
theorem sort_book {H : Hp} {vs kvs : List (Key × V)} (r : KVR H vs kvs) (w : (Body.dic false kvs).wf) : KVR H (vs.mergeSort kLe) (Body.dic false kvs).shown := by
  obtain ⟨w1, w2, w3⟩ := w
  have hk : vs.map (·.1) = (bkeys kvs).map Sum.inl := (KVR.keys r).trans (bkeys_map w3)
  have pm := List.mergeSort_perm vs kLe
  obtain ⟨ns, p1, p2⟩ := L2.perm_lift (Sum.inl : Int → Key) (pm.map (·.1)) (bkeys kvs) hk.symm
  have srt : ns.Pairwise (· ≤ ·) := by
    have h : ((vs.mergeSort kLe).map (·.1)).Pairwise fun a b : Key => kLeK a b = true := by
      rw [List.pairwise_map]
      exact kLe_srt vs
    rw [← p2, List.pairwise_map] at h
    refine h.imp fun {a b} z => ?_
    rw [kLeK_int] at z
    exact of_decide_eq_true z
  have e := srtI_eq p1 srt
  subst e
  have q := kvr_by r pm (by rw [KVR.keys r]; exact w1) p2.symm
  rw [List.map_map] at q
  exact q
theorem sort_rec {H : Hp} {vs kvs : List (Key × V)} (r : KVR H vs kvs) (w : (Body.dic true kvs).wf) : KVR H (vs.mergeSort kLe) (Body.dic true kvs).shown := by
  have hk : vs.map (·.1) = letK := (KVR.keys r).trans w
  have srt : vs.Pairwise fun p q => kLe p q = true := by
    have h : letK.Pairwise fun a b : Key => kLeK a b = true := by decide +kernel
    rw [← hk, List.pairwise_map] at h
    exact h
  rw [List.mergeSort_of_pairwise srt]
  exact kvr_by r (List.Perm.refl _) (by rw [hk]; decide +kernel) hk
end WB
namespace WK
open PySem PySem.Spec PyProof.Rows L2 He WB PySem.W
section
variable {P : Program} {w : World} {K : PySem.W.Frag} {mg : Str → Option Value} {base : Heap}
/-- all stays, but the table -/
def StpP (H H' : Hp) : Prop := ∀ a o, H a = some o → a ≠ tabP → H' a = some o
theorem StpP.tup {H H' : Hp} (t : LamX.TabS H tabP lamQ) (s : StpP H H') : Tup H H' := by
  obtain ⟨ps, h, _⟩ := t
  exact ⟨fun a xs e => s a _ e (fun z => by rw [z, h] at e; cases e), fun a xs e => s a _ e (fun z => by rw [z, h] at e; cases e)⟩
theorem StpP.of_same {H H' : Hp} (s : Same H H') : StpP H H' := fun a o e _ => s a o e
def spLParts : Sp := fun vs H Q _ => ∃ (a c : Addr) (t : Th), vs = [.ref a] ∧ H a = some (.dK (thD c t)) ∧ HeldAt H c t.body ∧ t.body.wf ∧ LamX.TabS H tabP lamQ ∧
  ∀ r H', StpP H H' → LamX.TabS H' tabP lamQ → H r = none → ShownAt H' r (lparts t.body) → Q (.ref r) H'
theorem kvr_shown {H H' : Hp} {l : Addr} {ts : List Addr} {ys ps : List (Key × V)} (hl : H' l = some (.lst (ts.map V.ref))) (h : Paired (fun (t : Addr) (y : Key × V) => H' t = some (.tup [kV y.1, y.2])) ts ys) (r : KVR H ys ps) (tp : Tup H H') : ShownAt H' l ps :=
  ⟨ts, hl, Paired.comp (fun t q p h1 h2 => ⟨q.2, by rw [← h2.1]; exact h1, VR.mono tp h2.2⟩) h r⟩
theorem alike_ints2 {kvs : List (Key × V)} (h : ∀ p ∈ kvs, ∃ i : Int, p.1 = .inl i) : AllAlike (kvs.map fun p => kD p.1) := by
  intro d hd e he
  obtain ⟨p, hp, rfl⟩ := List.mem_map.mp hd
  obtain ⟨q, hq, rfl⟩ := List.mem_map.mp he
  obtain ⟨i, ei⟩ := h p hp
  obtain ⟨j, ej⟩ := h q hq
  rw [ei, ej]
  simp [kD, alike]
theorem alike_strs2 {kvs : List (Key × V)} (h : ∀ p ∈ kvs, ∃ i : Str, p.1 = .inr i) : AllAlike (kvs.map fun p => kD p.1) := by
  intro d hd e he
  obtain ⟨p, hp, rfl⟩ := List.mem_map.mp hd
  obtain ⟨q, hq, rfl⟩ := List.mem_map.mp he
  obtain ⟨i, ei⟩ := h p hp
  obtain ⟨j, ej⟩ := h q hq
  rw [ei, ej]
  simp [kD, alike]
theorem ok__law_parts (T : Tx w K mg) : DefOk ⟨P, w, K, mg, base⟩ 3 (ga K "_law_parts") ["_law_thing_here"] spLParts := by
  refine DefOk.mkC (p := ("_law_parts", none)) (f__law_parts T) rfl sc__law_parts (fun _ _ _ _ _ _ us hl => match us, hl with | [_], _ => rfl) (fun vs H Q E h => ?_) (fun A outer s H vs Q E hr h => ?_)
  · obtain ⟨a, c, t, rfl, _⟩ := h
    rfl
  · obtain ⟨a, c, t, rfl, ha, hc, wf, tb, k⟩ := h
    have hu := hu_of hr
    refine ⟨_, (pss_cons (ps_if (pt_cmpR op_eq (pe_dget hu (pv 0) pe_str (fun _ _ => rfl)) pe_str (nomark _)) (pss_one (ps_ret (pe_lc (own := [("_law_place", 1)]) (g := (gName 1)) rfl sc__law_parts.nd (pi_range1 rfl (z_range T) (pa_cons (pe_callB call_len_seq (by rfl) (z_len T) PySem.boot_len (pa_cons (pe_dget hu (pv 0) pe_str (fun _ _ => rfl)) pa_nil)) pa_nil)) (blkOk_by (own := [("_law_place", 1)]) (N := ["_law_thing_here", "_law_place"]) (sc := defScope s__law_parts) (by decide +kernel)) (fun _ _ _ _ _ => (pg_name (i := 1) sc__law_parts.nd rfl (Or.inl rfl))) (fun _ _ _ _ _ => by exact pts_nil) (fun _ _ _ _ _ => by exact (pe_tup (pa_cons (pv 1) (pa_cons (pe_ix (ixK rIxL rfl ix_list) (pe_dget hu (pv 0) pe_str (fun _ _ => rfl)) (pv 1) (fun _ _ => rfl)) pa_nil))))))) pss_nil) (pss_one (ps_ret (pe_sortItems (P := tabP) (q := lamQ) (Room.two (k := 0) hr) rfl (pe_dget hu (pv 0) pe_str (fun _ _ => rfl)) (by rfl) (z_sorted T) (fun KX => lamT_ok KX (g___builtins__ T) (x_lam__law_parts T)) rfl rfl)))), ?_⟩
    have dk := DGet.k (k := .inr "kind") ha
    refine ⟨_, rfl, a, .str t.body.kind, rfl, dk, rfl, _, rfl, ?_⟩
    obtain ⟨b, l, g⟩ := t
    cases b with
    | row xs =>
      obtain ⟨vs, hv, r2⟩ := hc
      refine if_t (kd "row" rfl rfl) ?_
      have lx := LVR.length r2
      have wf8 : xs.length ≤ 8 := wf
      refine ⟨_, rfl, a, .ref c, rfl, DGet.k (k := .inr "held") ha, c, vs, rfl, .inl (SqL.of hv), ?_⟩
      refine ⟨_, rfl, by omega, by omega, fun D hD => ?_⟩
      have jn : ((vs.length : Nat) : Int).toNat = vs.length := by omega
      rw [jn]
      refine lc_it walk_range (fun i H' => ShInv H D ((Body.row xs).shown.take i) H') (ShInv.nil (Same.refl _) hD hD) (fun _ _ _ _ => trivial) ?_ ?_
      · rintro i x H1 H2 hi h ⟨rfl, ex⟩
        have ex' : x = .int (i : Int) := by rw [ex]; show V.int (0 + (i : Int)) = _; rw [Int.zero_add]
        subst ex'
        obtain ⟨v, hvi⟩ : ∃ v, vs[i]? = some v := ⟨_, List.getElem?_eq_getElem hi⟩
        obtain ⟨y, hyi⟩ : ∃ y, xs[i]? = some y := ⟨_, List.getElem?_eq_getElem (by omega)⟩
        have rv : VR H v y := by
          rcases Paired.at i r2 with ⟨z, _⟩ | ⟨_, _, e1, e2, e3⟩
          · rw [hvi] at z; cases z
          · rw [hvi] at e1; rw [hyi] at e2
            cases e1; cases e2
            exact e3
        have es : (Body.row xs).shown[i]? = some (.inl (i : Int), y) := by
          show (xs.zipIdx.map fun p => ((.inl (p.2 : Int) : Key), p.1))[i]? = _
          rw [List.getElem?_map, List.getElem?_zipIdx, hyi]
          simp
        refine ⟨rfl, ?_⟩
        refine ⟨_, rfl, _, rfl, a, .ref c, rfl, DGet.k (k := .inr "held") (h.1 _ _ ha), _, rfl, c, vs, (i : Int), v, rfl, rfl, SqL.of (h.1 _ _ hv), ?_, ?_⟩
        · exact atI_nat (j := i) hvi
        · refine ⟨by show 2 ≤ sizeLine; decide, fun q hq => ?_⟩
          obtain ⟨acc, e1, e2, nx⟩ := h.step (k := .inl (i : Int)) hD hq rv
          refine ⟨acc, e1, ?_, ?_⟩
          · rw [e2, List.length_take]; exact szl (by omega)
          · rw [take_snoc es]; exact nx
      · intro H1 h
        refine k D H1 (StpP.of_same h.1) (tb.ext h.1) hD ?_
        have e : (Body.row xs).shown.take vs.length = (Body.row xs).shown := List.take_of_length_le (by show (List.map _ _).length ≤ _; rw [List.length_map, List.length_zipIdx, lx]; exact Nat.le_refl _)
        rw [e] at h
        exact h.2
    | wat s gg =>
      refine if_f (kd "watch" rfl (by decide)) ?_
      refine ⟨_, rfl, a, .ref c, rfl, DGet.k (k := .inr "held") ha, c, [], rfl, hc, (by intro d hd; cases hd), tb, fun H' p ts st t2 np _ hp hpr => k p H' st t2 np ?_⟩
      exact kvr_shown (ps := []) hp hpr (by rw [List.mergeSort_nil]; exact .nil) (StpP.tup tb st)
    | dic rr kvs =>
      obtain ⟨vs, hv, r2⟩ := hc
      cases rr with
      | true =>
        refine if_f (kd "record" rfl (by decide)) ?_
        refine ⟨_, rfl, a, .ref c, rfl, DGet.k (k := .inr "held") ha, c, vs, rfl, hv, alike_strs2 (fun p hp => ?_), tb, fun H' p ts st t2 np _ hp hpr => k p H' st t2 np ?_⟩
        · have hk : vs.map (·.1) = letK := (KVR.keys r2).trans wf
          have hm : p.1 ∈ letK := hk ▸ List.mem_map_of_mem (f := (·.1)) hp
          rw [← letsK] at hm
          obtain ⟨s, _, e⟩ := List.mem_map.mp hm
          exact ⟨s, e.symm⟩
        · exact kvr_shown hp hpr (sort_rec r2 wf) (StpP.tup tb st)
      | false =>
        refine if_f (kd "book" rfl (by decide)) ?_
        refine ⟨_, rfl, a, .ref c, rfl, DGet.k (k := .inr "held") ha, c, vs, rfl, hv, alike_ints2 (fun p hp => ?_), tb, fun H' p ts st t2 np _ hp hpr => k p H' st t2 np ?_⟩
        · have hk : p.1 ∈ kvs.map (·.1) := (KVR.keys r2) ▸ List.mem_map_of_mem (f := (·.1)) hp
          obtain ⟨q, hq, e⟩ := List.mem_map.mp hk
          obtain ⟨i, ei, _⟩ := wf.2.2 q hq
          exact ⟨i, by rw [← e, ei]⟩
        · exact kvr_shown hp hpr (sort_book r2 wf) (StpP.tup tb st)
end
end WK
namespace WK
open PySem PySem.Spec PyProof.Rows L2 He WB PySem.W
section
variable {P : Program} {w : World} {K : PySem.W.Frag} {mg : Str → Option Value} {base : Heap}
theorem StpP.refl (H : Hp) : StpP H H := fun _ _ e _ => e
theorem StpP.trans {H H1 H2 : Hp} (a : StpP H H1) (b : StpP H1 H2) : StpP H H2 := fun x o e n => b x o (a x o e n) n
theorem StpP.mut {H H1 : Hp} {a : Addr} {o : HO} (s : StpP H H1) (h : H a = none) : StpP H (upd H1 a o) := fun x u e n => by
  rw [upd_ne (ne_of_none e h)]; exact s x u e n
theorem LawX.stpP {H H' : Hp} {m n l : Addr} {S : Sta} {O : List Addr} {A C : Nat → Addr} (s : StpP H H') (tb : LamX.TabS H' tabP lamQ) (X : LawX H m S O n l A C) : LawX H' m S O n l A C := by
  obtain ⟨vs, e1, e2, e3, e4, e5, e6, e7⟩ := X
  have tp : Tup H H' := StpP.tup e7.tb s
  have nt : ∀ {a u}, H a = some u → (∀ ps, u ≠ .tbl ps) → H' a = some u := fun {a u} e h => s a u e (e7.ntab e h).symm
  refine ⟨vs, nt e1 (fun _ z => by cases z), nt e2 (fun _ z => by cases z), KVR.mono tp e3, nt e4 (fun _ z => by cases z), fun j hj => ⟨nt (e5 j hj).1 (fun _ z => by cases z), ?_⟩, e6, ⟨e7.m, e7.n, e7.l, e7.a, e7.c, fun a ha => ?_, e7.tO, tb⟩⟩
  · obtain ⟨o, h1, _, h3⟩ := (e5 j hj).2.some
    exact (e5 j hj).2.mono tp ((nt h1 h3).trans h1.symm)
  · by_cases z : a = tabP
    · obtain ⟨ps, h, _⟩ := tb
      rw [z, h]; intro q; cases q
    · cases q : H a with
      | none => exact absurd q (e7.tr a ha)
      | some u => rw [s a u q z]; intro q; cases q
/-- [v[1] ... if isinstance(v, tuple)], one turn -/
theorem num_of {K : PySem.W.Frag} {σ : L2.St} {H : Hp} {v y : V} {Y : V → Hp → Prop} {N : Hp → Prop} (h3 : σ[3]? = some (some v)) (r : VR H v y) (yes : ∀ j : Nat, y = .ref j → Y (.int (j : Int)) H) (no : (∀ j, y ≠ .ref j) → N H) :
    tB (tCB (rIsi K) (tCons (tVar 3) (tCons (tC (V.ty "tuple")) tNil))) σ H fun b H3 => if b = true then tOp (rIxT K) (tVar 3) (tC (V.int 1)) σ H3 Y else N H3 := by
  rcases r.cases with ⟨rfl, rfl⟩ | ⟨i, rfl, rfl⟩ | ⟨b, j, rfl, rfl, e⟩
  · exact ⟨_, h3, _, _, _, _, _, rfl, .ty _, .base .non, kit_ty (r := false) (by decide +kernel), _, rfl, if_f rfl (no (by intro j z; cases z))⟩
  · exact ⟨_, h3, _, _, _, _, _, rfl, .ty _, .base (.int i), kit_ty (r := false) (by decide +kernel), _, rfl, if_f rfl (no (by intro j z; cases z))⟩
  · exact ⟨_, h3, _, _, _, _, _, rfl, .ty _, .base (.tup e), kit_ty (r := true) (by decide +kernel), _, rfl, if_t rfl ⟨_, h3, b, _, 1, _, rfl, rfl, SqT.of e, atI_nat (j := 1) rfl, yes j rfl⟩⟩
/-- the numbers gathered so far, and one value more -/
theorem nums_step {H1 H : Hp} {W : Addr} {xs : List V} {i : Nat} {y : V} (hy : xs[i]? = some y) (s : Same H1 H) (nW : H1 W = none) (g : H W = some (.lst (nV (refs (xs.take i))))) (l : xs.length ≤ 800) :
    (∀ j : Nat, y = .ref j → ∃ acc, H W = some (.lst acc) ∧ acc.length < sizeLine ∧ Same H1 (upd H W (.lst (acc ++ [.int (j : Int)]))) ∧ upd H W (.lst (acc ++ [.int (j : Int)])) W = some (.lst (nV (refs (xs.take (i + 1)))))) ∧
    ((∀ j, y ≠ .ref j) → Same H1 H ∧ H W = some (.lst (nV (refs (xs.take (i + 1)))))) := by
  have nx : refs (xs.take (i + 1)) = refs (xs.take i) ++ refs [y] := by rw [take_snoc hy, refs_app]
  have ll : (refs (xs.take i)).length ≤ 800 := Nat.le_trans (List.length_filterMap_le _ _) (by rw [List.length_take]; omega)
  refine ⟨fun j e => ⟨_, g, szl (by unfold nV; rw [List.length_map]; omega), same_mut s nW, ?_⟩, fun h => ⟨s, ?_⟩⟩
  · subst e
    rw [nx, upd_same]
    unfold nV
    rw [List.map_append]
    rfl
  · rw [nx, g]
    have : refs [y] = [] := by
      cases y with
      | ref j => exact absurd rfl (h j)
      | _ => rfl
    rw [this, List.append_nil]
theorem in_nV {s : Nat} : ∀ {ks : List Nat}, inV (.int (s : Int)) (nV ks) = decide (s ∈ ks)
  | [] => rfl
  | k :: r => by
    show (((k : Int) == (s : Int)) || inV (.int (s : Int)) (nV r)) = _
    rw [in_nV]
    by_cases e : s = k
    · subst e
      rw [beq_self_eq_true, decide_eq_true List.mem_cons_self]; rfl
    · have h : ((k : Int) == (s : Int)) = false := beq_eq_false_iff_ne.mpr fun z => e (Int.ofNat.inj z).symm
      rw [h, Bool.false_or]
      by_cases q : s ∈ r
      · rw [decide_eq_true q, decide_eq_true (List.mem_cons_of_mem _ q)]
      · rw [decide_eq_false q, decide_eq_false fun z => (List.mem_cons.mp z).elim e q]
theorem lheld (b : Body) : refs ((lparts b).map (·.2)) = b.held := by
  cases b <;> rfl
theorem lparts_len {b : Body} (w : b.wf) : (lparts b).length ≤ 8 := by
  cases b with
  | wat s g => exact Nat.zero_le _
  | row xs => exact Body.shown_len w
  | dic r kvs => exact Body.shown_len w
theorem sorted_nat {F : List Nat} {ns : List Int} (nd : F.Nodup) (p : ns.Perm (F.map fun (k : Nat) => (k : Int))) (s : ns.Pairwise (· ≤ ·)) : ∃ ks : List Nat, ns.map V.int = nV ks ∧ ks.Pairwise (· < ·) ∧ ∀ k, k ∈ ks ↔ k ∈ F := by
  obtain ⟨ks, h1, h2⟩ := L2.perm_lift (fun (k : Nat) => (k : Int)) p F rfl
  refine ⟨ks, by rw [← h2]; unfold nV; rw [List.map_map]; rfl, ?_, fun k => h1.mem_iff⟩
  rw [← h2, List.pairwise_map] at s
  have nk : ks.Nodup := h1.nodup_iff.mpr nd
  have key := List.Pairwise.and s nk
  exact key.imp fun {x y} h => by omega
theorem kvr_vals {H : Hp} : ∀ {vs kvs : List (Key × V)}, KVR H vs kvs → LVR H (vs.map (·.2)) (kvs.map (·.2))
  | _, _, .nil => .nil
  | _, _, .cons r t => .cons r.2 (kvr_vals t)
def spLWalk : Sp := fun vs H Q _ => ∃ (m a : Addr) (S : Sta) (O : List Addr) (n l : Addr) (A C : Nat → Addr) (vs0 vt : List V), vs = [.ref m, .ref a] ∧ LawX H m S O n l A C ∧ WB.Ok S ∧ S.made ≤ 790 ∧ H a = some (.lst vs0) ∧ LVR H vs0 vt ∧ vs0.length ≤ 800 ∧ (∀ k, Rch (heldS S) (fun _ => True) (refs vt) k → KeptA S k) ∧
  ∀ r H' ks, StpP H H' → LawX H' m S O n l A C → H r = none → H' r = some (.lst (nV ks)) → ks.Pairwise (· < ·) → (∀ k, k ∈ ks ↔ Rch (heldS S) (fun _ => True) (refs vt) k) → Q (.ref r) H'
def WalkW (H : Hp) (m a : Addr) (vt : List V) (S : Sta) (O : List Addr) (n l : Addr) (A C : Nat → Addr) (D W : Addr) (z : Nat) (σ : L2.St) (H' : Hp) : Prop :=
  ∃ (F Wt : List Nat) (x3 x5 x6 x7 : Option V), σ = [some (.ref m), some (.ref a), some (.ref D), x3, some (.ref W), x5, x6, x7] ∧ StpP H H' ∧ LawX H' m S O n l A C ∧ H' D = some (.lst (nV F)) ∧ H' W = some (.lst (nV Wt)) ∧
    Seek (heldS S) (fun _ => True) (refs vt) F Wt ∧ Wt.length ≤ 1000 + 8 * F.length ∧ z = 9 * (S.made - F.length) + Wt.length
theorem ok__law_walk (T : Tx w K mg) : DefOk ⟨P, w, K, mg, base⟩ 4 (ga K "_law_walk") ["_law_m", "_law_values"] spLWalk := by
  refine DefOk.mk' (f__law_walk T) sc__law_walk (fun _ _ _ _ _ _ us hl => match us, hl with | [_, _], _ => rfl) (fun vs H Q E h => ?_) (fun cdv A outer s H vs Q E hr h => ?_)
  · obtain ⟨m, a, S, O, n, l, A', C', vs0, vt, rfl, _⟩ := h
    rfl
  · obtain ⟨m, a, S, O, n, l, A', C', vs0, vt, rfl, X, ok, hm, ha, hv, l8, kep, k⟩ := h
    have hu := hu_of hr
    refine ⟨_, (pss_cons (ps_set (i := 2) sc__law_walk.nd rfl (Or.inl rfl) (pe_lst pa_nil)) (pss_cons (ps_setLc (i := 4) (own := [("_law_value", 3)]) (g := (gName 3)) rfl sc__law_walk.nd rfl rfl (sw_true rfl rfl rfl (by decide +kernel)) (pi_list (pv 1)) (blkOk_by (own := [("_law_value", 3)]) (N := ["_law_m", "_law_values", "_law_found", "_law_value", "_law_left", "_law_number", "_law_parts_here", "_law_part_here"]) (sc := defScope s__law_walk) (by decide +kernel)) (fun _ _ _ _ _ => (pg_name (i := 3) sc__law_walk.nd rfl (Or.inl rfl))) (fun _ _ _ _ _ => by exact (pts_one (pt_val (pe_callB (cbK rIsi (K := K) rfl call_isi) (by rfl) (z_isinstance T) (by decide +kernel) (pa_cons (pv 3) (pa_cons (pe_bltn (v := .ty "tuple") (by rfl) (z_tuple T) (by decide +kernel) rfl) pa_nil)))))) (fun _ _ _ _ _ => by exact (pe_ix (ixK rIxT rfl ix_tup) (pv 3) pe_int (fun _ _ => rfl)))) (pss_cons (ps_while PassesOwn.never (pt_cmpR (op_neD hr.units) (pv 4) (pe_lst pa_nil) (nomark _)) (pss_cons (ps_set (i := 5) sc__law_walk.nd rfl (Or.inl rfl) (pe_bm0 PySem.F.plainAttrs_list PySem.F.slot_list_pop PySem.F.type_list_pop mt_pop (pv 4))) (pss_one (ps_if (pt_cmpR op_notIn_seq (pv 5) (pv 2) (by rfl)) (pss_cons (ps_expr (pe_bm PySem.F.plainAttrs_list PySem.F.slot_list_append PySem.F.type_list_append mt_append (pv 2) (pa_cons (pv 5) pa_nil))) (pss_cons (ps_set (i := 6) sc__law_walk.nd rfl (Or.inl rfl) (pe_cg (M := ⟨P, w, K, mg, base⟩) rfl hr rfl (pa_cons (pe_ix ix_list (pe_dget hu (pv 0) pe_str (fun _ _ => rfl)) (pv 5) (fun _ _ => rfl)) pa_nil))) (pss_one (ps_expr (pe_bm PySem.F.plainAttrs_list PySem.F.slot_list_extend PySem.F.type_list_extend mt_extend (pv 4) (pa_cons (pe_lc (own := [("_law_part_here", 7), ("_law_value", 3)]) (g := (gTup K 2 (gCons (gName 7) (gCons (gName 3) gNil)))) rfl sc__law_walk.nd (pi_list (pv 6)) (blkOk_by (own := [("_law_part_here", 7), ("_law_value", 3)]) (N := ["_law_m", "_law_values", "_law_found", "_law_value", "_law_left", "_law_number", "_law_parts_here", "_law_part_here"]) (sc := defScope s__law_walk) (by decide +kernel)) (fun _ _ _ _ _ => (pg_tupK (K := K) rfl rfl (pgs_cons (pg_name (i := 7) sc__law_walk.nd rfl (Or.inl rfl)) (pgs_cons (pg_name (i := 3) sc__law_walk.nd rfl (Or.inl rfl)) pgs_nil)))) (fun _ _ _ _ _ => by exact (pts_one (pt_val (pe_callB (cbK rIsi (K := K) rfl call_isi) (by rfl) (z_isinstance T) (by decide +kernel) (pa_cons (pv 3) (pa_cons (pe_bltn (v := .ty "tuple") (by rfl) (z_tuple T) (by decide +kernel) rfl) pa_nil)))))) (fun _ _ _ _ _ => by exact (pe_ix (ixK rIxT rfl ix_tup) (pv 3) pe_int (fun _ _ => rfl)))) pa_nil)))))) pss_nil)))) (pss_one (ps_ret (pe_callB cr_sortedI (by rfl) (z_sorted T) (by decide +kernel) (pa_cons (pv 2) pa_nil))))))), ?_⟩
    refine ⟨by show 0 ≤ sizeLine; decide, fun D hD => ?_⟩
    have s0 : Same H (upd H D (.lst [])) := same_new hD
    refine ⟨_, rfl, a, rfl, ⟨_, SqL.of (s0 _ _ ha)⟩, fun W hW => ?_⟩
    have hW0 : H W = none := s0.free hW
    have nDW : D ≠ W := fun e => by rw [← e, upd_same] at hW; cases hW
    have hxs : vs0.length = vt.length := LVR.length hv
    refine lc_list (K := K) (a := a) (xs := vs0) (fun i H' => Same (upd H D (.lst [])) H' ∧ H' W = some (.lst (nV (refs (vt.take i))))) ⟨same_new hW, upd_same⟩ (fun i H' _ h => SqL.of (h.1 _ _ (s0 _ _ ha))) ?_ ?_
    · rintro i x H1 hi ⟨s1, g1⟩
      obtain ⟨y, hy, ry⟩ : ∃ y, vt[i]? = some y ∧ VR H x y := by
        rcases Paired.at i hv with ⟨z, _⟩ | ⟨_, y, e1, e2, e3⟩
        · rw [hi] at z; cases z
        · rw [hi] at e1; cases e1
          exact ⟨y, e2, e3⟩
      obtain ⟨q1, q2⟩ := nums_step hy s1 hW g1 (by omega)
      exact ⟨rfl, num_of rfl (VR.mono ((Same.tup s0).trans (Same.tup s1)) ry) q1 q2⟩
    · rintro H1 ⟨s1, g1⟩
      rw [hxs, List.take_length] at g1
      have hD1 : H1 D = some (.lst (nV [])) := s1 _ _ upd_same
      have sF : Same H H1 := s0.trans s1
      refine ⟨WalkW H m a vt S O n l A' C' D W, ⟨_, [], refs vt, _, none, none, none, rfl, StpP.of_same sF, X.same sF, hD1, g1, Seek.init, ?_, rfl⟩, ?_⟩
      · have : (refs vt).length ≤ 800 := Nat.le_trans (List.length_filterMap_le _ _) (by rw [← hxs]; exact l8)
        show (refs vt).length ≤ 1000 + 0
        omega
      · rintro z σ H2 ⟨F, Wt, x3, x5, x6, x7, rfl, st, Y, f1, f2, sk, lw, rfl⟩
        refine ⟨_, rfl, by show 0 ≤ sizeLine; decide, fun Z hZ => ?_⟩
        have s2 : Same H2 (upd H2 Z (.lst [])) := same_new hZ
        have ej : nV Wt = (Wt.map fun (k : Nat) => (k : Int)).map V.int := by unfold nV; rw [List.map_map]; rfl
        have ge2 := s2 _ _ f2
        rw [ej] at ge2
        refine ⟨_, _, .lst (SqL.of ge2) (ints_dp _), .lst (SqL.of upd_same) .nil, ints_shaped _, ints_shaped [], _, rfl, ?_⟩
        rw [ints_nil]
        rcases List.eq_nil_or_concat Wt with rfl | ⟨W', x', rfl⟩
        · refine if_f rfl ?_
          have eF : nV F = (F.map fun (k : Nat) => (k : Int)).map V.int := by unfold nV; rw [List.map_map]; rfl
          have f1z := s2 _ _ f1
          rw [eF] at f1z
          refine ⟨_, rfl, D, _, rfl, SqL.of f1z, fun ns' p hp hs np => ?_⟩
          obtain ⟨ks, k1, k2, k3⟩ := sorted_nat sk.nd hp hs
          rw [k1]
          have s3 : Same (upd H2 Z (.lst [])) (upd (upd H2 Z (.lst [])) p (.lst (nV ks))) := same_new np
          have st3 := (st.trans (StpP.of_same s2)).trans (StpP.of_same s3)
          refine k p _ ks st3 ((Y.same s2).same s3) ?_ upd_same k2 fun j => (k3 j).trans (sk.done j)
          cases q : H p with
          | none => rfl
          | some o =>
            by_cases zt : p = tabP
            · obtain ⟨_, _, _, _, _, _, _, y7⟩ := id (Y.same s2)
              obtain ⟨ps, e, _⟩ := y7.tb
              rw [zt, e] at np
              cases np
            · have := (st.trans (StpP.of_same s2)) p o q zt
              rw [np] at this
              cases this
        rw [List.concat_eq_append] at *
        have hne : (!((W' ++ [x']).map fun (k : Nat) => (k : Int)).isEmpty) = true := by simp
        refine if_t hne ?_
        refine ⟨fun σ' H' => ∃ m', m' < 9 * (S.made - F.length) + (W' ++ [x']).length ∧ WalkW H m a vt S O n l A' C' D W m' σ' H', fun _ _ h => h, ?_⟩
        have lF : F.length ≤ S.made := by
          have := nodup_sub_len (F := F) (am := List.range S.made) sk.nd fun k hk => List.mem_range.mpr (ok.kept_lt (kep k (sk.fr k hk)))
          rwa [List.length_range] at this
        have hx : (nV (W' ++ [x']))[(nV (W' ++ [x'])).length - 1]? = some (.int (x' : Int)) := by simp [nV]
        have hd : (nV (W' ++ [x'])).dropLast = nV W' := by simp [nV]
        rw [List.length_append, List.length_singleton] at lw
        have nZW : W ≠ Z := ne_of_none f2 hZ
        refine ⟨_, rfl, .inl ⟨rfl, _, SqL.of (s2 _ _ f2)⟩, W, _, _, rfl, rfl, s2 _ _ f2, hx, ?_⟩
        rw [hd]
        have st2 : StpP H (upd (upd H2 Z (.lst [])) W (.lst (nV W'))) := (st.trans (StpP.of_same s2)).mut hW0
        have tpW : Tup (upd H2 Z (.lst [])) (upd (upd H2 Z (.lst [])) W (.lst (nV W'))) := tup_upd (by rw [s2 _ _ f2]; intro xs z; cases z; rfl)
        obtain ⟨_, _, _, _, _, _, _, y7⟩ := id Y
        have WO : W ∉ O := fun z => by
          obtain ⟨_, _, _, _, _, _, _, q7⟩ := id X
          exact q7.tr W z hW0
        have DO : D ∉ O := fun z => by
          obtain ⟨_, _, _, _, _, _, _, q7⟩ := id X
          exact q7.tr D z hD
        have Y2 : LawX (upd (upd H2 Z (.lst [])) W (.lst (nV W'))) m S O n l A' C' := (Y.same s2).keep tpW fun b hb => upd_ne (fun z => WO (z ▸ hb))
        have f1' : upd (upd H2 Z (.lst [])) W (.lst (nV W')) D = some (.lst (nV F)) := by rw [upd_ne nDW]; exact s2 _ _ f1
        refine ⟨_, rfl, _, rfl, D, nV F, rfl, .inl (SqL.of f1'), rfl, nats_flat F, _, rfl, ?_⟩
        show if (!(inV (.int (x' : Int)) (nV F))) = true then _ else _
        rw [in_nV]
        by_cases hF : x' ∈ F
        · rw [decide_eq_true hF]
          refine if_f rfl ?_
          refine ⟨_, ?_, F, W', _, _, _, _, rfl, st2, Y2, f1', upd_same, sk.skip (fun z => z.2 hF), by omega, rfl⟩
          rw [List.length_append, List.length_singleton]; omega
        · rw [decide_eq_false hF]
          refine if_t rfl ?_
          have hxm : x' < S.made := ok.kept_lt (kep x' (sk.wr x' (by simp) trivial))
          have lF2 : F.length + 1 ≤ S.made := by
            have := nodup_sub_len (F := F ++ [x']) (am := List.range S.made) (sk.take trivial hF).nd fun k hk => List.mem_range.mpr (ok.kept_lt (kep k ((sk.take trivial hF).fr k hk)))
            rwa [List.length_append, List.length_singleton, List.length_range] at this
          refine ⟨_, rfl, .inl ⟨rfl, _, SqL.of f1'⟩, _, rfl, D, nV F, _, rfl, rfl, f1', szl (by unfold nV; rw [List.length_map]; omega), ?_⟩
          have st3 : StpP H (upd (upd (upd H2 Z (.lst [])) W (.lst (nV W'))) D (.lst (nV (F ++ [x'])))) := st2.mut hD
          have eA : nV F ++ [V.int (x' : Int)] = nV (F ++ [x']) := by unfold nV; rw [List.map_append]; rfl
          rw [eA]
          have tp3 : Tup (upd (upd H2 Z (.lst [])) W (.lst (nV W'))) (upd (upd (upd H2 Z (.lst [])) W (.lst (nV W'))) D (.lst (nV (F ++ [x'])))) := tup_upd (by rw [f1']; intro xs z; cases z; rfl)
          have Y3 := Y2.keep tp3 fun b hb => upd_ne (fun z => DO (z ▸ hb))
          obtain ⟨vs, e1, e2, e3, e4, e5, e6, e7⟩ := id Y3
          have hW3 : upd (upd (upd H2 Z (.lst [])) W (.lst (nV W'))) D (.lst (nV (F ++ [x']))) W = some (.lst (nV W')) := by rw [upd_ne nDW.symm]; exact upd_same
          have hD3 : upd (upd (upd H2 Z (.lst [])) W (.lst (nV W'))) D (.lst (nV (F ++ [x']))) D = some (.lst (nV (F ++ [x']))) := upd_same
          generalize upd (upd (upd H2 Z (.lst [])) W (.lst (nV W'))) D (.lst (nV (F ++ [x']))) = H3 at *
          refine ⟨_, _, _, _, g__law_parts T, ok__law_parts T, by decide, _, rfl, m, .ref l, rfl, DGet.k (k := .inr "things") e1, _, rfl, l, _, (x' : Int), .ref (A' x'), rfl, rfl, SqL.of e4, thL_at hxm, A' x', C' x', S.th x', rfl, (e5 x' hxm).1, (e5 x' hxm).2, ok.wf x' hxm, e7.tb, fun r H4 st4 tb4 nr sh => ?_⟩
          obtain ⟨ts, hr4, hp4⟩ := sh
          have nt3 : ∀ {a u}, H3 a = some u → (∀ ps, u ≠ .tbl ps) → H4 a = some u := fun {a u} e h => st4 a u e (e7.ntab e h).symm
          have hW4 := nt3 hW3 (fun _ z => by cases z)
          have hD4 := nt3 hD3 (fun _ z => by cases z)
          have Y4 := WK.LawX.stpP st4 tb4 Y3
          have lp := lparts_len (ok.wf x' hxm)
          have lt : (ts.map V.ref).length = ((lparts (S.th x').body).map (·.2)).length := by rw [List.length_map, List.length_map]; exact Paired.length hp4
          refine ⟨_, rfl, .inl ⟨rfl, _, SqL.of hW4⟩, _, rfl, r, rfl, ⟨_, SqL.of hr4⟩, fun L hL => ?_⟩
          refine lc_list (K := K) (a := r) (xs := ts.map V.ref) (fun i H' => Same H4 H' ∧ H' L = some (.lst (nV (refs (((lparts (S.th x').body).map (·.2)).take i))))) ⟨same_new hL, upd_same⟩ (fun i H' _ h => SqL.of (h.1 _ _ hr4)) ?_ ?_
          · rintro i x H5 hi ⟨s5, g5⟩
            rw [List.getElem?_map] at hi
            obtain ⟨q, hq, rfl⟩ := Option.map_eq_some_iff.mp hi
            rcases Paired.at i hp4 with ⟨z, _⟩ | ⟨q', pr, e3', e4', u, h5, h6⟩
            · rw [hq] at z; cases z
            rw [hq] at e3'; cases e3'
            obtain ⟨q1, q2⟩ := nums_step (y := pr.2) (by rw [List.getElem?_map, e4']; rfl) s5 hL g5 (by rw [List.length_map]; omega)
            exact ⟨q, _, rfl, SqT.of (s5 _ _ h5), rfl, _, _, rfl, _, _, rfl, rfl, rfl, num_of rfl (VR.mono (Same.tup s5) h6) q1 q2⟩
          · rintro H5 ⟨s5, g5⟩
            rw [lt, List.take_length, lheld] at g5
            have lh := Body.held_len (ok.wf x' hxm)
            have lW : (nV W').length = W'.length := List.length_map _
            have lL : (nV (S.th x').body.held).length = (S.th x').body.held.length := List.length_map _
            have hL0 : H L = none := by
              cases q : H L with
              | none => rfl
              | some o =>
                by_cases zt : L = tabP
                · obtain ⟨ps, e, _⟩ := tb4
                  rw [zt, e] at hL
                  cases hL
                · have := (st3.trans st4) L o q zt
                  rw [hL] at this
                  cases this
            refine ⟨W, L, _, _, rfl, rfl, s5 _ _ hW4, g5, Nat.le_trans (show _ ≤ 20000 by rw [lW, lL]; omega) (by decide), ?_⟩
            have tp6 : Tup H5 (upd H5 W (.lst (nV W' ++ nV (S.th x').body.held))) := tup_upd (by rw [s5 _ _ hW4]; intro xs z; cases z; rfl)
            refine ⟨_, ?_, F ++ [x'], W' ++ (S.th x').body.held, _, _, _, _, rfl, ((st3.trans st4).trans (StpP.of_same s5)).mut hW0, (Y4.same s5).keep tp6 fun b hb => upd_ne (fun z => WO (z ▸ hb)), ?_, ?_, sk.take trivial hF, ?_, rfl⟩
            · rw [List.length_append, List.length_append, List.length_append, List.length_singleton]; omega
            · rw [upd_ne nDW]; exact s5 _ _ hD4
            · unfold nV; rw [List.map_append]; exact upd_same
            · rw [List.length_append, List.length_append, List.length_singleton]; omega
def spLReach : Sp := fun vs H Q _ => ∃ (m : Addr) (S : Sta) (O : List Addr) (n l : Addr) (A C : Nat → Addr), vs = [.ref m] ∧ LawX H m S O n l A C ∧ WB.Ok S ∧ S.made ≤ 790 ∧
  ∀ r H' ks, StpP H H' → LawX H' m S O n l A C → H r = none → H' r = some (.lst (nV ks)) → ks.Pairwise (· < ·) → (∀ k, k ∈ ks ↔ ReachA S k) → Q (.ref r) H'
theorem ok__law_reach (T : Tx w K mg) : DefOk ⟨P, w, K, mg, base⟩ 5 (ga K "_law_reach") ["_law_m"] spLReach := by
  refine DefOk.mk' (f__law_reach T) sc__law_reach (fun _ _ _ _ _ _ us hl => match us, hl with | [_], _ => rfl) (fun vs H Q E h => ?_) (fun cdv A outer s H vs Q E hr h => ?_)
  · obtain ⟨m, S, O, n, l, A', C', rfl, _⟩ := h
    rfl
  · obtain ⟨m, S, O, n, l, A', C', rfl, X, ok, hm, k⟩ := h
    have hu := hu_of hr
    refine ⟨_, (pss_one (ps_ret (pe_cg (M := ⟨P, w, K, mg, base⟩) rfl hr rfl (pa_cons (pv 0) (pa_cons (pe_lc (own := [("_law_name", 1)]) (g := (gName 1)) rfl sc__law_reach.nd (pi_str pe_str) (blkOk_by (own := [("_law_name", 1)]) (N := ["_law_m", "_law_name"]) (sc := defScope s__law_reach) (by decide +kernel)) (fun _ _ _ _ _ => (pg_name (i := 1) sc__law_reach.nd rfl (Or.inl rfl))) (fun _ _ _ _ _ => by exact pts_nil) (fun _ _ _ _ _ => by exact (pe_dget hu (pe_dget hu (pv 0) pe_str (fun _ _ => rfl)) (pv 1) (fun _ _ => rfl)))) pa_nil))))), ?_⟩
    obtain ⟨vs, e1, e2, e3, e4, e5, e6, e7⟩ := id X
    have hv : LVR H (vs.map (·.2)) (S.names.map (·.2)) := kvr_vals e3
    have hks : vs.map (·.1) = nmK := (KVR.keys e3).trans ok.names
    have lv : vs.length = 8 := by
      have := congrArg List.length hks
      rw [List.length_map] at this
      exact this
    refine ⟨_, _, _, _, g__law_walk T, ok__law_walk T, by decide, _, rfl, _, rfl, fun D hD => ?_⟩
    refine lc_it walk_str (fun i H' => Same H H' ∧ H' D = some (.lst ((vs.map (·.2)).take i))) ⟨same_new hD, by rw [upd_same, List.take_zero]⟩ (fun _ _ _ _ => trivial) ?_ ?_
    · rintro i x H1 H2 hi ⟨s1, g1⟩ ⟨rfl, c, hc, rfl⟩
      refine ⟨rfl, ?_⟩
      have ek := nm_at hc
      obtain ⟨p, hp⟩ : ∃ p, vs[i]? = some p := ⟨_, List.getElem?_eq_getElem (by rw [lv]; exact hi)⟩
      have ep : p.1 = (.inr ⟨#[c]⟩ : Key) := by
        have h1 : (vs.map (·.1))[i]? = some p.1 := by rw [List.getElem?_map, hp]; rfl
        have h2 : (nm0.map (·.1))[i]? = some (.inr ⟨#[c]⟩ : Key) := by rw [List.getElem?_map, ek]; rfl
        rw [hks] at h1
        have h3 : nm0.map (·.1) = nmK := by decide +kernel
        rw [h3, h1] at h2
        exact Option.some.inj h2
      have hval : valV vs (.inr ⟨#[c]⟩ : Key) = some p.2 := by
        rw [← ep]
        exact valV_one (by rw [hks]; decide +kernel) (List.mem_of_getElem? hp)
      refine ⟨_, rfl, m, .ref n, rfl, DGet.k (k := .inr "names") (s1 _ _ e1), _, rfl, n, p.2, rfl, (by rw [← hval]; exact DGet.k (k := .inr ⟨#[c]⟩) (s1 _ _ e2)), _, g1, szl (by rw [List.length_take, List.length_map, lv]; omega), same_mut s1 hD, ?_⟩
      rw [upd_same, take_snoc (show (vs.map (·.2))[i]? = some p.2 by rw [List.getElem?_map, hp]; rfl)]
    · rintro H1 ⟨s1, g1⟩
      rw [List.take_of_length_le (by rw [List.length_map, lv]; decide)] at g1
      have hD0 : H D = none := hD
      exact ⟨m, D, S, O, n, l, A', C', _, _, rfl, X.same s1, ok, hm, g1, LVR.mono (Same.tup s1) hv, by rw [List.length_map, lv]; decide, fun k h => ReachA.kept h, fun r H' ks st Y nr hr srt hks => k r H' ks ((StpP.of_same s1).trans st) Y (s1.free nr) hr srt hks⟩
end
end WK
namespace WK
open PySem PySem.Spec PyProof.Rows L2 He WB
section
variable {P : Program} {w : World} {K : PySem.W.Frag} {mg : Str → Option Value} {base : Heap}
theorem thD_gone {c : Addr} {t : Th} {s : Nat} {g : Bool} (eb : t.body = .wat s g) : putK (thD c t) (.inr "gone" : Key) (.bl true) = thD c { t with body := .wat s true } := by
  unfold thD
  rw [eb]; rfl
def spLTell : Sp := fun vs H Q _ => ∃ (m : Addr) (S : Sta) (O : List Addr) (n l : Addr) (A C : Nat → Addr), vs = [.ref m] ∧ LawX H m S O n l A C ∧ WB.Ok S ∧ S.made ≤ 790 ∧
  ∀ r H' ks, Stp O H H' → Tup H H' → H r = none → H' r = some (.lst (nV ks)) → ks.Pairwise (· < ·) → (∀ k, k ∈ ks ↔ ReachA S k) → LawX H' m (S.tellBy (ReachA S)) O n l A C → Q (.ref r) H'
theorem ok__law_tell (T : Tx w K mg) : DefOk ⟨P, w, K, mg, base⟩ 6 (ga K "_law_tell") ["_law_m"] spLTell := by
  refine DefOk.mk' (f__law_tell T) sc__law_tell (fun _ _ _ _ _ _ us hl => match us, hl with | [_], _ => rfl) (fun vs H Q E h => ?_) (fun cdv A outer s H vs Q E hr h => ?_)
  · obtain ⟨m, S, O, n, l, A', C', rfl, _⟩ := h
    rfl
  · obtain ⟨m, S, O, n, l, A', C', rfl, X, ok, hm, k⟩ := h
    have hu := hu_of hr
    refine ⟨_, (pss_cons (ps_set (i := 1) sc__law_tell.nd rfl (Or.inl rfl) (pe_cg (M := ⟨P, w, K, mg, base⟩) rfl hr rfl (pa_cons (pv 0) pa_nil))) (pss_cons (ps_for PassesOwn.never rfl (pi_list (pe_dget hu (pv 0) pe_str (fun _ _ => rfl))) (pg_name (i := 2) sc__law_tell.nd rfl (Or.inl rfl)) (pss_one (ps_if (PW.pt (pw_and (pt_cmpR op_eq (pe_dget hu (pv 2) pe_str (fun _ _ => rfl)) pe_str (nomark _)) (pw_and1 (pt_cmpR op_notIn_seq (pe_dget hu (pv 2) pe_str (fun _ _ => rfl)) (pv 1) (by rfl))))) (pss_one (ps_dput hu (pv 2) pe_str pe_bl rfl)) pss_nil))) (pss_one (ps_ret (pv 1))))), ?_⟩
    refine ⟨_, _, _, _, g__law_reach T, ok__law_reach T, by decide, _, rfl, m, S, O, n, l, A', C', rfl, X, ok, hm, fun r H1 ks st1 X1 nr hr srt hks => ?_⟩
    obtain ⟨_, _, _, _, _, _, _, x7⟩ := id X
    have so1 : Stp O H H1 := fun a o e na => st1 a o e fun z => na (z ▸ x7.tO)
    have tp1 : Tup H H1 := StpP.tup x7.tb st1
    obtain ⟨vs, e1, e2, e3, e4, e5, e6, e7⟩ := id X1
    refine ⟨_, rfl, m, .ref l, rfl, DGet.k (k := .inr "things") e1, _, rfl, ⟨_, SqL.of e4⟩, ?_⟩
    have rO : r ∉ O := fun z => by
      obtain ⟨_, _, _, _, _, _, _, q7⟩ := id X
      exact q7.tr r z nr
    have rng : ∀ i, i < S.made → (List.range S.made)[i]? = some i := fun i hi => List.getElem?_range hi
    have nd : (List.range S.made).Nodup := List.nodup_range
    have lr : (List.range S.made).length = S.made := List.length_range
    refine for_list (K := K) (a := l) (xs := thL A' S.made) (fun i σ H' => ∃ x2, σ = [some (.ref m), some (.ref r), x2] ∧ LawX H' m (S.tellP ks ((List.range S.made).take i)) O n l A' C' ∧ Stp O H1 H' ∧ Tup H1 H')
      ⟨_, rfl, X1.congr rfl rfl (fun k _ => by rw [List.take_zero]; exact tellP_nil k), Stp.refl _ _, Tup.refl _⟩ (fun i σ H' _ ⟨_, _, Y, _⟩ => by obtain ⟨_, _, _, _, y4, _⟩ := Y; exact SqL.of y4) ?_ ?_
    · rintro i x σ H2 hi ⟨x2, rfl, Y, st, tp⟩
      have hi' : i < S.made := by
        have := (List.getElem?_eq_some_iff.mp hi).1
        unfold thL at this
        rwa [List.length_map, lr] at this
      have ex : x = .ref (A' i) := by
        unfold thL at hi
        rw [List.getElem?_map, rng i hi'] at hi
        exact (Option.some.inj hi).symm
      subst ex
      obtain ⟨vs2, f1, f2, f3, f4, f5, f6, f7⟩ := id Y
      have hth : (S.tellP ks ((List.range S.made).take i)).th i = S.th i := if_neg (not_taken nd (rng i hi'))
      obtain ⟨g1, g2⟩ := f5 i hi'
      rw [hth] at g1 g2
      have nxt : (List.range S.made).take (i + 1) = (List.range S.made).take i ++ [i] := take_snoc (rng i hi')
      have stay : tellL ks (S.th i) = S.th i → ∃ x2', ([some (.ref m), some (.ref r), some (V.ref (A' i))] : L2.St) = [some (.ref m), some (.ref r), x2'] ∧ LawX H2 m (S.tellP ks ((List.range S.made).take (i + 1))) O n l A' C' ∧ Stp O H1 H2 ∧ Tup H1 H2 := fun e =>
        ⟨_, rfl, Y.congr rfl rfl (fun j _ => by rw [nxt]; exact tellP_next e j), st, tp⟩
      have dk := DGet.k (k := .inr "kind") g1
      refine ⟨_, rfl, A' i, .str (S.th i).body.kind, rfl, dk, rfl, _, rfl, ?_⟩
      cases eb : (S.th i).body with
      | dic b kvs => exact if_f (by cases b with | false => exact kd "book" rfl (by decide +kernel) | true => exact kd "record" rfl (by decide +kernel)) (stay (tellL_not (by rw [eb]; rfl)))
      | row z => exact if_f (kd "row" rfl (by decide +kernel)) (stay (tellL_not (by rw [eb]; rfl)))
      | wat s g =>
        refine if_t (kd "watch" rfl (by decide +kernel)) ?_
        have etl := tellL_wat (ks := ks) eb
        have hr2 : H2 r = some (.lst (nV ks)) := st _ _ hr rO
        have ds := DGet.k (k := .inr "sees") g1
        rw [show valV (thD (C' i) (S.th i)) (.inr "sees") = some (S.th i).body.lsees from rfl, eb] at ds
        refine ⟨_, rfl, A' i, .int (s : Int), rfl, ds, _, rfl, r, nV ks, rfl, .inl (SqL.of hr2), rfl, nats_flat ks, _, rfl, ?_⟩
        show if (!(inV (.int (s : Int)) (nV ks))) = true then _ else _
        rw [in_nV]
        by_cases hs : s ∈ ks
        · rw [decide_eq_true hs]
          refine if_f rfl (stay ?_)
          rw [etl, decide_eq_true hs, Bool.not_true, Bool.or_false, ← eb]
        · rw [decide_eq_false hs]
          refine if_t rfl ⟨_, rfl, A' i, _, rfl, DPut.k (k := .inr "gone") g1 (szl (by show 6 ≤ 1000; decide)), ?_⟩
          have ep := thD_gone (c := C' i) eb
          rw [ep]
          have hb : HeldAt H2 (C' i) (Body.wat s true) := by rw [eb] at g2; exact g2
          have Y2 := Y.attr (x := { S.th i with body := .wat s true }) hi' hb
          have tp2 : Tup H2 (upd H2 (A' i) (.dK (thD (C' i) { S.th i with body := .wat s true }))) := tup_upd (by rw [g1]; intro xs z; cases z; rfl)
          refine ⟨_, rfl, Y2.congr rfl rfl fun j hj => ?_, st.trans' (Stp.upd (.inl (f7.a i hi'))), tp.trans tp2⟩
          rw [nxt]
          by_cases e : j = i
          · subst e
            rw [setTh_eq]
            show (if j ∈ _ ++ [j] then _ else _) = _
            rw [if_pos (by simp), etl, decide_eq_false hs, Bool.not_false, Bool.or_true]
          · rw [setTh_ne e]
            show (if j ∈ _ ++ [i] then _ else _) = if j ∈ _ then _ else _
            by_cases q : j ∈ (List.range S.made).take i
            · rw [if_pos q, if_pos (List.mem_append_left _ q)]
            · rw [if_neg q, if_neg fun z => (List.mem_append.mp z).elim q fun y => e (List.mem_singleton.mp y)]
    · rintro σ H' ⟨x2, rfl, Y, st, tp⟩
      have hr2 : H' r = some (.lst (nV ks)) := st _ _ hr rO
      refine ⟨_, rfl, k r H' ks (so1.trans' st) (tp1.trans tp) nr hr2 srt hks ?_⟩
      rw [← Sta.tell_eq (R := ReachA S) hks]
      refine Y.congr rfl rfl fun j hj => ?_
      show tellL ks (S.th j) = if j ∈ (List.range S.made).take (thL A' S.made).length then _ else _
      have ll : (thL A' S.made).length = S.made := by unfold thL; rw [List.length_map, lr]
      rw [if_pos (by rw [ll, List.take_of_length_le (Nat.le_of_eq lr)]; exact List.mem_range.mpr hj)]
end
end WK
namespace WK
open PySem PySem.Spec PyProof.Rows L2 He WB
section
variable {P : Program} {w : World} {K : PySem.W.Frag} {mg : Str → Option Value} {base : Heap}
def spLSettle : Sp := fun vs H Q _ => ∃ (m : Addr) (S : Sta) (O : List Addr) (n l : Addr) (A C : Nat → Addr), vs = [.ref m] ∧ LawX H m S O n l A C ∧ WB.Ok S ∧ S.made ≤ 790 ∧
  ∀ r H' ks S', Stp O H H' → Tup H H' → H r = none → H' r = some (.lst (nV ks)) → Settle S ks S' → LawX H' m S' O n l A C → Q (.ref r) H'
def LSet (m : Addr) (S : Sta) (O : List Addr) (n l : Addr) (A C : Nat → Addr) (H : Hp) (z : Nat) (σ : L2.St) (H' : Hp) : Prop :=
  ∃ (S1 : Sta) (ks js : List Nat) (d e : Addr) (x3 x4 x5 : Option V), σ = [some (.ref m), some (.ref d), some (.ref e), x3, x4, x5] ∧ H d = none ∧ H e = none ∧ H' d = some (.lst (nV ks)) ∧ H' e = some (.lst (nV js)) ∧ LawX H' m S1 O n l A C ∧ Stp O H H' ∧ Tup H H' ∧ WB.Ok S1 ∧ S1.made = S.made ∧
    z = (if js = [] then 0 else (duesA S1).length + 1) ∧ (js = [] → Settle S ks S1) ∧ (js ≠ [] → ∀ ks' S', Settle S1 ks' S' → Settle S (ks ++ ks') S') ∧ ks.length + (duesA S1).length ≤ S.made
theorem last_due {t : Lst} : decide (V.str (lstS t) = V.str "due") = (t == .due) := by cases t <;> decide +kernel
theorem thD_done {c : Addr} {t : Th} : putK (thD c t) (.inr "last" : Key) (.str "done") = thD c ⟨t.body, .done, t.goal⟩ := by
  unfold thD
  rfl
def dueP (S : Sta) (rs : List Nat) (k : Nat) : Bool := ((S.th k).last == .due) && !decide (k ∈ rs)
open Classical in
theorem turn_eq {S : Sta} {rs : List Nat} (h : ∀ k, k ∈ rs ↔ ReachA S k) : (List.range S.made).filter (dueP S rs) = turnS S := by
  unfold turnS duesA
  rw [List.filter_filter]
  refine List.filter_congr fun k _ => ?_
  unfold dueP
  rw [Bool.and_comm]
  congr 2
  by_cases q : k ∈ rs
  · rw [decide_eq_true q, decide_eq_true ((h k).mp q)]
  · rw [decide_eq_false q, decide_eq_false fun z => q ((h k).mpr z)]
theorem ok__law_settle (T : Tx w K mg) : DefOk ⟨P, w, K, mg, base⟩ 7 (ga K "_law_settle") ["_law_m"] spLSettle := by
  refine DefOk.mk' (f__law_settle T) sc__law_settle (fun _ _ _ _ _ _ us hl => match us, hl with | [_], _ => rfl) (fun vs H Q E h => ?_) (fun cdv A outer s H vs Q E hr h => ?_)
  · obtain ⟨m, S, O, n, l, A', C', rfl, _⟩ := h
    rfl
  · obtain ⟨m, S, O, n, l, A', C', rfl, X, ok, hm, k⟩ := h
    have hu := hu_of hr
    refine ⟨_, (pss_cons (ps_set (i := 1) sc__law_settle.nd rfl (Or.inl rfl) (pe_lst pa_nil)) (pss_cons (ps_set (i := 2) sc__law_settle.nd rfl (Or.inl rfl) (pe_lst (pa_cons pe_int pa_nil))) (pss_cons (ps_while PassesOwn.never (pt_cmpR (op_neD hr.units) (pv 2) (pe_lst pa_nil) (nomark _)) (pss_cons (ps_set (i := 3) sc__law_settle.nd rfl (Or.inr rfl) (pe_cg (M := ⟨P, w, K, mg, base⟩) rfl hr rfl (pa_cons (pv 0) pa_nil))) (pss_cons (ps_set (i := 4) sc__law_settle.nd rfl (Or.inr rfl) (pe_dget hu (pv 0) pe_str (fun _ _ => rfl))) (pss_cons (ps_setLc (i := 2) (own := [("_law_k", 5)]) (g := (gName 5)) rfl sc__law_settle.nd rfl rfl (sw_true rfl rfl rfl (by decide +kernel)) (pi_range1 rfl (z_range T) (pa_cons (pe_callB call_len_seq (by rfl) (z_len T) PySem.boot_len (pa_cons (pv 4) pa_nil)) pa_nil)) (blkOk_by (own := [("_law_k", 5)]) (N := ["_law_m", "_law_done", "_law_some", "_law_found", "_law_things", "_law_k"]) (sc := defScope s__law_settle) (by decide +kernel)) (fun _ _ _ _ _ => (pg_name (i := 5) sc__law_settle.nd rfl (Or.inl rfl))) (fun _ _ _ _ _ => by exact (pts_one (PW.pt (pw_and (pt_cmpR op_eq (pe_dget hu (pe_ix (ixK rIxL rfl ix_list) (pv 4) (pv 5) (fun _ _ => rfl)) pe_str (fun _ _ => rfl)) pe_str (nomark _)) (pw_and1 (pt_cmpR (opK (fun K => rIn K true) (K := K) rfl op_notIn_seq) (pv 5) (pv 3) (by rfl))))))) (fun _ _ _ _ _ => by exact (pv 5))) (pss_cons (ps_for PassesOwn.never rfl (pi_list (pv 2)) (pg_name (i := 5) sc__law_settle.nd rfl (Or.inl rfl)) (pss_cons (ps_dput hu (pe_ix ix_list (pe_dget hu (pv 0) pe_str (fun _ _ => rfl)) (pv 5) (fun _ _ => rfl)) pe_str pe_str rfl) (pss_one (ps_if (pt_cmpR op_notN (pe_dget hu (pe_ix ix_list (pe_dget hu (pv 0) pe_str (fun _ _ => rfl)) (pv 5) (fun _ _ => rfl)) pe_str (fun _ _ => rfl)) pe_non (nomark _)) (pss_one (ps_dput hu (pe_dget hu (pv 0) pe_str (fun _ _ => rfl)) (pe_dget hu (pe_ix ix_list (pe_dget hu (pv 0) pe_str (fun _ _ => rfl)) (pv 5) (fun _ _ => rfl)) pe_str (fun _ _ => rfl)) (pe_tup (pa_cons pe_str (pa_cons (pv 5) pa_nil))) rfl)) pss_nil)))) (pss_one (ps_set (i := 1) sc__law_settle.nd rfl (Or.inl rfl) (pe_op op_cat (pv 1) (pv 2))))))))) (pss_one (ps_ret (pv 1)))))), ?_⟩
    have XO : ∀ a, H a = none → a ∉ O := fun a ha z => by
      obtain ⟨_, _, _, _, _, _, _, q7⟩ := id X
      exact q7.tr a z ha
    refine ⟨by show 0 ≤ sizeLine; decide, fun d hd => ⟨by show 1 ≤ sizeLine; decide, fun e he => ?_⟩⟩
    have sd : Same H (upd H d (.lst [])) := same_new hd
    have se := sd.trans (same_new (o := .lst [.int 0]) he)
    have e0 := sd.free he
    have nde : d ≠ e := fun z => by rw [← z, upd_same] at he; cases he
    refine ⟨LSet m S O n l A' C' H, ⟨_, S, [], [0], d, e, none, none, none, rfl, hd, e0, by rw [upd_ne nde]; exact upd_same, upd_same, X.same se, Stp.of_same se, Same.tup se, ok, rfl, rfl, (fun z => by cases z), fun _ _ _ z => z, ?_⟩, ?_⟩
    · have := List.length_filter_le (fun k => (S.th k).last == .due) (List.range S.made)
      rw [List.length_range] at this
      show 0 + (List.filter _ _).length ≤ S.made
      omega
    · rintro z σ H1 ⟨S1, ks, js, d, e, x3, x4, x5, rfl, d0, e0, gd, ge, Y, st, tp, ok1, em, rfl, h1, h2, hlen⟩
      refine ⟨_, rfl, by show 0 ≤ sizeLine; decide, fun Z hZ => ?_⟩
      have s2 : Same H1 (upd H1 Z (.lst [])) := same_new hZ
      have ej : nV js = (js.map fun (k : Nat) => (k : Int)).map V.int := by unfold nV; rw [List.map_map]; rfl
      have ge2 := s2 _ _ ge
      rw [ej] at ge2
      refine ⟨_, _, .lst (SqL.of ge2) (ints_dp _), .lst (SqL.of upd_same) .nil, ints_shaped _, ints_shaped [], _, rfl, ?_⟩
      rw [ints_nil]
      cases js with
      | nil =>
        refine if_f rfl ⟨_, rfl, ?_⟩
        exact k d _ ks S1 (st.trans' (Stp.of_same s2)) (tp.trans (Same.tup s2)) d0 (s2 _ _ gd) (h1 rfl) (Y.same s2)
      | cons j0 jr =>
        refine if_t rfl ?_
        have hS := h2 (by intro z; cases z)
        have Y2 := Y.same s2
        refine ⟨fun σ' H' => ∃ z', z' < (duesA S1).length + 1 ∧ LSet m S O n l A' C' H z' σ' H', fun _ _ z => z, ?_⟩
        refine ⟨_, _, _, _, g__law_tell T, ok__law_tell T, by decide, _, rfl, m, S1, O, n, l, A', C', rfl, Y2, ok1, by omega, fun r H3 rs st3 tp3 nr hr srt hrs Y3 => ?_⟩
        have ok3 := ok1.tellBy (R := ReachA S1)
        have ed : duesA (S1.tellBy (ReachA S1)) = duesA S1 := tell_dues
        have er : ∀ k, k ∈ rs ↔ ReachA (S1.tellBy (ReachA S1)) k := fun k => by rw [tell_reach]; exact hrs k
        obtain ⟨S3, eS3⟩ : ∃ S3, S1.tellBy (ReachA S1) = S3 := ⟨_, rfl⟩
        rw [eS3] at Y3 ok3 ed er
        obtain ⟨vs, f1, f2, f3, f4, f5, f6, f7⟩ := id Y3
        refine ⟨_, rfl, m, .ref l, rfl, DGet.k (k := .inr "things") f1, ?_⟩
        refine ⟨_, rfl, l, _, rfl, .inl (SqL.of f4), ?_⟩
        have made3 : S3.made = S1.made := by rw [← eS3]; rfl
        have lthL : (thL A' S3.made).length = S3.made := by unfold thL; rw [List.length_map, List.length_range]
        refine ⟨_, rfl, by rw [lthL]; omega, by rw [lthL]; omega, fun D hD => ?_⟩
        have jn : (((thL A' S3.made).length : Nat) : Int).toNat = S3.made := by rw [lthL]; omega
        rw [jn]
        have rng : ∀ i, i < S3.made → (List.range S3.made)[i]? = some i := fun i hi => List.getElem?_range hi
        refine lc_it walk_range (fun i H' => Same H3 H' ∧ H' D = some (.lst (nV (((List.range S3.made).take i).filter (dueP S3 rs))))) ⟨same_new hD, upd_same⟩ (fun _ _ _ _ => trivial) ?_ ?_
        · rintro i x H4 H5 hi ⟨s4, g4⟩ ⟨rfl, ex⟩
          have ex' : x = .int (i : Int) := by rw [ex]; show V.int (0 + (i : Int)) = _; rw [Int.zero_add]
          subst ex'
          obtain ⟨a5, _⟩ := f5 i hi
          have nxt : ((List.range S3.made).take (i + 1)).filter (dueP S3 rs) = ((List.range S3.made).take i).filter (dueP S3 rs) ++ (if dueP S3 rs i = true then [i] else []) := by
            rw [take_snoc (rng i hi), List.filter_append]
            congr 1
            rw [List.filter_cons]; rfl
          have lenb : (((List.range S3.made).take i).filter (dueP S3 rs)).length ≤ 1000 := Nat.le_trans (List.length_filter_le _ _) (by rw [List.length_take, List.length_range]; omega)
          refine ⟨rfl, ?_⟩
          refine ⟨_, rfl, _, rfl, l, _, (i : Int), .ref (A' i), rfl, rfl, SqL.of (s4 _ _ f4), thL_at hi, A' i, .str (lstS (S3.th i).last), rfl, DGet.k (k := .inr "last") (s4 _ _ a5), rfl, _, rfl, ?_⟩
          have no : dueP S3 rs i = false → Same H3 H5 ∧ H5 D = some (.lst (nV (((List.range S3.made).take (i + 1)).filter (dueP S3 rs)))) := fun h => by
            rw [nxt, h]
            refine ⟨s4, ?_⟩
            rw [g4]
            show _ = some (HO.lst (nV (_ ++ [])))
            rw [List.append_nil]
          cases hdue : ((S3.th i).last == .due) with
          | false => exact if_f (by rw [last_due]; exact hdue) (if_f rfl (no (by unfold dueP; rw [hdue]; rfl)))
          | true =>
            refine if_t (by rw [last_due]; exact hdue) ⟨_, rfl, _, rfl, r, nV rs, rfl, .inl (SqL.of (s4 _ _ hr)), rfl, nats_flat rs, _, rfl, ?_⟩
            show if (!(inV (.int (i : Int)) (nV rs))) = true then _ else _
            rw [in_nV]
            cases q : decide (i ∈ rs) with
            | true => exact if_f rfl (no (by unfold dueP; rw [q, Bool.not_true, Bool.and_false]))
            | false =>
              have yes : dueP S3 rs i = true := by unfold dueP; rw [hdue, q]; rfl
              refine if_t rfl ⟨_, rfl, _, g4, szl (by unfold nV; rw [List.length_map]; exact lenb), same_mut s4 hD, ?_⟩
              rw [nxt, yes, if_pos rfl]
              show upd H5 D _ D = some (HO.lst (nV (_ ++ [i])))
              unfold nV
              rw [List.map_append]
              exact upd_same
        · rintro H4 ⟨s4, g4⟩
          rw [List.take_of_length_le (by rw [List.length_range]; exact Nat.le_refl _), turn_eq er] at g4
          have Y4 := Y3.same s4
          have s34 := s4
          have D3 : H3 D = none := hD
          have st4 : Stp O H H4 := ((st.trans' (Stp.of_same s2)).trans' st3).trans' (Stp.of_same s4)
          have tp4 : Tup H H4 := ((tp.trans (Same.tup s2)).trans tp3).trans (Same.tup s4)
          have st3' : Stp O H H3 := (st.trans' (Stp.of_same s2)).trans' st3
          have DO : D ∉ O := fun z => by
            obtain ⟨_, _, _, _, _, _, _, y7⟩ := id Y3
            exact y7.tr D z hD
          have D0 : H D = none := by
            cases q : H D with
            | none => rfl
            | some o => have := st3' D o q DO; rw [hD] at this; cases this
          have dO : d ∉ O := XO d d0
          have gd4 : H4 d = some (.lst (nV ks)) := s4 _ _ (st3 _ _ (s2 _ _ gd) dO)
          have tnd : (turnS S3).Nodup := (dues_srt.filter _).imp fun h => Nat.ne_of_lt h
          have tdue : ∀ j ∈ turnS S3, j < S3.made ∧ (S3.th j).last = .due := fun j hj => mem_due (List.mem_filter.mp hj).1
          have tok : ∀ i, WB.Ok (((turnS S3).take i).foldl performS S3) := fun i => foldP_ok1 (tnd.sublist (List.take_sublist _ _)) (fun j hj => tdue j (List.mem_of_mem_take hj)) ok3
          refine ⟨_, rfl, _, rfl, ⟨_, SqL.of g4⟩, ?_⟩
          refine for_list (K := K) (a := D) (xs := nV (turnS S3)) (fun i σ H' => ∃ x5', σ = [some (.ref m), some (.ref d), some (.ref D), some (.ref r), some (.ref l), x5'] ∧ LawX H' m (((turnS S3).take i).foldl performS S3) O n l A' C' ∧ Stp O H4 H' ∧ Tup H4 H')
            ⟨_, rfl, Y4, Stp.refl _ _, Tup.refl _⟩ (fun i σ H' _ ⟨_, _, _, st, _⟩ => SqL.of (st _ _ g4 DO)) ?_ ?_
          · rintro i x σ H6 hi ⟨x5', rfl, Y6, st6, tp6⟩
            unfold nV at hi
            rw [List.getElem?_map] at hi
            obtain ⟨j, hj, rfl⟩ := Option.map_eq_some_iff.mp hi
            have hjt : j ∈ turnS S3 := List.mem_of_getElem? hj
            have ok6 := tok i
            have hth : (((turnS S3).take i).foldl performS S3).th j = S3.th j := by rw [foldP_th, if_neg (not_taken tnd hj)]
            have snx : (((turnS S3).take (i + 1)).foldl performS S3) = performS (((turnS S3).take i).foldl performS S3) j := by rw [take_snoc hj, List.foldl_append]; rfl
            have m6 : (((turnS S3).take i).foldl performS S3).made = S3.made := foldP_made
            obtain ⟨S6, eS6⟩ : ∃ S6, ((turnS S3).take i).foldl performS S3 = S6 := ⟨_, rfl⟩
            rw [eS6] at Y6 ok6 hth snx m6
            have hjm : j < S6.made := by rw [m6]; exact (tdue j hjt).1
            obtain ⟨vs6, h1, h2', h3, h4, h5, h6, h7⟩ := id Y6
            obtain ⟨g6, b6⟩ := h5 j hjm
            refine ⟨_, rfl, m, .ref l, rfl, DGet.k (k := .inr "things") h1, _, rfl, l, _, (j : Int), .ref (A' j), rfl, rfl, SqL.of h4, thL_at hjm, A' j, _, rfl, DPut.k (k := .inr "last") g6 (szl (by show 6 ≤ 1000; decide)), ?_⟩
            rw [thD_done]
            have Y7 := Y6.attr (x := ⟨(S6.th j).body, .done, (S6.th j).goal⟩) hjm b6
            have tp7 : Tup H6 (upd H6 (A' j) (.dK (thD (C' j) ⟨(S6.th j).body, .done, (S6.th j).goal⟩))) := tup_upd (by rw [g6]; intro xs z; cases z; rfl)
            have st7 : Stp O H6 (upd H6 (A' j) (.dK (thD (C' j) ⟨(S6.th j).body, .done, (S6.th j).goal⟩))) := Stp.upd (.inl (h7.a j hjm))
            obtain ⟨vs7, k1, k2, k3, k4, k5, k6, k7⟩ := id Y7
            obtain ⟨g7, _⟩ := k5 j hjm
            rw [setTh_eq] at g7
            have dg := DGet.k (k := .inr "goal") g7
            refine ⟨_, rfl, m, .ref l, rfl, DGet.k (k := .inr "things") k1, _, rfl, l, _, (j : Int), .ref (A' j), rfl, rfl, SqL.of k4, thL_at hjm, A' j, (S6.th j).goal, rfl, dg, rfl, _, rfl, ?_⟩
            rcases ok6.gl j hjm with hg | ⟨y, hy, hg⟩
            · have ep : performS S6 j = S6.setTh j ⟨(S6.th j).body, .done, (S6.th j).goal⟩ := by unfold performS; rw [hg]
              refine if_f (by rw [hg]; rfl) ⟨_, rfl, ?_, st6.trans' st7, tp6.trans tp7⟩
              rw [snx, ep]; exact Y7
            · have ep : performS S6 j = (S6.setTh j ⟨(S6.th j).body, .done, (S6.th j).goal⟩).setName y (.ref j) := by unfold performS; rw [hg]
              refine if_t (by rw [hg]; rfl) ⟨_, rfl, by show 2 ≤ sizeLine; decide, fun p hp => ?_⟩
              have s8 := same_new (o := .tup [.str "thing", .int (j : Int)]) hp
              have Y8 := Y7.same s8
              obtain ⟨vs8, n1, n2, n3, n4, n5, n6, n7⟩ := id Y8
              have g8 := s8 _ _ g7
              have hval : valV (thD (C' j) ⟨(S6.th j).body, .done, (S6.th j).goal⟩) (.inr "goal") = some (.str y) := by show some (S6.th j).goal = _; rw [hg]
              have l8 : vs8.length < sizeLine := szl (by rw [KVR.length n3]; show S6.names.length ≤ 1000; rw [ok6.n8]; decide)
              refine ⟨_, rfl, m, .ref n, rfl, DGet.k (k := .inr "names") n1, _, rfl, m, .ref l, rfl, DGet.k (k := .inr "things") n1, _, rfl, l, _, (j : Int), .ref (A' j), rfl, rfl, SqL.of n4, thL_at hjm, A' j, .str y, rfl, (by rw [← hval]; exact DGet.k (k := .inr "goal") g8), n, _, rfl, DPut.k (k := .inr y) n2 l8, ?_⟩
              have tp9 := VR.ntup n2 (o := .dK (putK vs8 (.inr y) (.ref p)))
              refine ⟨_, rfl, ?_, ((st6.trans' st7).trans' (Stp.of_same s8)).trans' (Stp.upd (.inl n7.n)), ((tp6.trans tp7).trans (Same.tup s8)).trans tp9⟩
              rw [snx, ep]
              exact Y8.name (KVR.put (VR.mono tp9 (VR.thing upd_same)) (KVR.mono tp9 n3))
          · rintro σ H6 ⟨x5', rfl, Y6, st6, tp6⟩
            rw [List.take_of_length_le (by unfold nV; rw [List.length_map]; exact Nat.le_refl _)] at Y6
            have gd6 := st6 _ _ gd4 dO
            have gD6 := st6 _ _ g4 DO
            have tl := turn_len (S := S3)
            have lt6 : (turnS S3).length ≤ (duesA S3).length := by omega
            rw [ed] at tl lt6
            refine ⟨_, rfl, _, rfl, d, D, nV ks, nV (turnS S3), rfl, rfl, gd6, gD6, ?_, fun p hp => ?_⟩
            · exact Nat.le_trans (show (nV ks).length + (nV (turnS S3)).length ≤ 20000 by unfold nV; rw [List.length_map, List.length_map]; omega) (by decide)
            have s9 := same_new (o := .lst (nV ks ++ nV (turnS S3))) hp
            have st6' : Stp O H H6 := st4.trans' st6
            have pO : p ∉ O := fun z => by
              obtain ⟨_, _, _, _, _, _, _, y7⟩ := id Y6
              exact y7.tr p z hp
            have p0 : H p = none := by
              cases q : H p with
              | none => rfl
              | some o => have := st6' p o q pO; rw [hp] at this; cases this
            have tnd' := turn_ok ok3
            have cas : turnS S3 = [] ∨ turnS S3 ≠ [] := Classical.em _
            have eT : turnS S3 = turnS (S1.tellBy (ReachA S1)) := by rw [eS3]
            refine ⟨if turnS S3 = [] then 0 else (duesA ((turnS S3).foldl performS S3)).length + 1, ?_, (turnS S3).foldl performS S3, ks ++ turnS S3, turnS S3, p, D, _, _, _, rfl, p0, D0, ?_, ?_, Y6.same s9, st6'.trans' (Stp.of_same s9), (tp4.trans tp6).trans (Same.tup s9), tnd', ?_, rfl, ?_, ?_, ?_⟩
            · split
              · omega
              · rename_i h
                have : 0 < (turnS S3).length := List.length_pos_iff.mpr h
                omega
            · unfold nV; rw [upd_same, List.map_append]
            · exact s9 _ _ gD6
            · rw [foldP_made, made3, em]
            · intro h
              rw [h, List.append_nil]
              have := hS [] S3 (by rw [← eS3]; exact Settle.done (by rw [← eT]; exact h))
              rw [List.append_nil] at this
              exact this
            · intro h ks' S' hs'
              rw [List.append_assoc]
              refine hS _ _ ?_
              subst eS3
              exact Settle.turn h hs'
            · rw [List.length_append]; omega
end
end WK
namespace WK
open PySem PySem.Spec PyProof.Rows L2 He WB
section
variable {P : Program} {w : World} {K : PySem.W.Frag} {mg : Str → Option Value} {base : Heap}
theorem cut_kind {b : Body} {k : Key} (h : b.isWat = false) : (b.cut k).kind = b.kind := by
  cases b with
  | dic r z => cases r <;> rfl
  | row z => rfl
  | wat s g => cases h
theorem cut_lsees {b : Body} {k : Key} (h : b.isWat = false) : (b.cut k).lsees = b.lsees := by
  cases b with
  | dic r z => cases r <;> rfl
  | row z => rfl
  | wat s g => cases h
theorem cut_lgone {b : Body} {k : Key} (h : b.isWat = false) : (b.cut k).lgone = b.lgone := by
  cases b with
  | dic r z => cases r <;> rfl
  | row z => rfl
  | wat s g => cases h
theorem put_kind {b : Body} {k : Key} {v : V} : (b.put k v).kind = b.kind := by
  cases b with
  | row z => show (if keyN k = z.length then Body.row (z ++ [v]) else Body.row (z.set (keyN k) v)).kind = _; split <;> rfl
  | dic r z => cases r <;> rfl
  | wat s g => rfl
theorem put_lsees {b : Body} {k : Key} {v : V} : (b.put k v).lsees = b.lsees := by
  cases b with
  | row z => show (if keyN k = z.length then Body.row (z ++ [v]) else Body.row (z.set (keyN k) v)).lsees = _; split <;> rfl
  | _ => rfl
theorem put_lgone {b : Body} {k : Key} {v : V} : (b.put k v).lgone = b.lgone := by
  cases b with
  | row z => show (if keyN k = z.length then Body.row (z ++ [v]) else Body.row (z.set (keyN k) v)).lgone = _; split <;> rfl
  | _ => rfl
def spLDo (p : Nat → Prop) : Sp := fun vs H Q _ => ∃ (m q : Addr) (S : Sta) (O : List Addr) (n l : Addr) (A C : Nat → Addr) (d : Deed), p d.tag ∧ vs = [.ref m, .ref q] ∧ LawX H m S O n l A C ∧ WB.Ok S ∧ S.made ≤ 780 ∧ DeedAt H q d ∧
  ∀ r H' S' O' A2 C2 told chg, StepR S d S' told chg → Stp O H H' → Tup H H' → Frs O O' H → TRF H O' H' r told → LawX H' m S' O' n l A2 C2 → Q r H'
theorem ok__law_do_part (T : Tx w K mg) : DefOk ⟨P, w, K, mg, base⟩ 2 (ga K "_law_do_part") ["_law_m", "_law_deed_here"] (spLDo fun t => t = 4 ∨ t = 5 ∨ t = 6) := by
  refine DefOk.mk' (f__law_do_part T) sc__law_do_part (fun _ _ _ _ _ _ us hl => match us, hl with | [_, _], _ => rfl) (fun vs H Q E h => ?_) (fun cdv A outer s H vs Q E hr h => ?_)
  · obtain ⟨m, q, S, O, n, l, A', C', d, ht, rfl, _⟩ := h
    rfl
  · obtain ⟨m, q, S, O, n, l, A', C', d, ht, rfl, X, ok, hm, ⟨hd, hq⟩, k⟩ := h
    have hu := hu_of hr
    refine ⟨_, (pss_cons (ps_set (i := 2) sc__law_do_part.nd rfl (Or.inl rfl) (pe_cg (M := ⟨P, w, K, mg, base⟩) rfl hr rfl (pa_cons (pv 0) (pa_cons (pe_ifExp (pt_cmpR op_eq (pe_ix ix_tup (pv 1) pe_int (fun _ _ => rfl)) pe_str (nomark _)) (pe_ix ix_tup (pv 1) pe_int (fun _ _ => rfl)) (pe_ix ix_tup (pv 1) pe_int (fun _ _ => rfl))) pa_nil)))) (pss_cons (ps_set (i := 3) sc__law_do_part.nd rfl (Or.inl rfl) (pe_ifExp (pt_cmpR op_eq (pe_ix ix_tup (pv 1) pe_int (fun _ _ => rfl)) pe_str (nomark _)) (pe_ix ix_tup (pv 1) pe_int (fun _ _ => rfl)) (pe_ix ix_tup (pv 1) pe_int (fun _ _ => rfl)))) (pss_cons (ps_if (pt_cmpR op_isN (pv 2) pe_non (nomark _)) (pss_one (ps_ret pe_str)) pss_nil) (pss_cons (ps_set (i := 4) sc__law_do_part.nd rfl (Or.inl rfl) (pe_ifExp (pt_cmpR op_eq (pe_ix ix_tup (pv 1) pe_int (fun _ _ => rfl)) pe_str (nomark _)) (pe_cg (M := ⟨P, w, K, mg, base⟩) rfl hr rfl (pa_cons (pv 2) (pa_cons (pv 3) pa_nil))) (pe_cg (M := ⟨P, w, K, mg, base⟩) rfl hr rfl (pa_cons (pv 2) (pa_cons (pv 3) pa_nil))))) (pss_cons (ps_if (pt_not (pt_val (pv 4))) (pss_one (ps_ret pe_str)) pss_nil) (pss_cons (ps_if (pt_cmpR op_eq (pe_ix ix_tup (pv 1) pe_int (fun _ _ => rfl)) pe_str (nomark _)) (pss_cons (ps_dput hu (pe_dget hu (pv 0) pe_str (fun _ _ => rfl)) (pe_ix ix_tup (pv 1) pe_int (fun _ _ => rfl)) (pe_or2 (pe_dget hu (pe_dget hu (pv 2) pe_str (fun _ _ => rfl)) (pv 3) (fun _ _ => rfl)) (pe_ix ix_list (pe_dget hu (pv 2) pe_str (fun _ _ => rfl)) (pv 3) (fun _ _ => rfl))) rfl) (pss_one (ps_ret (pe_dget hu (pe_dget hu (pv 0) pe_str (fun _ _ => rfl)) (pe_ix ix_tup (pv 1) pe_int (fun _ _ => rfl)) (fun _ _ => rfl))))) pss_nil) (pss_cons (ps_set (i := 5) sc__law_do_part.nd rfl (Or.inl rfl) (pe_ifExp (pt_cmpR op_eq (pe_ix ix_tup (pv 1) pe_int (fun _ _ => rfl)) pe_str (nomark _)) (pe_dget hu (pe_dget hu (pv 0) pe_str (fun _ _ => rfl)) (pe_ix ix_tup (pv 1) pe_int (fun _ _ => rfl)) (fun _ _ => rfl)) pe_non)) (pss_cons (ps_expr (pe_cg (M := ⟨P, w, K, mg, base⟩) rfl hr rfl (pa_cons (pv 2) (pa_cons (pe_ix ix_tup (pv 1) pe_int (fun _ _ => rfl)) (pa_cons (pv 3) (pa_cons (pv 5) pa_nil)))))) (pss_one (ps_ret pe_non)))))))))), ?_⟩
    obtain ⟨vs, e1, e2, e3, e4, e5, e6, e7⟩ := id X
    have sq := SqT.of (K := K) hq
    cases d <;> try (rcases ht with h | h | h <;> cases h; done)
    case cut x z =>
      obtain ⟨hx, hz⟩ := hd
      have no : stepF S (.cut x z) = (S, noT, none) → ∀ H1, Same H H1 → Q (.str "no") H1 := fun e H1 s1 =>
        k (.str "no") H1 S O A' C' _ _ (StepR.by (fun z => by cases z) e) (Stp.of_same s1) (Same.tup s1) (Frs.refl _ _) ⟨rfl, trivial⟩ (X.same s1)
      refine ⟨_, _, _, _, g__law_thing T, ok__law_thing T, by decide, _, rfl, _, rfl, q, _, 0, .str "cut", rfl, rfl, sq, rfl, rfl, _, rfl, if_f (by decide +kernel) ⟨_, rfl, q, _, 1, .str x, rfl, rfl, sq, rfl, m, S, O, n, l, A', C', x, rfl, X, ok, hx, fun j el => ?_, fun el => ?_⟩⟩
      · have hj := ok.look_lt el
        obtain ⟨a5, b5⟩ := e5 j hj
        refine ⟨_, rfl, q, _, 0, .str "cut", rfl, rfl, sq, rfl, rfl, _, rfl, if_f (by decide +kernel) ⟨_, rfl, q, _, 2, kV z, rfl, rfl, sq, rfl, ?_⟩⟩
        refine ⟨_, rfl, rfl, _, rfl, if_f rfl ?_⟩
        refine ⟨_, rfl, q, _, 0, .str "cut", rfl, rfl, sq, rfl, rfl, _, rfl, if_f (by decide +kernel) ?_⟩
        refine ⟨_, _, _, _, g__law_has T, ok__law_has T, by decide, _, rfl, _, rfl, A' j, C' j, S.th j, z, rfl, a5, b5, ok.wf j hj, fun H1 s1 => ?_⟩
        refine ⟨_, rfl, _, rfl, ?_⟩
        have sq1 := SqT.of (K := K) (s1 _ _ hq)
        cases hf : (S.th j).body.has z with
        | false => exact if_t rfl (no (cut_no' el hf) H1 s1)
        | true =>
          refine if_f rfl ?_
          refine ⟨_, rfl, q, _, 0, .str "cut", rfl, rfl, sq1, rfl, rfl, _, rfl, if_f (by decide +kernel) ?_⟩
          refine ⟨_, rfl, q, _, 0, .str "cut", rfl, rfl, sq1, rfl, rfl, _, rfl, if_f (by decide +kernel) ?_⟩
          have Y := X.same s1
          obtain ⟨_, _, _, _, _, y5, _, y7⟩ := id Y
          obtain ⟨c5, d5⟩ := y5 j hj
          refine ⟨_, _, _, _, g__law_write T, ok__law_write T, by decide, _, rfl, _, rfl, q, _, 0, .str "cut", rfl, rfl, sq1, rfl, _, rfl, _, rfl, ?_⟩
          refine ⟨A' j, C' j, S.th j, z, .non, .non, "cut", rfl, c5, d5, ok.wf j hj, rfl, .inr ⟨rfl, hf, fun o hh => ?_⟩⟩
          obtain ⟨o0, c1, c2, _⟩ := d5.some
          have tp : Tup H1 (upd H1 (C' j) o) := tup_upd (by rw [c1]; intro xs z; cases z; exact c2)
          exact k .non _ _ O A' C' _ _ (StepR.by (fun z => by cases z) (cut_yes el hf)) ((Stp.of_same s1).trans' (Stp.upd (.inl (y7.c j hj)))) ((Same.tup s1).trans tp) (Frs.refl _ _) ⟨rfl, trivial⟩ (Y.cell hj hh (cut_kind (has_notWat hf)) (cut_lsees (has_notWat hf)) (cut_lgone (has_notWat hf)))
      · refine ⟨_, rfl, q, _, 0, .str "cut", rfl, rfl, sq, rfl, rfl, _, rfl, if_f (by decide +kernel) ⟨_, rfl, q, _, 2, kV z, rfl, rfl, sq, rfl, ?_⟩⟩
        exact ⟨_, rfl, rfl, _, rfl, if_t rfl (no (cut_no el) H (Same.refl H))⟩
    case put x z y =>
      obtain ⟨hx, hz, hy⟩ := hd
      have no : stepF S (.put x z y) = (S, noT, none) → ∀ H1, Same H H1 → Q (.str "no") H1 := fun e H1 s1 =>
        k (.str "no") H1 S O A' C' _ _ (StepR.by (fun z => by cases z) e) (Stp.of_same s1) (Same.tup s1) (Frs.refl _ _) ⟨rfl, trivial⟩ (X.same s1)
      refine ⟨_, _, _, _, g__law_thing T, ok__law_thing T, by decide, _, rfl, _, rfl, q, _, 0, .str "put", rfl, rfl, sq, rfl, rfl, _, rfl, if_f (by decide +kernel) ⟨_, rfl, q, _, 1, .str x, rfl, rfl, sq, rfl, m, S, O, n, l, A', C', x, rfl, X, ok, hx, fun j el => ?_, fun el => ?_⟩⟩
      · have hj := ok.look_lt el
        obtain ⟨a5, b5⟩ := e5 j hj
        refine ⟨_, rfl, q, _, 0, .str "put", rfl, rfl, sq, rfl, rfl, _, rfl, if_f (by decide +kernel) ⟨_, rfl, q, _, 2, kV z, rfl, rfl, sq, rfl, ?_⟩⟩
        refine ⟨_, rfl, rfl, _, rfl, if_f rfl ?_⟩
        refine ⟨_, rfl, q, _, 0, .str "put", rfl, rfl, sq, rfl, rfl, _, rfl, if_t (by decide +kernel) ?_⟩
        refine ⟨_, _, _, _, g__law_may T, ok__law_may T, by decide, _, rfl, _, rfl, A' j, C' j, S.th j, z, rfl, a5, b5, ok.wf j hj, fun H1 s1 => ?_⟩
        refine ⟨_, rfl, _, rfl, ?_⟩
        have sq1 := SqT.of (K := K) (s1 _ _ hq)
        cases hf : (S.th j).body.fits z with
        | false => exact if_t rfl (no (put_no' el hf) H1 s1)
        | true =>
          refine if_f rfl ?_
          refine ⟨_, rfl, q, _, 0, .str "put", rfl, rfl, sq1, rfl, rfl, _, rfl, if_f (by decide +kernel) ?_⟩
          have Y := X.same s1
          obtain ⟨_, y1, y2, y3, _, y5, _, y7⟩ := id Y
          obtain ⟨c5, d5⟩ := y5 j hj
          obtain ⟨u, hu2, ru⟩ := KVR.val_some y3 (ok.val hy)
          refine ⟨_, rfl, q, _, 0, .str "put", rfl, rfl, sq1, rfl, rfl, _, rfl, if_t (by decide +kernel) ⟨_, rfl, m, .ref n, rfl, DGet.k (k := .inr "names") y1, _, rfl, q, _, 3, .str y, rfl, rfl, sq1, rfl, n, u, rfl, (by rw [← hu2]; exact DGet.k (k := .inr y) y2), ?_⟩⟩
          refine ⟨_, _, _, _, g__law_write T, ok__law_write T, by decide, _, rfl, _, rfl, q, _, 0, .str "put", rfl, rfl, sq1, rfl, _, rfl, _, rfl, ?_⟩
          refine ⟨A' j, C' j, S.th j, z, u, S.look y, "put", rfl, c5, d5, ok.wf j hj, ru, .inl ⟨rfl, hf, fun o hh => ?_⟩⟩
          obtain ⟨o0, c1, c2, _⟩ := d5.some
          have tp : Tup H1 (upd H1 (C' j) o) := tup_upd (by rw [c1]; intro xs z; cases z; exact c2)
          exact k .non _ _ O A' C' _ _ (StepR.by (fun z => by cases z) (put_yes el hf)) ((Stp.of_same s1).trans' (Stp.upd (.inl (y7.c j hj)))) ((Same.tup s1).trans tp) (Frs.refl _ _) ⟨rfl, trivial⟩ (Y.cell hj hh put_kind put_lsees put_lgone)
      · refine ⟨_, rfl, q, _, 0, .str "put", rfl, rfl, sq, rfl, rfl, _, rfl, if_f (by decide +kernel) ⟨_, rfl, q, _, 2, kV z, rfl, rfl, sq, rfl, ?_⟩⟩
        exact ⟨_, rfl, rfl, _, rfl, if_t rfl (no (put_no el) H (Same.refl H))⟩
    case take x y z =>
      obtain ⟨hx, hy, hz⟩ := hd
      have no : stepF S (.take x y z) = (S, noT, none) → ∀ H1, Same H H1 → Q (.str "no") H1 := fun e H1 s1 =>
        k (.str "no") H1 S O A' C' _ _ (StepR.by (fun z => by cases z) e) (Stp.of_same s1) (Same.tup s1) (Frs.refl _ _) ⟨rfl, trivial⟩ (X.same s1)
      refine ⟨_, _, _, _, g__law_thing T, ok__law_thing T, by decide, _, rfl, _, rfl, q, _, 0, .str "take", rfl, rfl, sq, rfl, rfl, _, rfl, if_t (by decide +kernel) ⟨_, rfl, q, _, 2, .str y, rfl, rfl, sq, rfl, m, S, O, n, l, A', C', y, rfl, X, ok, hy, fun j el => ?_, fun el => ?_⟩⟩
      · have hj := ok.look_lt el
        obtain ⟨a5, b5⟩ := e5 j hj
        refine ⟨_, rfl, q, _, 0, .str "take", rfl, rfl, sq, rfl, rfl, _, rfl, if_t (by decide +kernel) ⟨_, rfl, q, _, 3, kV z, rfl, rfl, sq, rfl, ?_⟩⟩
        refine ⟨_, rfl, rfl, _, rfl, if_f rfl ?_⟩
        refine ⟨_, rfl, q, _, 0, .str "take", rfl, rfl, sq, rfl, rfl, _, rfl, if_f (by decide +kernel) ?_⟩
        refine ⟨_, _, _, _, g__law_has T, ok__law_has T, by decide, _, rfl, _, rfl, A' j, C' j, S.th j, z, rfl, a5, b5, ok.wf j hj, fun H1 s1 => ?_⟩
        refine ⟨_, rfl, _, rfl, ?_⟩
        have sq1 := SqT.of (K := K) (s1 _ _ hq)
        cases hf : (S.th j).body.has z with
        | false => exact if_t rfl (no (take_no' el hf) H1 s1)
        | true =>
          refine if_f rfl ?_
          refine ⟨_, rfl, q, _, 0, .str "take", rfl, rfl, sq1, rfl, rfl, _, rfl, if_t (by decide +kernel) ?_⟩
          have Y := X.same s1
          obtain ⟨vs1, y1, y2, y3, _, y5, _, y7⟩ := id Y
          obtain ⟨c5, d5⟩ := y5 j hj
          have dh := DGet.k (k := .inr "held") c5
          have ls : vs1.length < sizeLine := szl (by rw [KVR.length y3, ok.n8]; decide)
          cases eb : (S.th j).body with
          | wat s g => rw [eb] at hf; cases hf
          | dic r kvs =>
            rw [eb] at d5
            obtain ⟨ws, p1, p2⟩ := d5
            have hs : (valV kvs z).isSome = true := by rw [eb] at hf; exact hf
            obtain ⟨x0, hx0⟩ := Option.isSome_iff_exists.mp hs
            obtain ⟨u, hu2, ru0⟩ := KVR.val_some p2 hx0
            have ea : (S.th j).body.at z = x0 := by rw [eb]; show (valV kvs z).getD .non = x0; rw [hx0]; rfl
            have ru : VR H1 u ((S.th j).body.at z) := by rw [ea]; exact ru0
            refine .inl ⟨_, rfl, A' j, .ref (C' j), rfl, dh, _, rfl, C' j, u, rfl, (by rw [← hu2]; exact DGet.k (k := z) p1), ?_⟩
            have tp9 := VR.ntup y2 (o := .dK (putK vs1 (.inr x) u))
            have Z := Y.name (KVR.put (VR.mono tp9 ru) (KVR.mono tp9 y3))
            obtain ⟨vs2, w1, w2, w3, _⟩ := id Z
            have hv : valV (putK vs1 (.inr x) u) (.inr x) = some u := by rw [valV_put, if_pos rfl]
            have sq2 := SqT.of (K := K) (tp9 _ _ (s1 _ _ hq))
            refine ⟨_, rfl, m, .ref n, rfl, DGet.k (k := .inr "names") y1, _, rfl, q, _, 1, .str x, rfl, rfl, sq1, rfl, n, _, rfl, DPut.k (k := .inr x) y2 ls, ?_⟩
            refine ⟨_, rfl, m, .ref n, rfl, DGet.k (k := .inr "names") w1, _, rfl, q, _, 1, .str x, rfl, rfl, sq2, rfl, n, u, rfl, (by rw [← hv]; exact DGet.k (k := .inr x) upd_same), ?_⟩
            exact k u _ _ O A' C' _ _ (StepR.by (fun z => by cases z) (take_yes el hf)) ((Stp.of_same s1).trans' (Stp.upd (.inl y7.n))) ((Same.tup s1).trans tp9) (Frs.refl _ _) (TRF.of (VR.mono tp9 ru)) Z
          | row xs =>
            rw [eb] at d5
            obtain ⟨ws, p1, p2⟩ := d5
            cases z with
            | inr y => rw [eb] at hf; cases hf
            | inl i =>
              have hf' := of_decide_eq_true (show decide (0 ≤ i ∧ i < (xs.length : Int)) = true from by rw [eb] at hf; exact hf)
              have wl := LVR.len p2
              obtain ⟨u, x0, g1, g2, ru0⟩ : ∃ u x0, ws[i.toNat]? = some u ∧ xs[i.toNat]? = some x0 ∧ VR H1 u x0 := by
                rcases Paired.at i.toNat p2 with ⟨_, z2⟩ | ⟨u, v, z1, z2, z3⟩
                · have : i.toNat < xs.length := by omega
                  rw [List.getElem?_eq_getElem this] at z2; cases z2
                · exact ⟨u, v, z1, z2, z3⟩
              have ea : (S.th j).body.at (.inl i) = x0 := by
                rw [eb]; show xs.getD i.toNat .non = x0; rw [List.getD_eq_getElem?_getD, g2]; rfl
              have ru : VR H1 u ((S.th j).body.at (.inl i)) := by rw [ea]; exact ru0
              have hat : atI ws i = some u := by
                have : ((i.toNat : Nat) : Int) = i := by omega
                rw [← this]; exact atI_nat g1
              refine .inr ⟨_, rfl, A' j, .ref (C' j), rfl, dh, _, rfl, C' j, ws, i, u, rfl, rfl, SqL.of p1, hat, ?_⟩
              have tp9 := VR.ntup y2 (o := .dK (putK vs1 (.inr x) u))
              have Z := Y.name (KVR.put (VR.mono tp9 ru) (KVR.mono tp9 y3))
              obtain ⟨vs2, w1, w2, w3, _⟩ := id Z
              have hv : valV (putK vs1 (.inr x) u) (.inr x) = some u := by rw [valV_put, if_pos rfl]
              have sq2 := SqT.of (K := K) (tp9 _ _ (s1 _ _ hq))
              refine ⟨_, rfl, m, .ref n, rfl, DGet.k (k := .inr "names") y1, _, rfl, q, _, 1, .str x, rfl, rfl, sq1, rfl, n, _, rfl, DPut.k (k := .inr x) y2 ls, ?_⟩
              refine ⟨_, rfl, m, .ref n, rfl, DGet.k (k := .inr "names") w1, _, rfl, q, _, 1, .str x, rfl, rfl, sq2, rfl, n, u, rfl, (by rw [← hv]; exact DGet.k (k := .inr x) upd_same), ?_⟩
              exact k u _ _ O A' C' _ _ (StepR.by (fun z => by cases z) (take_yes el hf)) ((Stp.of_same s1).trans' (Stp.upd (.inl y7.n))) ((Same.tup s1).trans tp9) (Frs.refl _ _) (TRF.of (VR.mono tp9 ru)) Z
      · refine ⟨_, rfl, q, _, 0, .str "take", rfl, rfl, sq, rfl, rfl, _, rfl, if_t (by decide +kernel) ⟨_, rfl, q, _, 3, kV z, rfl, rfl, sq, rfl, ?_⟩⟩
        exact ⟨_, rfl, rfl, _, rfl, if_t rfl (no (take_no el) H (Same.refl H))⟩
end
end WK
namespace WK
open PySem PySem.Spec PyProof.Rows L2 He WB
section
variable {P : Program} {w : World} {K : PySem.W.Frag} {mg : Str → Option Value} {base : Heap}
theorem thD_due {c : Addr} {t : Th} {g : V} : putK (putK (thD c t) (.inr "last" : Key) (.str "due")) (.inr "goal" : Key) g = thD c ⟨t.body, .due, g⟩ := by
  unfold thD
  rfl
theorem kind_wat {b : Body} : decide (V.str b.kind = V.str "watch") = b.isWat := by
  cases b with
  | dic r z => cases r with | false => exact kd (r := false) "book" rfl (by decide +kernel) | true => exact kd (r := false) "record" rfl (by decide +kernel)
  | row z => exact kd (r := false) "row" rfl (by decide +kernel)
  | wat s g => exact kd (r := true) "watch" rfl (by decide +kernel)
theorem newD_sees {c : Addr} {j : Nat} : putK (newD "watch" c) (.inr "sees" : Key) (.int (j : Int)) = thD c ⟨.wat j false, .no, .non⟩ := by
  unfold thD newD
  rfl
theorem at_last {α : Type} {xs : List α} {v : α} : atI (xs ++ [v]) (-1) = some v := by
  unfold atI ixN
  rw [if_neg (by omega), if_pos (by rw [List.length_append, List.length_singleton]; omega)]
  show (xs ++ [v])[(-1 + ((xs ++ [v]).length : Int)).toNat]? = some v
  rw [show (-1 + ((xs ++ [v]).length : Int)).toNat = xs.length by rw [List.length_append, List.length_singleton]; omega]
  simp
theorem last_none {t : Lst} : decide (V.str (lstS t) = V.str "none") = (t == .no) := by cases t <;> decide +kernel
theorem ok__law_do_more (T : Tx w K mg) : DefOk ⟨P, w, K, mg, base⟩ 7 (ga K "_law_do_more") ["_law_m", "_law_deed_here"] (spLDo fun t => t = 7 ∨ t = 8 ∨ t = 9) := by
  refine DefOk.mk' (f__law_do_more T) sc__law_do_more (fun _ _ _ _ _ _ us hl => match us, hl with | [_, _], _ => rfl) (fun vs H Q E h => ?_) (fun cdv A outer s H vs Q E hr h => ?_)
  · obtain ⟨m, q, S, O, n, l, A', C', d, ht, rfl, _⟩ := h
    rfl
  · obtain ⟨m, q, S, O, n, l, A', C', d, ht, rfl, X, ok, hm, ⟨hd, hq⟩, k⟩ := h
    have hu := hu_of hr
    refine ⟨_, (pss_cons (ps_set (i := 2) sc__law_do_more.nd rfl (Or.inl rfl) (pe_cg (M := ⟨P, w, K, mg, base⟩) rfl hr rfl (pa_cons (pv 0) (pa_cons (pe_ifExp (pt_cmpR op_eq (pe_ix ix_tup (pv 1) pe_int (fun _ _ => rfl)) pe_str (nomark _)) (pe_ix ix_tup (pv 1) pe_int (fun _ _ => rfl)) (pe_ix ix_tup (pv 1) pe_int (fun _ _ => rfl))) pa_nil)))) (pss_cons (ps_if (pt_cmpR op_isN (pv 2) pe_non (nomark _)) (pss_one (ps_ret pe_str)) pss_nil) (pss_cons (ps_if (pt_cmpR op_eq (pe_ix ix_tup (pv 1) pe_int (fun _ _ => rfl)) pe_str (nomark _)) (pss_cons (ps_if (PW.pt (pw_or (pt_cmpR op_eq (pe_dget hu (pv 2) pe_str (fun _ _ => rfl)) pe_str (nomark _)) (pw_or1 (pt_cmpR op_ne (pe_dget hu (pv 2) pe_str (fun _ _ => rfl)) pe_str (nomark _))))) (pss_one (ps_ret pe_str)) pss_nil) (pss_cons (ps_dput hu (pv 2) pe_str pe_str rfl) (pss_cons (ps_dput hu (pv 2) pe_str (pe_ix ix_tup (pv 1) pe_int (fun _ _ => rfl)) rfl) (pss_one (ps_ret pe_non))))) pss_nil) (pss_cons (ps_if (pt_cmpR op_eq (pe_ix ix_tup (pv 1) pe_int (fun _ _ => rfl)) pe_str (nomark _)) (pss_cons (ps_set (i := 3) sc__law_do_more.nd rfl (Or.inl rfl) (pe_ix ix_tup (pe_dget hu (pe_dget hu (pv 0) pe_str (fun _ _ => rfl)) (pe_ix ix_tup (pv 1) pe_int (fun _ _ => rfl)) (fun _ _ => rfl)) pe_int (fun _ _ => rfl))) (pss_cons (ps_dput hu (pe_dget hu (pv 0) pe_str (fun _ _ => rfl)) (pe_ix ix_tup (pv 1) pe_int (fun _ _ => rfl)) (pe_cg (M := ⟨P, w, K, mg, base⟩) rfl hr rfl (pa_cons (pv 0) (pa_cons pe_str pa_nil))) rfl) (pss_one (ps_dput hu (pe_ix ix_list (pe_dget hu (pv 0) pe_str (fun _ _ => rfl)) (pe_un un_neg pe_int) (fun _ _ => rfl)) pe_str (pv 3) rfl)))) (pss_cons (ps_if (pt_cmpR op_ne (pe_dget hu (pv 2) pe_str (fun _ _ => rfl)) pe_str (nomark _)) (pss_one (ps_ret pe_str)) pss_nil) (pss_cons (ps_expr (pe_cg (M := ⟨P, w, K, mg, base⟩) rfl hr rfl (pa_cons (pv 0) pa_nil))) (pss_one (ps_dput hu (pe_dget hu (pv 0) pe_str (fun _ _ => rfl)) (pe_ix ix_tup (pv 1) pe_int (fun _ _ => rfl)) (pe_ifExp (pt_val (pe_dget hu (pv 2) pe_str (fun _ _ => rfl))) pe_non (pe_tup (pa_cons pe_str (pa_cons (pe_dget hu (pv 2) pe_str (fun _ _ => rfl)) pa_nil)))) rfl))))) (pss_one (ps_ret (pe_dget hu (pe_dget hu (pv 0) pe_str (fun _ _ => rfl)) (pe_ix ix_tup (pv 1) pe_int (fun _ _ => rfl)) (fun _ _ => rfl)))))))), ?_⟩
    obtain ⟨vs, e1, e2, e3, e4, e5, e6, e7⟩ := id X
    have sq := SqT.of (K := K) hq
    cases d <;> try (rcases ht with h | h | h <;> cases h; done)
    case last x g =>
      obtain ⟨hx, hg⟩ := hd
      have no : stepF S (.last x g) = (S, noT, none) → Q (.str "no") H := fun e =>
        k (.str "no") H S O A' C' _ _ (StepR.by (fun z => by cases z) e) (Stp.refl _ _) (Tup.refl _) (Frs.refl _ _) ⟨rfl, trivial⟩ X
      refine ⟨_, _, _, _, g__law_thing T, ok__law_thing T, by decide, _, rfl, _, rfl, q, _, 0, .str "last", rfl, rfl, sq, rfl, rfl, _, rfl, if_t (by decide +kernel) ⟨_, rfl, q, _, 1, .str x, rfl, rfl, sq, rfl, m, S, O, n, l, A', C', x, rfl, X, ok, hx, fun j el => ?_, fun el => ?_⟩⟩
      · have hj := ok.look_lt el
        obtain ⟨a5, b5⟩ := e5 j hj
        refine ⟨_, rfl, rfl, _, rfl, if_f rfl ?_⟩
        refine ⟨_, rfl, q, _, 0, .str "last", rfl, rfl, sq, rfl, rfl, _, rfl, if_t (by decide +kernel) ?_⟩
        refine ⟨_, rfl, A' j, .str (S.th j).body.kind, rfl, DGet.k (k := .inr "kind") a5, rfl, _, rfl, ?_⟩
        cases hw : (S.th j).body.isWat with
        | true => exact if_t (by rw [kind_wat]; exact hw) (if_t rfl (no (last_no' el (by rw [hw]; rfl))))
        | false =>
          refine if_f (by rw [kind_wat]; exact hw) ⟨_, rfl, A' j, .str (lstS (S.th j).last), rfl, DGet.k (k := .inr "last") a5, rfl, _, rfl, ?_⟩
          cases hl : ((S.th j).last == .no) with
          | false =>
            have hl2 : ((S.th j).last != .no) = true := by show (!((S.th j).last == .no)) = true; rw [hl]; rfl
            exact if_t (by rw [last_none, hl]; rfl) (no (last_no' el (by rw [hl2, Bool.or_true])))
          | true =>
            have hl2 : ((S.th j).last != .no) = false := by show (!((S.th j).last == .no)) = false; rw [hl]; rfl
            refine if_f (by rw [last_none, hl]; rfl) ?_
            have l6 : 6 < sizeLine := szl (by decide)
            have l7 : (putK (thD (C' j) (S.th j)) (.inr "last" : Key) (.str "due")).length < sizeLine := l6
            have t1 := VR.ntup a5 (o := .dK (putK (thD (C' j) (S.th j)) (.inr "last") (.str "due")))
            refine ⟨_, rfl, A' j, _, rfl, DPut.k (k := .inr "last") a5 l6, ?_⟩
            refine ⟨_, rfl, q, _, 2, g, rfl, rfl, SqT.of (t1 _ _ hq), rfl, _, rfl, A' j, _, rfl, DPut.k (k := .inr "goal") upd_same l7, ?_⟩
            rw [upd_upd, thD_due]
            have Y := X.attr (x := ⟨(S.th j).body, .due, g⟩) hj b5
            have t2 := VR.ntup a5 (o := .dK (thD (C' j) ⟨(S.th j).body, .due, g⟩))
            exact k .non _ _ O A' C' _ _ (StepR.by (fun z => by cases z) (last_yes el (by rw [hw, hl2]; rfl))) (Stp.upd (.inl (e7.a j hj))) t2 (Frs.refl _ _) ⟨rfl, trivial⟩ Y
      · exact ⟨_, rfl, rfl, _, rfl, if_t rfl (no (last_no el))⟩
    case watch x y =>
      obtain ⟨hx, hy⟩ := hd
      have no : stepF S (.watch x y) = (S, noT, none) → Q (.str "no") H := fun e =>
        k (.str "no") H S O A' C' _ _ (StepR.by (fun z => by cases z) e) (Stp.refl _ _) (Tup.refl _) (Frs.refl _ _) ⟨rfl, trivial⟩ X
      refine ⟨_, _, _, _, g__law_thing T, ok__law_thing T, by decide, _, rfl, _, rfl, q, _, 0, .str "watch", rfl, rfl, sq, rfl, rfl, _, rfl, if_f (by decide +kernel) ⟨_, rfl, q, _, 2, .str y, rfl, rfl, sq, rfl, m, S, O, n, l, A', C', y, rfl, X, ok, hy, fun j el => ?_, fun el => ?_⟩⟩
      · have hj := ok.look_lt el
        obtain ⟨u, hu2, ru⟩ := KVR.val_some e3 (ok.val hy)
        rw [el] at ru
        obtain ⟨b, rfl, eb⟩ := ru
        refine ⟨_, rfl, rfl, _, rfl, if_f rfl ?_⟩
        refine ⟨_, rfl, q, _, 0, .str "watch", rfl, rfl, sq, rfl, rfl, _, rfl, if_f (by decide +kernel) ?_⟩
        refine ⟨_, rfl, q, _, 0, .str "watch", rfl, rfl, sq, rfl, rfl, _, rfl, if_t (by decide +kernel) ?_⟩
        refine ⟨_, rfl, m, .ref n, rfl, DGet.k (k := .inr "names") e1, _, rfl, q, _, 2, .str y, rfl, rfl, sq, rfl, n, .ref b, rfl, (by rw [← hu2]; exact DGet.k (k := .inr y) e2), b, _, 1, .int (j : Int), rfl, rfl, SqT.of eb, rfl, ?_⟩
        refine ⟨_, _, _, _, g__law_make T, ok__law_make T, by decide, _, rfl, m, S, O, n, l, A', C', "watch", rfl, X, by omega, by decide +kernel, fun a c p H1 s1 a0 c0 nac ha hc hp npl => ?_⟩
        have aO : a ∉ O := fun z => e7.tr a z a0
        have cO : c ∉ O := fun z => e7.tr c z c0
        have hap : a ≠ p := ne_of_none ha hp
        have hal : a ≠ l := fun z => aO (z ▸ e7.l)
        have han : a ≠ n := fun z => aO (z ▸ e7.n)
        have X1 := X.same s1
        have hc' : H1 c = some (.dK []) := hc
        -- the same heap, the new thing finished first
        have tpa : Tup H1 (upd H1 a (.dK (thD c ⟨.wat j false, .no, .non⟩))) := VR.ntup ha
        have X2 := X1.keep tpa (fun d hd => upd_ne fun z => aO (z ▸ hd))
        have X3 := X2.add (a := a) (c := c) (x := ⟨.wat j false, .no, .non⟩) upd_same (show upd H1 a _ c = _ by rw [upd_ne nac.symm]; exact hc') aO cO nac
        have pn : upd (upd H1 a (.dK (thD c ⟨.wat j false, .no, .non⟩))) l (.lst (thL A' S.made ++ [.ref a])) p = none := by rw [upd_ne npl, upd_ne hap.symm]; exact hp
        have X4 := X3.same (same_new (o := .tup [.str "thing", .int (S.made : Int)]) pn)
        obtain ⟨vs4, n1, n2, n3, n4, n5, n6, n7⟩ := id X4
        have tp9 := VR.ntup n2 (o := .dK (putK vs4 (.inr x) (.ref p)))
        have X5 := X4.name (KVR.put (VR.mono tp9 (VR.thing upd_same)) (KVR.mono tp9 n3))
        rw [upd_comm hal, upd_comm hap, upd_comm han] at X5
        have nnl : n ≠ l := e6.nl
        have mp : m ≠ p := ne_of_none (s1 _ _ e1) hp
        have np : n ≠ p := ne_of_none (s1 _ _ e2) hp
        have qp : q ≠ p := ne_of_none (s1 _ _ hq) hp
        have lp : l ≠ p := npl.symm
        have ql : q ≠ l := fun z => by rw [z, e4] at hq; cases hq
        have qn : q ≠ n := fun z => by rw [z, e2] at hq; cases hq
        have qa : q ≠ a := fun z => by rw [z, a0] at hq; cases hq
        have ma : m ≠ a := fun z => aO (z ▸ e7.m)
        rw [upd_ne np, upd_ne nnl, upd_ne han.symm] at n2
        have gm : upd (upd H1 l (.lst (thL A' S.made ++ [.ref a]))) p (.tup [.str "thing", .int (S.made : Int)]) m = some (.dK [(.inr "names", .ref n), (.inr "things", .ref l)]) := by rw [upd_ne mp, upd_ne e6.ml]; exact s1 _ _ e1
        have gn : upd (upd H1 l (.lst (thL A' S.made ++ [.ref a]))) p (.tup [.str "thing", .int (S.made : Int)]) n = some (.dK vs4) := by rw [upd_ne np, upd_ne nnl]; exact n2
        have gq : upd (upd H1 l (.lst (thL A' S.made ++ [.ref a]))) p (.tup [.str "thing", .int (S.made : Int)]) q = _ := (by rw [upd_ne qp, upd_ne ql] : _ = H1 q).trans (s1 _ _ hq)
        have gl : upd (upd H1 l (.lst (thL A' S.made ++ [.ref a]))) p (.tup [.str "thing", .int (S.made : Int)]) l = some (.lst (thL A' S.made ++ [.ref a])) := by rw [upd_ne lp, upd_same]
        have ga : upd (upd H1 l (.lst (thL A' S.made ++ [.ref a]))) p (.tup [.str "thing", .int (S.made : Int)]) a = some (.dK (newD "watch" c)) := by rw [upd_ne hap, upd_ne hal]; exact ha
        generalize eG : upd (upd H1 l (.lst (thL A' S.made ++ [.ref a]))) p (.tup [.str "thing", .int (S.made : Int)]) = G at gm gn gq gl ga X5 ⊢
        have l8 : vs4.length < sizeLine := szl (by rw [KVR.length n3]; show S.names.length ≤ 1000; rw [ok.n8]; decide)
        have l6 : (newD "watch" c).length < sizeLine := szl (by show 6 ≤ 1000; decide)
        refine ⟨_, rfl, m, .ref n, rfl, DGet.k (k := .inr "names") gm, _, rfl, q, _, 1, .str x, rfl, rfl, SqT.of gq, rfl, n, _, rfl, DPut.k (k := .inr x) gn l8, ?_⟩
        have gm2 : upd G n (.dK (putK vs4 (.inr x) (.ref p))) m = _ := (upd_ne e6.mn).trans gm
        have gl2 : upd G n (.dK (putK vs4 (.inr x) (.ref p))) l = _ := (upd_ne nnl.symm).trans gl
        have ga2 : upd G n (.dK (putK vs4 (.inr x) (.ref p))) a = _ := (upd_ne han).trans ga
        have gq2 : upd G n (.dK (putK vs4 (.inr x) (.ref p))) q = _ := (upd_ne qn).trans gq
        refine ⟨_, rfl, _, rfl, m, .ref l, rfl, DGet.k (k := .inr "things") gm2, _, rfl, l, _, -1, .ref a, rfl, rfl, SqL.of gl2, at_last, a, _, rfl, DPut.k (k := .inr "sees") ga2 l6, ?_⟩
        rw [newD_sees]
        have hv : valV (putK vs4 (.inr x) (V.ref p)) (.inr x) = some (.ref p) := by rw [valV_put, if_pos rfl]
        refine ⟨_, rfl, m, .ref n, rfl, DGet.k (k := .inr "names") ((upd_ne ma).trans gm2), _, rfl, q, _, 1, .str x, rfl, rfl, SqT.of ((upd_ne qa).trans gq2), rfl, n, .ref p, rfl, (by rw [← hv]; exact DGet.k (k := .inr x) ((upd_ne han.symm).trans upd_same)), ?_⟩
        have low : ∀ d o, H d = some o → d ≠ l → d ≠ n → upd (upd G n (.dK (putK vs4 (.inr x) (.ref p)))) a (.dK (thD c ⟨.wat j false, .no, .non⟩)) d = some o := fun d o e h1 h2 => by
          have e' := s1 _ _ e
          rw [upd_ne (ne_of_none e a0), upd_ne h2, ← eG, upd_ne (ne_of_none e' hp), upd_ne h1]; exact e'
        have gp : upd (upd G n (.dK (putK vs4 (.inr x) (.ref p)))) a (.dK (thD c ⟨.wat j false, .no, .non⟩)) p = some (.tup [.str "thing", .int (S.made : Int)]) := by
          rw [upd_ne hap.symm, upd_ne np.symm, ← eG, upd_same]
        refine k (.ref p) _ _ (a :: c :: O) _ _ _ _ (StepR.by (fun z => by cases z) (watch_yes el)) (fun d o e nd => low d o e (fun z => nd (z ▸ e7.l)) (fun z => nd (z ▸ e7.n))) ⟨fun d xs e => low d _ e (fun z => by rw [z, e4] at e; cases e) (fun z => by rw [z, e2] at e; cases e), fun d xs e => low d _ e (fun z => by rw [z, e4] at e; cases e) (fun z => by rw [z, e2] at e; cases e)⟩ ?_ (TRF.of (VR.thing gp)) X5
        intro d hd
        rcases List.mem_cons.mp hd with rfl | hd
        · exact .inr a0
        · rcases List.mem_cons.mp hd with rfl | hd
          · exact .inr c0
          · exact .inl hd
      · exact ⟨_, rfl, rfl, _, rfl, if_t rfl (no (watch_no el))⟩
    case ask x y =>
      obtain ⟨hx, hy⟩ := hd
      have no : stepF S (.ask x y) = (S, noT, none) → Q (.str "no") H := fun e =>
        k (.str "no") H S O A' C' _ _ (StepR.by (fun z => by cases z) e) (Stp.refl _ _) (Tup.refl _) (Frs.refl _ _) ⟨rfl, trivial⟩ X
      refine ⟨_, _, _, _, g__law_thing T, ok__law_thing T, by decide, _, rfl, _, rfl, q, _, 0, .str "ask", rfl, rfl, sq, rfl, rfl, _, rfl, if_f (by decide +kernel) ⟨_, rfl, q, _, 2, .str y, rfl, rfl, sq, rfl, m, S, O, n, l, A', C', y, rfl, X, ok, hy, fun j el => ?_, fun el => ?_⟩⟩
      · have hj := ok.look_lt el
        obtain ⟨a5, b5⟩ := e5 j hj
        refine ⟨_, rfl, rfl, _, rfl, if_f rfl ?_⟩
        refine ⟨_, rfl, q, _, 0, .str "ask", rfl, rfl, sq, rfl, rfl, _, rfl, if_f (by decide +kernel) ?_⟩
        refine ⟨_, rfl, q, _, 0, .str "ask", rfl, rfl, sq, rfl, rfl, _, rfl, if_f (by decide +kernel) ?_⟩
        refine ⟨_, rfl, A' j, .str (S.th j).body.kind, rfl, DGet.k (k := .inr "kind") a5, rfl, _, rfl, ?_⟩
        cases hw : (S.th j).body.isWat with
        | false => exact if_t (by rw [kind_wat, hw]; rfl) (no (ask_no' el (by rw [tell_isWat]; exact hw)))
        | true =>
          refine if_f (by rw [kind_wat, hw]; rfl) ?_
          refine ⟨_, _, _, _, g__law_tell T, ok__law_tell T, by decide, _, rfl, m, S, O, n, l, A', C', rfl, X, ok, by omega, fun r H1 ks st tp nr hr srt hks Y => ?_⟩
          obtain ⟨vs1, y1, y2, y3, _, y5, _, y7⟩ := id Y
          obtain ⟨c5, d5⟩ := y5 j hj
          obtain ⟨s, b, eb⟩ : ∃ s b, ((S.tellBy (ReachA S)).th j).body = .wat s b := by
            cases q : ((S.tellBy (ReachA S)).th j).body with
            | wat s b => exact ⟨s, b, rfl⟩
            | dic r z => have := (tell_isWat (S := S) (R := ReachA S) (j := j)).trans hw; rw [q] at this; cases this
            | row z => have := (tell_isWat (S := S) (R := ReachA S) (j := j)).trans hw; rw [q] at this; cases this
          have vg : valV (thD (C' j) ((S.tellBy (ReachA S)).th j)) (.inr "gone") = some (.bl b) := by
            show some (V.bl ((S.tellBy (ReachA S)).th j).body.lgone) = _; rw [eb]; rfl
          have vsee : valV (thD (C' j) ((S.tellBy (ReachA S)).th j)) (.inr "sees") = some (.int (s : Int)) := by
            show some (((S.tellBy (ReachA S)).th j).body.lsees) = _; rw [eb]; rfl
          have ls : vs1.length < sizeLine := szl (by rw [KVR.length y3]; show S.names.length ≤ 1000; rw [ok.n8]; decide)
          refine ⟨_, rfl, A' j, .bl b, rfl, (by rw [← vg]; exact DGet.k (k := .inr "gone") c5), _, rfl, ?_⟩
          cases b with
          | true =>
            have tp9 := VR.ntup y2 (o := .dK (putK vs1 (.inr x) .non))
            have Z := Y.name (KVR.put (show VR _ .non .non from rfl) (KVR.mono tp9 y3))
            obtain ⟨_, w1, _⟩ := id Z
            have hv : valV (putK vs1 (.inr x) .non) (.inr x) = some .non := by rw [valV_put, if_pos rfl]
            refine if_t rfl ⟨_, rfl, m, .ref n, rfl, DGet.k (k := .inr "names") y1, _, rfl, q, _, 1, .str x, rfl, rfl, SqT.of (tp _ _ hq), rfl, n, _, rfl, DPut.k (k := .inr x) y2 ls, ?_⟩
            refine ⟨_, rfl, m, .ref n, rfl, DGet.k (k := .inr "names") w1, _, rfl, q, _, 1, .str x, rfl, rfl, SqT.of (tp9 _ _ (tp _ _ hq)), rfl, n, .non, rfl, (by rw [← hv]; exact DGet.k (k := .inr x) upd_same), ?_⟩
            exact k .non _ _ O A' C' _ _ (StepR.by (fun z => by cases z) (ask_yes el eb)) (st.trans' (Stp.upd (.inl y7.n))) (tp.trans tp9) (Frs.refl _ _) ⟨rfl, trivial⟩ Z
          | false =>
            refine if_f rfl ⟨_, rfl, A' j, .int (s : Int), rfl, (by rw [← vsee]; exact DGet.k (k := .inr "sees") c5), by show 2 ≤ sizeLine; decide, fun p hp => ?_⟩
            have s8 := same_new (o := .tup [.str "thing", .int (s : Int)]) hp
            have Y8 := Y.same s8
            obtain ⟨vs8, n1, n2, n3, n4, n5, n6, n7⟩ := id Y8
            have l8 : vs8.length < sizeLine := szl (by rw [KVR.length n3]; show S.names.length ≤ 1000; rw [ok.n8]; decide)
            have tp9 := VR.ntup n2 (o := .dK (putK vs8 (.inr x) (.ref p)))
            have ru : VR _ (.ref p) (.ref s) := VR.mono tp9 (VR.thing upd_same)
            have Z := Y8.name (KVR.put ru (KVR.mono tp9 n3))
            obtain ⟨_, w1, _⟩ := id Z
            have hv : valV (putK vs8 (.inr x) (V.ref p)) (.inr x) = some (.ref p) := by rw [valV_put, if_pos rfl]
            refine ⟨_, rfl, m, .ref n, rfl, DGet.k (k := .inr "names") n1, _, rfl, q, _, 1, .str x, rfl, rfl, SqT.of (s8 _ _ (tp _ _ hq)), rfl, n, _, rfl, DPut.k (k := .inr x) n2 l8, ?_⟩
            refine ⟨_, rfl, m, .ref n, rfl, DGet.k (k := .inr "names") w1, _, rfl, q, _, 1, .str x, rfl, rfl, SqT.of (tp9 _ _ (s8 _ _ (tp _ _ hq))), rfl, n, .ref p, rfl, (by rw [← hv]; exact DGet.k (k := .inr x) upd_same), ?_⟩
            exact k (.ref p) _ _ O A' C' _ _ (StepR.by (fun z => by cases z) (ask_yes el eb)) ((st.trans' (Stp.of_same s8)).trans' (Stp.upd (.inl n7.n))) ((tp.trans (Same.tup s8)).trans tp9) (Frs.refl _ _) (TRF.of ru) Z
      · exact ⟨_, rfl, rfl, _, rfl, if_t rfl (no (ask_no el))⟩
end
end WK
namespace WK
open PySem PySem.Spec PyProof.Rows L2 He WB
section
variable {P : Program} {w : World} {K : PySem.W.Frag} {mg : Str → Option Value} {base : Heap}
theorem VR.ntup_l {H : Hp} {n : Addr} {xs : List V} (e : H n = some (.lst xs)) {o : HO} : Tup H (upd H n o) := tup_upd (by rw [e]; intro xs z; cases z; rfl)
/-- a promise over a heap that grew first -/
theorem spLDo_same {m : Addr} {S : Sta} {O : List Addr} {n l : Addr} {d : Deed} {H H1 : Hp} {Q : VK} (s : Same H H1)
    (k : ∀ r H' S' O' A2 C2 told chg, StepR S d S' told chg → Stp O H H' → Tup H H' → Frs O O' H → TRF H O' H' r told → LawX H' m S' O' n l A2 C2 → Q r H') :
    ∀ r H' S' O' A2 C2 told chg, StepR S d S' told chg → Stp O H1 H' → Tup H1 H' → Frs O O' H1 → TRF H1 O' H' r told → LawX H' m S' O' n l A2 C2 → Q r H' :=
  fun r H' S' O' A2 C2 told chg st sp tp fr tr X => k r H' S' O' A2 C2 told chg st ((Stp.of_same s).trans' sp) ((Same.tup s).trans tp) (fun a ha => (fr a ha).imp_right fun z => s.free z) (tr.back s) X
theorem ok__law_do (T : Tx w K mg) : DefOk ⟨P, w, K, mg, base⟩ 8 (ga K "_law_do") ["_law_m", "_law_deed_here"] (spLDo fun _ => True) := by
  refine DefOk.mk' (f__law_do T) sc__law_do (fun _ _ _ _ _ _ us hl => match us, hl with | [_, _], _ => rfl) (fun vs H Q E h => ?_) (fun cdv A outer s H vs Q E hr h => ?_)
  · obtain ⟨m, q, S, O, n, l, A', C', d, ht, rfl, _⟩ := h
    rfl
  · obtain ⟨m, q, S, O, n, l, A', C', d, ht, rfl, X, ok, hm, hD, k⟩ := h
    have hu := hu_of hr
    refine ⟨_, (pss_cons (ps_set (i := 2) sc__law_do.nd rfl (Or.inl rfl) (pe_ix ix_tup (pv 1) pe_int (fun _ _ => rfl))) (pss_cons (ps_if (pt_cmpR op_in_seq (pv 2) (pe_tup (pa_cons pe_str (pa_cons pe_str (pa_cons pe_str pa_nil)))) (by rfl)) (pss_one (ps_ret (pe_cg (M := ⟨P, w, K, mg, base⟩) rfl hr rfl (pa_cons (pv 0) (pa_cons (pv 1) pa_nil))))) pss_nil) (pss_cons (ps_if (pt_cmpR op_eq (pv 2) pe_str (nomark _)) (pss_one (ps_ret (pe_cg (M := ⟨P, w, K, mg, base⟩) rfl hr rfl (pa_cons (pv 0) pa_nil)))) pss_nil) (pss_cons (ps_if (pt_cmpR op_eq (pv 2) pe_str (nomark _)) (pss_one (ps_ret (pe_dget hu (pe_dget hu (pv 0) pe_str (fun _ _ => rfl)) (pe_ix ix_tup (pv 1) pe_int (fun _ _ => rfl)) (fun _ _ => rfl)))) pss_nil) (pss_cons (ps_if (pt_cmpR op_eq (pv 2) pe_str (nomark _)) (pss_cons (ps_dput hu (pe_dget hu (pv 0) pe_str (fun _ _ => rfl)) (pe_ix ix_tup (pv 1) pe_int (fun _ _ => rfl)) (pe_cg (M := ⟨P, w, K, mg, base⟩) rfl hr rfl (pa_cons (pv 0) (pa_cons (pe_ix ix_tup (pv 1) pe_int (fun _ _ => rfl)) pa_nil))) rfl) (pss_one (ps_ret (pe_dget hu (pe_dget hu (pv 0) pe_str (fun _ _ => rfl)) (pe_ix ix_tup (pv 1) pe_int (fun _ _ => rfl)) (fun _ _ => rfl))))) pss_nil) (pss_cons (ps_if (pt_cmpR op_in_seq (pv 2) (pe_tup (pa_cons pe_str (pa_cons pe_str (pa_cons pe_str pa_nil)))) (by rfl)) (pss_cons (ps_set (i := 3) sc__law_do.nd rfl (Or.inl rfl) (pe_disp (pps_cons pe_str (pe_ix ix_tup (pv 1) (pe_un un_neg pe_int) (fun _ _ => rfl)) (pps_cons pe_str (pe_dget1 hu (pe_dget hu (pv 0) pe_str (fun _ _ => rfl)) (pe_ix ix_tup (pv 1) (pe_un un_neg pe_int) (fun _ _ => rfl)) (by exact ⟨rfl, rfl, rfl, rfl⟩)) (pps_cons pe_str pe_non pps_nil))) (by rfl) (by rfl) (fun z => by cases z) (by decide))) (pss_cons (ps_dput hu (pe_dget hu (pv 0) pe_str (fun _ _ => rfl)) (pe_ix ix_tup (pv 1) pe_int (fun _ _ => rfl)) (pe_dget hu (pv 3) (pv 2) (fun _ _ => rfl)) rfl) (pss_one (ps_ret pe_non)))) pss_nil) (pss_one (ps_ret (pe_cg (M := ⟨P, w, K, mg, base⟩) rfl hr rfl (pa_cons (pv 0) (pa_cons (pv 1) pa_nil))))))))))), ?_⟩
    obtain ⟨hd, hq⟩ := id hD
    refine ⟨_, rfl, q, _, 0, .str d.word, rfl, rfl, SqT.of hq, atI_nat (j := 0) rfl, ?_⟩
    refine ⟨_, rfl, by show 3 ≤ sizeLine; decide, fun p hp => ⟨p, (["put", "take", "cut"] : List Str).map V.str, rfl, .inr (SqT.of upd_same), rfl, strs_flat _, _, rfl, ?_⟩⟩
    have s1 : Same H (upd H p (.tup ((["put", "take", "cut"] : List Str).map V.str))) := same_new hp
    have k1 := spLDo_same s1 k
    have X1 := X.same s1
    have D1 := hD.same s1
    cases d
    case put x z y => exact if_t (by kernel_rfl) ⟨_, _, _, _, g__law_do_part T, ok__law_do_part T, by decide, _, rfl, _, rfl, m, q, S, O, n, l, A', C', _, .inl rfl, rfl, X1, ok, hm, D1, k1⟩
    case take x y z => exact if_t (by kernel_rfl) ⟨_, _, _, _, g__law_do_part T, ok__law_do_part T, by decide, _, rfl, _, rfl, m, q, S, O, n, l, A', C', _, .inr (.inl rfl), rfl, X1, ok, hm, D1, k1⟩
    case cut x z => exact if_t (by kernel_rfl) ⟨_, _, _, _, g__law_do_part T, ok__law_do_part T, by decide, _, rfl, _, rfl, m, q, S, O, n, l, A', C', _, .inr (.inr rfl), rfl, X1, ok, hm, D1, k1⟩
    case settle =>
      refine if_f (by kernel_rfl) ⟨_, rfl, rfl, _, rfl, if_t (by kernel_rfl) ?_⟩
      refine ⟨_, _, _, _, g__law_settle T, ok__law_settle T, by decide, _, rfl, m, S, O, n, l, A', C', rfl, X1, ok, by omega, fun r H' ks S' st tp nr hr se Y => ?_⟩
      exact k1 (.ref r) H' S' O A' C' (.lst ks) none (.settle se) st tp (Frs.refl _ _) ⟨⟨r, rfl, hr⟩, r, rfl, nr, fun z => by
        obtain ⟨_, _, _, _, _, _, _, x7⟩ := id X1
        exact x7.tr r z nr⟩ Y
    case say x =>
      refine if_f (by kernel_rfl) ⟨_, rfl, rfl, _, rfl, if_f (by kernel_rfl) ⟨_, rfl, rfl, _, rfl, if_t (by kernel_rfl) ?_⟩⟩
      obtain ⟨vs, e1, e2, e3, _⟩ := id X1
      obtain ⟨u, hu2, ru⟩ := KVR.val_some e3 (ok.val (show x ∈ nmS from hd))
      refine ⟨_, rfl, m, .ref n, rfl, DGet.k (k := .inr "names") e1, _, rfl, q, _, 1, .str x, rfl, rfl, SqT.of D1.2, rfl, n, u, rfl, (by rw [← hu2]; exact DGet.k (k := .inr x) e2), ?_⟩
      exact k1 u _ S O A' C' _ _ (StepR.other (fun z => by cases z)) (Stp.refl _ _) (Tup.refl _) (Frs.refl _ _) (TRF.of ru) X1
    case watch x y =>
      refine if_f (by kernel_rfl) ⟨_, rfl, rfl, _, rfl, if_f (by kernel_rfl) ⟨_, rfl, rfl, _, rfl, if_f (by kernel_rfl) ⟨_, rfl, rfl, _, rfl, if_f (by kernel_rfl) ?_⟩⟩⟩
      refine ⟨_, rfl, by show 3 ≤ sizeLine; decide, fun p2 hp2 => ⟨p2, (["num", "copy", "drop"] : List Str).map V.str, rfl, .inr (SqT.of upd_same), rfl, strs_flat _, _, rfl, if_f (by kernel_rfl) ?_⟩⟩
      have s2 := same_new (o := .tup ((["num", "copy", "drop"] : List Str).map V.str)) hp2
      exact ⟨_, _, _, _, g__law_do_more T, ok__law_do_more T, by decide, _, rfl, _, rfl, m, q, S, O, n, l, A', C', _, .inl rfl, rfl, X1.same s2, ok, hm, D1.same s2, spLDo_same s2 k1⟩
    case last x g =>
      refine if_f (by kernel_rfl) ⟨_, rfl, rfl, _, rfl, if_f (by kernel_rfl) ⟨_, rfl, rfl, _, rfl, if_f (by kernel_rfl) ⟨_, rfl, rfl, _, rfl, if_f (by kernel_rfl) ?_⟩⟩⟩
      refine ⟨_, rfl, by show 3 ≤ sizeLine; decide, fun p2 hp2 => ⟨p2, (["num", "copy", "drop"] : List Str).map V.str, rfl, .inr (SqT.of upd_same), rfl, strs_flat _, _, rfl, if_f (by kernel_rfl) ?_⟩⟩
      have s2 := same_new (o := .tup ((["num", "copy", "drop"] : List Str).map V.str)) hp2
      exact ⟨_, _, _, _, g__law_do_more T, ok__law_do_more T, by decide, _, rfl, _, rfl, m, q, S, O, n, l, A', C', _, .inr (.inl rfl), rfl, X1.same s2, ok, hm, D1.same s2, spLDo_same s2 k1⟩
    case ask x y =>
      refine if_f (by kernel_rfl) ⟨_, rfl, rfl, _, rfl, if_f (by kernel_rfl) ⟨_, rfl, rfl, _, rfl, if_f (by kernel_rfl) ⟨_, rfl, rfl, _, rfl, if_f (by kernel_rfl) ?_⟩⟩⟩
      refine ⟨_, rfl, by show 3 ≤ sizeLine; decide, fun p2 hp2 => ⟨p2, (["num", "copy", "drop"] : List Str).map V.str, rfl, .inr (SqT.of upd_same), rfl, strs_flat _, _, rfl, if_f (by kernel_rfl) ?_⟩⟩
      have s2 := same_new (o := .tup ((["num", "copy", "drop"] : List Str).map V.str)) hp2
      exact ⟨_, _, _, _, g__law_do_more T, ok__law_do_more T, by decide, _, rfl, _, rfl, m, q, S, O, n, l, A', C', _, .inr (.inr rfl), rfl, X1.same s2, ok, hm, D1.same s2, spLDo_same s2 k1⟩
    case make x kind =>
      obtain ⟨hx, hk⟩ := hd
      refine if_f (by kernel_rfl) ⟨_, rfl, rfl, _, rfl, if_f (by kernel_rfl) ⟨_, rfl, rfl, _, rfl, if_f (by kernel_rfl) ⟨_, rfl, rfl, _, rfl, if_t (by kernel_rfl) ?_⟩⟩⟩
      have k4 : kind ∈ kinds4 ∧ newB kind = emptyB kind ∧ ∀ c : Addr, newD kind c = thD c ⟨emptyB kind, .no, .non⟩ := by
        rcases List.mem_cons.mp hk with rfl | hk
        · exact ⟨by decide +kernel, rfl, fun _ => rfl⟩
        · rcases List.mem_cons.mp hk with rfl | hk
          · exact ⟨by decide +kernel, rfl, fun _ => rfl⟩
          · rw [List.mem_singleton.mp hk]
            exact ⟨by decide +kernel, rfl, fun _ => rfl⟩
      refine ⟨_, _, _, _, g__law_make T, ok__law_make T, by decide, _, rfl, _, rfl, q, _, 2, .str kind, rfl, rfl, SqT.of D1.2, rfl, m, S, O, n, l, A', C', kind, rfl, X1, by omega, k4.1, fun a c p3 H2 s2 a0 c0 nac ha hc hp3 npl => ?_⟩
      obtain ⟨vs0, e1, e2, e3, e4, e5, e6, e7⟩ := id X1
      have aO : a ∉ O := fun z => e7.tr a z a0
      have cO : c ∉ O := fun z => e7.tr c z c0
      rw [k4.2.1] at hc
      rw [k4.2.2] at ha
      have X2 := (X1.same s2).add ha hc aO cO nac
      have pn : upd H2 l (.lst (thL A' S.made ++ [.ref a])) p3 = none := by rw [upd_ne npl]; exact hp3
      have s4 := same_new (o := .tup [.str "thing", .int (S.made : Int)]) pn
      have X4 := X2.same s4
      obtain ⟨vs4, n1, n2, n3, n4, n5, n6, n7⟩ := id X4
      have l8 : vs4.length < sizeLine := szl (by rw [KVR.length n3]; show S.names.length ≤ 1000; rw [ok.n8]; decide)
      have tl := VR.ntup_l (s2 _ _ e4) (o := .lst (thL A' S.made ++ [.ref a]))
      have tp9 := VR.ntup n2 (o := .dK (putK vs4 (.inr x) (.ref p3)))
      have ru : VR _ (.ref p3) (.ref S.made) := VR.mono tp9 (VR.thing upd_same)
      have Z := X4.name (KVR.put ru (KVR.mono tp9 n3))
      obtain ⟨_, w1, _⟩ := id Z
      have hq4 := s4 _ _ (tl _ _ (s2 _ _ D1.2))
      have hv : valV (putK vs4 (.inr x) (V.ref p3)) (.inr x) = some (.ref p3) := by rw [valV_put, if_pos rfl]
      refine ⟨_, rfl, m, .ref n, rfl, DGet.k (k := .inr "names") n1, _, rfl, q, _, 1, .str x, rfl, rfl, SqT.of hq4, rfl, n, _, rfl, DPut.k (k := .inr x) n2 l8, ?_⟩
      refine ⟨_, rfl, m, .ref n, rfl, DGet.k (k := .inr "names") w1, _, rfl, q, _, 1, .str x, rfl, rfl, SqT.of (tp9 _ _ hq4), rfl, n, .ref p3, rfl, (by rw [← hv]; exact DGet.k (k := .inr x) upd_same), ?_⟩
      refine k1 (.ref p3) _ _ (a :: c :: O) _ _ _ _ (StepR.other (fun z => by cases z)) ((((Stp.of_same s2).trans' (Stp.upd (.inl e7.l))).trans' (Stp.of_same s4)).trans' (Stp.upd (.inl e7.n))) ((((Same.tup s2).trans tl).trans (Same.tup s4)).trans tp9) ?_ (TRF.of ru) Z
      intro d hd
      rcases List.mem_cons.mp hd with rfl | hd
      · exact .inr a0
      · rcases List.mem_cons.mp hd with rfl | hd
        · exact .inr c0
        · exact .inl hd
    case drop x =>
      refine if_f (by kernel_rfl) ⟨_, rfl, rfl, _, rfl, if_f (by kernel_rfl) ⟨_, rfl, rfl, _, rfl, if_f (by kernel_rfl) ⟨_, rfl, rfl, _, rfl, if_f (by kernel_rfl) ?_⟩⟩⟩
      refine ⟨_, rfl, by show 3 ≤ sizeLine; decide, fun p2 hp2 => ⟨p2, (["num", "copy", "drop"] : List Str).map V.str, rfl, .inr (SqT.of upd_same), rfl, strs_flat _, _, rfl, if_t (by kernel_rfl) ?_⟩⟩
      have s2 := same_new (o := .tup ((["num", "copy", "drop"] : List Str).map V.str)) hp2
      have X2 := X1.same s2
      obtain ⟨vs, x1, x2, x3, x4, x5, x6, x7⟩ := id X2
      have hq2 := s2 _ _ D1.2
      have hx : x ∈ nmS := hd
      have ls : vs.length < sizeLine := szl (by rw [KVR.length x3, ok.n8]; decide)
      refine fun z hz => ?_
      have s3 := same_new (o := .dK []) hz
      have hq3 := s3 _ _ hq2
      refine ⟨_, rfl, _, rfl, q, _, -1, .str x, rfl, rfl, SqT.of hq3, rfl, ?_⟩
      refine ⟨_, rfl, m, .ref n, rfl, DGet.k (k := .inr "names") (s3 _ _ x1), n, rfl, .inl ⟨_, .inl (s3 _ _ x2)⟩, _, rfl, _, rfl, q, _, -1, .str x, rfl, rfl, SqT.of hq3, rfl, _, DGet.k (k := (.inr x)) (s3 _ _ x2), upd_same, [(.inr "num", .str x), (.inr "copy", (valV vs (.inr x)).getD .non), (.inr "drop", .non)], rfl, by show 3 ≤ 15; decide, ?_⟩
      rw [upd_upd]
      have s5 := same_new (o := .dK (mergeK [] [(.inr "num", .str x), (.inr "copy", (valV vs (.inr x)).getD .non), (.inr "drop", .non)])) hz
      have tp9 := VR.ntup (s5 _ _ x2) (o := .dK (putK vs (.inr x) .non))
      refine ⟨_, rfl, _, rfl, z, .non, rfl, DGet.k (k := .inr "drop") upd_same, _, rfl, m, .ref n, rfl, DGet.k (k := .inr "names") (s5 _ _ x1), _, rfl, q, _, 1, .str x, rfl, rfl, SqT.of (s5 _ _ hq2), rfl, n, _, rfl, DPut.k (k := .inr x) (s5 _ _ x2) ls, ?_⟩
      exact k1 .non _ _ O A' C' _ _ (StepR.other (fun z => by cases z)) (((Stp.of_same s2).trans' (Stp.of_same s5)).trans' (Stp.upd (.inl x7.n))) (((Same.tup s2).trans (Same.tup s5)).trans tp9) (Frs.refl _ _) ⟨rfl, trivial⟩ ((X2.same s5).name (KVR.put (show VR _ .non .non from rfl) (KVR.mono tp9 (KVR.mono (Same.tup s5) x3))))
    case num x i =>
      refine if_f (by kernel_rfl) ⟨_, rfl, rfl, _, rfl, if_f (by kernel_rfl) ⟨_, rfl, rfl, _, rfl, if_f (by kernel_rfl) ⟨_, rfl, rfl, _, rfl, if_f (by kernel_rfl) ?_⟩⟩⟩
      refine ⟨_, rfl, by show 3 ≤ sizeLine; decide, fun p2 hp2 => ⟨p2, (["num", "copy", "drop"] : List Str).map V.str, rfl, .inr (SqT.of upd_same), rfl, strs_flat _, _, rfl, if_t (by kernel_rfl) ?_⟩⟩
      have s2 := same_new (o := .tup ((["num", "copy", "drop"] : List Str).map V.str)) hp2
      have X2 := X1.same s2
      obtain ⟨vs, x1, x2, x3, x4, x5, x6, x7⟩ := id X2
      have hq2 := s2 _ _ D1.2
      have hx : x ∈ nmS := hd.1
      have ls : vs.length < sizeLine := szl (by rw [KVR.length x3, ok.n8]; decide)
      refine fun z hz => ?_
      have s3 := same_new (o := .dK []) hz
      have hq3 := s3 _ _ hq2
      refine ⟨_, rfl, _, rfl, q, _, -1, .int i, rfl, rfl, SqT.of hq3, rfl, ?_⟩
      refine ⟨_, rfl, m, .ref n, rfl, DGet.k (k := .inr "names") (s3 _ _ x1), n, rfl, .inl ⟨_, .inl (s3 _ _ x2)⟩, _, rfl, _, rfl, q, _, -1, .int i, rfl, rfl, SqT.of hq3, rfl, _, DGet.k (k := (.inl i)) (s3 _ _ x2), upd_same, [(.inr "num", .int i), (.inr "copy", (valV vs (.inl i)).getD .non), (.inr "drop", .non)], rfl, by show 3 ≤ 15; decide, ?_⟩
      rw [upd_upd]
      have s5 := same_new (o := .dK (mergeK [] [(.inr "num", .int i), (.inr "copy", (valV vs (.inl i)).getD .non), (.inr "drop", .non)])) hz
      have tp9 := VR.ntup (s5 _ _ x2) (o := .dK (putK vs (.inr x) (.int i)))
      refine ⟨_, rfl, _, rfl, z, (.int i), rfl, DGet.k (k := .inr "num") upd_same, _, rfl, m, .ref n, rfl, DGet.k (k := .inr "names") (s5 _ _ x1), _, rfl, q, _, 1, .str x, rfl, rfl, SqT.of (s5 _ _ hq2), rfl, n, _, rfl, DPut.k (k := .inr x) (s5 _ _ x2) ls, ?_⟩
      exact k1 .non _ _ O A' C' _ _ (StepR.other (fun z => by cases z)) (((Stp.of_same s2).trans' (Stp.of_same s5)).trans' (Stp.upd (.inl x7.n))) (((Same.tup s2).trans (Same.tup s5)).trans tp9) (Frs.refl _ _) ⟨rfl, trivial⟩ ((X2.same s5).name (KVR.put (VR.int i) (KVR.mono tp9 (KVR.mono (Same.tup s5) x3))))
    case copy x y =>
      refine if_f (by kernel_rfl) ⟨_, rfl, rfl, _, rfl, if_f (by kernel_rfl) ⟨_, rfl, rfl, _, rfl, if_f (by kernel_rfl) ⟨_, rfl, rfl, _, rfl, if_f (by kernel_rfl) ?_⟩⟩⟩
      refine ⟨_, rfl, by show 3 ≤ sizeLine; decide, fun p2 hp2 => ⟨p2, (["num", "copy", "drop"] : List Str).map V.str, rfl, .inr (SqT.of upd_same), rfl, strs_flat _, _, rfl, if_t (by kernel_rfl) ?_⟩⟩
      have s2 := same_new (o := .tup ((["num", "copy", "drop"] : List Str).map V.str)) hp2
      have X2 := X1.same s2
      obtain ⟨vs, x1, x2, x3, x4, x5, x6, x7⟩ := id X2
      have hq2 := s2 _ _ D1.2
      have hx : x ∈ nmS := hd.1
      have ls : vs.length < sizeLine := szl (by rw [KVR.length x3, ok.n8]; decide)
      obtain ⟨u, hu2, ru⟩ := KVR.val_some x3 (ok.val (show y ∈ nmS from hd.2))
      have hu3 : valV (mergeK [] [(.inr "num", .str y), (.inr "copy", (valV vs (.inr y)).getD .non), (.inr "drop", .non)]) (.inr "copy" : Key) = some u := by rw [hu2]; rfl
      refine fun z hz => ?_
      have s3 := same_new (o := .dK []) hz
      have hq3 := s3 _ _ hq2
      refine ⟨_, rfl, _, rfl, q, _, -1, .str y, rfl, rfl, SqT.of hq3, rfl, ?_⟩
      refine ⟨_, rfl, m, .ref n, rfl, DGet.k (k := .inr "names") (s3 _ _ x1), n, rfl, .inl ⟨_, .inl (s3 _ _ x2)⟩, _, rfl, _, rfl, q, _, -1, .str y, rfl, rfl, SqT.of hq3, rfl, _, DGet.k (k := (.inr y)) (s3 _ _ x2), upd_same, [(.inr "num", .str y), (.inr "copy", (valV vs (.inr y)).getD .non), (.inr "drop", .non)], rfl, by show 3 ≤ 15; decide, ?_⟩
      rw [upd_upd]
      have s5 := same_new (o := .dK (mergeK [] [(.inr "num", .str y), (.inr "copy", (valV vs (.inr y)).getD .non), (.inr "drop", .non)])) hz
      have tp9 := VR.ntup (s5 _ _ x2) (o := .dK (putK vs (.inr x) u))
      refine ⟨_, rfl, _, rfl, z, u, rfl, (by rw [← hu3]; exact DGet.k (k := .inr "copy") upd_same), _, rfl, m, .ref n, rfl, DGet.k (k := .inr "names") (s5 _ _ x1), _, rfl, q, _, 1, .str x, rfl, rfl, SqT.of (s5 _ _ hq2), rfl, n, _, rfl, DPut.k (k := .inr x) (s5 _ _ x2) ls, ?_⟩
      exact k1 .non _ _ O A' C' _ _ (StepR.other (fun z => by cases z)) (((Stp.of_same s2).trans' (Stp.of_same s5)).trans' (Stp.upd (.inl x7.n))) (((Same.tup s2).trans (Same.tup s5)).trans tp9) (Frs.refl _ _) ⟨rfl, trivial⟩ ((X2.same s5).name (KVR.put (VR.mono tp9 (VR.mono (Same.tup s5) ru)) (KVR.mono tp9 (KVR.mono (Same.tup s5) x3))))
end
end WK
namespace WK
open PySem PySem.Spec PyProof.Rows L2 He WB PySem.W
section
variable {P : Program} {w : World} {K : PySem.W.Frag} {mg : Str → Option Value} {base : Heap}
theorem NumAt_tup {H H' : Hp} {h l : Addr} (x : NumAt H h l) (s : Stp [h, l] H H') : Tup H H' := by
  obtain ⟨m, b, xs, e1, e2, _, _⟩ := x
  refine ⟨fun a u e => s a _ e fun z => ?_, fun a u e => s a _ e fun z => ?_⟩ <;>
  · rcases List.mem_cons.mp z with z | z
    · rw [z, e1] at e; cases e
    · rw [List.mem_singleton.mp z, e2] at e; cases e
theorem NumAt.fresh {H : Hp} {h l L : Addr} (x : NumAt H h l) (hL : H L = none) : L ∉ [h, l] := fun z => by
  obtain ⟨m, b, xs, e1, e2, _, _⟩ := x
  rcases List.mem_cons.mp z with z | z
  · rw [z, e1] at hL; cases hL
  · rw [List.mem_singleton.mp z, e2] at hL; cases hL
theorem odd_at : ∀ j : Nat, j < 6 → ∃ kk : Key, ([.int 0, .int 1, .int 8, .int 9, .str "a", .str "d"] : List V)[j]? = some (kV kk) ∧ PartOk kk
  | 0, _ => ⟨.inl 0, rfl, by decide, by decide⟩
  | 1, _ => ⟨.inl 1, rfl, by decide, by decide⟩
  | 2, _ => ⟨.inl 8, rfl, by decide, by decide⟩
  | 3, _ => ⟨.inl 9, rfl, by decide, by decide⟩
  | 4, _ => ⟨.inr "a", rfl, by show _ ∈ WB.lets; decide +kernel⟩
  | 5, _ => ⟨.inr "d", rfl, by show _ ∈ WB.lets; decide +kernel⟩
  | n + 6, h => absurd h (by omega)
theorem let_at : ∀ j : Nat, j < 4 → ∃ c : Nat, ("abcd" : Str).cps.toList[j]? = some c ∧ (⟨#[c]⟩ : Str) ∈ WB.lets
  | 0, _ => ⟨97, by decide +kernel, by decide +kernel⟩
  | 1, _ => ⟨98, by decide +kernel, by decide +kernel⟩
  | 2, _ => ⟨99, by decide +kernel, by decide +kernel⟩
  | 3, _ => ⟨100, by decide +kernel, by decide +kernel⟩
  | n + 4, h => absurd h (by omega)
theorem two_at {a b : V} : ∀ j : Nat, j < 2 → ([a, b] : List V)[j]? = some (if j = 0 then a else b)
  | 0, _ => rfl
  | 1, _ => rfl
  | n + 2, h => absurd h (by omega)
theorem nat_of {q : Int} (h : 0 ≤ q) : ∃ j : Nat, q = j := ⟨q.toNat, by omega⟩
def spLPart : Sp := fun vs H Q _ => ∃ (h l a c : Addr) (t : Th), vs = [.ref h, .ref a] ∧ NumAt H h l ∧ H a = some (.dK (thD c t)) ∧ HeldAt H c t.body ∧ t.body.wf ∧ a ∉ [h, l] ∧ c ∉ [h, l] ∧
  ∀ k H', PartOk k → Stp [h, l] H H' → NumAt H' h l → Q (kV k) H'
theorem ok__law_part (T : Tx w K mg) : DefOk ⟨P, w, K, mg, base⟩ 2 (ga K "_law_part") ["_law_h", "_law_thing_here"] spLPart := by
  refine DefOk.mk' (f__law_part T) sc__law_part (fun _ _ _ _ _ _ us hl => match us, hl with | [_, _], _ => rfl) (fun vs H Q E h => ?_) (fun cdv A outer s H vs Q E hr h => ?_)
  · obtain ⟨h, l, a, c, t, rfl, _⟩ := h
    rfl
  · obtain ⟨h, l, a, c, t, rfl, hn, ha, hc, wf, na, nc, k⟩ := h
    have hu := hu_of hr
    refine ⟨_, (pss_cons (ps_if (pt_cmpR op_eq (pe_cg (M := ⟨P, w, K, mg, base⟩) rfl hr rfl (pa_cons (pv 0) (pa_cons pe_int pa_nil))) pe_int (nomark _)) (pss_one (ps_ret (pe_ix ix_list (pe_lst (pa_cons pe_int (pa_cons pe_int (pa_cons pe_int (pa_cons pe_int (pa_cons pe_str (pa_cons pe_str pa_nil))))))) (pe_cg (M := ⟨P, w, K, mg, base⟩) rfl hr rfl (pa_cons (pv 0) (pa_cons pe_int pa_nil))) (fun _ _ => rfl)))) pss_nil) (pss_cons (ps_if (pt_cmpR op_eq (pe_dget hu (pv 1) pe_str (fun _ _ => rfl)) pe_str (nomark _)) (pss_one (ps_ret (pe_ix ix_str pe_str (pe_cg (M := ⟨P, w, K, mg, base⟩) rfl hr rfl (pa_cons (pv 0) (pa_cons (pe_ix ix_list (pe_lst (pa_cons pe_int (pa_cons pe_int pa_nil))) (pe_cg (M := ⟨P, w, K, mg, base⟩) rfl hr rfl (pa_cons (pv 0) (pa_cons pe_int pa_nil))) (fun _ _ => rfl)) pa_nil))) (fun _ _ => rfl)))) pss_nil) (pss_cons (ps_if (pt_cmpR op_eq (pe_dget hu (pv 1) pe_str (fun _ _ => rfl)) pe_str (nomark _)) (pss_one (ps_ret (pe_cg (M := ⟨P, w, K, mg, base⟩) rfl hr rfl (pa_cons (pv 0) (pa_cons (pe_op op_add (pe_callB call_len_seq (by rfl) (z_len T) PySem.boot_len (pa_cons (pe_dget hu (pv 1) pe_str (fun _ _ => rfl)) pa_nil)) pe_int) pa_nil))))) pss_nil) (pss_one (ps_ret (pe_cg (M := ⟨P, w, K, mg, base⟩) rfl hr rfl (pa_cons (pv 0) (pa_cons (pe_ix ix_list (pe_lst (pa_cons pe_int (pa_cons pe_int pa_nil))) (pe_cg (M := ⟨P, w, K, mg, base⟩) rfl hr rfl (pa_cons (pv 0) (pa_cons pe_int pa_nil))) (fun _ _ => rfl)) pa_nil)))))))), ?_⟩
    refine ⟨_, _, _, _, g__law_next T, ok__law_next T, by decide, _, rfl, h, l, 10, rfl, hn, by decide, by decide, fun r H1 r0 r1 st1 n1 => ?_⟩
    have t1 := NumAt_tup hn st1
    refine ⟨rfl, _, rfl, ?_⟩
    have sub : ∀ b ∈ [h, l], b ∈ [h, l] := fun _ hb => hb
    by_cases e9 : r = 9
    · refine if_t (decide_eq_true (by rw [e9])) ?_
      refine ⟨by show 6 ≤ sizeLine; decide, fun L hL => ?_⟩
      have s2 : Same H1 (upd H1 L (.lst [.int 0, .int 1, .int 8, .int 9, .str "a", .str "d"])) := same_new hL
      refine ⟨_, _, _, _, g__law_next T, ok__law_next T, by decide, _, rfl, h, l, 6, rfl, n1.same s2, by decide, by decide, fun q H3 q0 q1 st3 n3 => ?_⟩
      have hL3 : H3 L = some (.lst [.int 0, .int 1, .int 8, .int 9, .str "a", .str "d"]) := st3 _ _ upd_same (NumAt.fresh n1 hL)
      have st := (st1.trans' (Stp.of_same s2)).trans' st3
      obtain ⟨j, rfl⟩ : ∃ j : Nat, q = j := ⟨q.toNat, by omega⟩
      obtain ⟨kk, ek, pk⟩ := odd_at j (by omega)
      exact ⟨L, _, j, kV kk, rfl, rfl, SqL.of hL3, atI_nat ek, k kk H3 pk st n3⟩
    · refine if_f (decide_eq_false (by intro z; exact e9 (V.int.inj z))) ?_
      have ha1 := st1 _ _ ha na
      refine ⟨_, rfl, a, .str t.body.kind, rfl, DGet.k (k := .inr "kind") ha1, rfl, _, rfl, ?_⟩
      cases hk : decide (V.str t.body.kind = V.str "record") with
      | true =>
        refine if_t rfl ?_
        refine ⟨_, _, _, _, g__law_next T, ok__law_next T, by decide, _, rfl, by show 2 ≤ sizeLine; decide, fun L hL => ?_⟩
        have s2 : Same H1 (upd H1 L (.lst [.int 2, .int 4])) := same_new hL
        refine ⟨_, _, _, _, g__law_next T, ok__law_next T, by decide, _, rfl, h, l, 2, rfl, n1.same s2, by decide, by decide, fun q H3 q0 q1 st3 n3 => ?_⟩
        have hL3 : H3 L = some (.lst [.int 2, .int 4]) := st3 _ _ upd_same (NumAt.fresh n1 hL)
        have st := (st1.trans' (Stp.of_same s2)).trans' st3
        obtain ⟨j, rfl⟩ := nat_of q0
        have hj : ∃ b : Int, ([.int 2, .int 4] : List V)[j]? = some (.int b) ∧ 0 < b ∧ b ≤ 4 := by
          rcases Nat.lt_or_ge j 1 with z | z
          · obtain rfl : j = 0 := by omega
            exact ⟨2, rfl, by decide, by decide⟩
          · obtain rfl : j = 1 := by omega
            exact ⟨4, rfl, by decide, by decide⟩
        obtain ⟨b, eb, b0, b1⟩ := hj
        refine ⟨L, _, j, .int b, rfl, rfl, SqL.of hL3, atI_nat eb, h, l, b, rfl, n3, b0, by omega, fun q H4 q0 q1 st4 n4 => ?_⟩
        obtain ⟨i, rfl⟩ := nat_of q0
        obtain ⟨c0, e0, p0⟩ := let_at i (by omega)
        exact ⟨"abcd", i, c0, rfl, rfl, by decide +kernel, atI_nat e0, k (.inr ⟨#[c0]⟩) H4 p0 (st.trans' st4) n4⟩
      | false =>
        refine if_f rfl ?_
        refine ⟨_, rfl, a, .str t.body.kind, rfl, DGet.k (k := .inr "kind") ha1, rfl, _, rfl, ?_⟩
        cases hk2 : decide (V.str t.body.kind = V.str "row") with
        | true =>
          refine if_t rfl ?_
          obtain ⟨bd, lt, gl⟩ := t
          cases bd with
          | row xs =>
            obtain ⟨vs, hv, r2⟩ := hc
            have lx := LVR.length r2
            have wf8 : xs.length ≤ 8 := wf
            refine ⟨_, _, _, _, g__law_next T, ok__law_next T, by decide, _, rfl, _, rfl, a, .ref c, rfl, DGet.k (k := .inr "held") ha1, c, vs, rfl, .inl (SqL.of (st1 _ _ hv nc)), ?_⟩
            refine ⟨_, _, rfl, rfl, h, l, _, rfl, n1, by omega, by omega, fun q H4 q0 q1 st4 n4 => ?_⟩
            exact k (.inl q) H4 ⟨q0, by omega⟩ (st1.trans' st4) n4
          | wat s g =>
            have z := kd (b := Body.wat s g) (z := "row") (r := false) "watch" rfl (by decide +kernel)
            exact absurd (z.symm.trans hk2) (by decide)
          | dic r kvs =>
            have z : decide (V.str (Body.dic r kvs).kind = V.str "row") = false := by
              cases r with
              | true => exact kd "record" rfl (by decide +kernel)
              | false => exact kd "book" rfl (by decide +kernel)
            exact absurd (z.symm.trans hk2) (by decide)
        | false =>
          refine if_f rfl ?_
          refine ⟨_, _, _, _, g__law_next T, ok__law_next T, by decide, _, rfl, by show 2 ≤ sizeLine; decide, fun L hL => ?_⟩
          have s2 : Same H1 (upd H1 L (.lst [.int 3, .int 10])) := same_new hL
          refine ⟨_, _, _, _, g__law_next T, ok__law_next T, by decide, _, rfl, h, l, 2, rfl, n1.same s2, by decide, by decide, fun q H3 q0 q1 st3 n3 => ?_⟩
          have hL3 : H3 L = some (.lst [.int 3, .int 10]) := st3 _ _ upd_same (NumAt.fresh n1 hL)
          have st := (st1.trans' (Stp.of_same s2)).trans' st3
          obtain ⟨j, rfl⟩ := nat_of q0
          have hj : ∃ b : Int, ([.int 3, .int 10] : List V)[j]? = some (.int b) ∧ 0 < b ∧ b ≤ 10 := by
            rcases Nat.lt_or_ge j 1 with z | z
            · obtain rfl : j = 0 := by omega
              exact ⟨3, rfl, by decide, by decide⟩
            · obtain rfl : j = 1 := by omega
              exact ⟨10, rfl, by decide, by decide⟩
          obtain ⟨b, eb, b0, b1⟩ := hj
          refine ⟨L, _, j, .int b, rfl, rfl, SqL.of hL3, atI_nat eb, h, l, b, rfl, n3, b0, by omega, fun q H4 q0 q1 st4 n4 => ?_⟩
          exact k (.inl q) H4 ⟨q0, by omega⟩ (st.trans' st4) n4
end
end WK
namespace WK
open PySem PySem.Spec PyProof.Rows L2 He WB
section
variable {P : Program} {w : World} {K : PySem.W.Frag} {mg : Str → Option Value} {base : Heap}
theorem strs_lay : ∀ xs : List Str, (∀ x ∈ xs, x ∈ nmS) → PyData.canLayAll0 (xs.map PyData.str) = true
  | [], _ => by simp [PyData.canLayAll0]
  | x :: r, h => by
    have := strs_lay r fun y hy => h y (List.mem_cons_of_mem _ hy)
    have hx : PyData.strOk x = true := (show ∀ z ∈ nmS, PyData.strOk z = true by decide +kernel) x (h x List.mem_cons_self)
    simp [PyData.canLayAll0, PyData.canLay0, this, hx]
theorem strs_flat2 : ∀ xs : List Str, (xs.map V.str).all flatV = true
  | [] => rfl
  | _ :: r => strs_flat2 r
theorem strs_depth : ∀ xs : List Str, PyData.depthAll (xs.map PyData.str) ≤ 1
  | [] => by simp [PyData.depthAll]
  | x :: r => by
    have := strs_depth r
    simp only [List.map_cons, PyData.depthAll, PyData.depth]
    omega
theorem strs_shaped (xs : List Str) (h : ∀ x ∈ xs, x ∈ nmS) : SeqAt.shaped (.list (xs.map PyData.str)) = true := by
  show (PyData.canLay0 (.list (xs.map PyData.str)) && decide (PyData.depth (.list (xs.map PyData.str)) ≤ 64)) = true
  rw [Bool.and_eq_true]
  refine ⟨?_, decide_eq_true ?_⟩
  · simp only [PyData.canLay0]; exact strs_lay xs h
  · have := strs_depth xs
    simp only [PyData.depth]; omega
theorem strs_dp {K : PySem.W.Frag} {H : Hp} : ∀ xs : List Str, DpAll K H (xs.map V.str) (xs.map PyData.str)
  | [] => .nil
  | x :: r => .cons (.str x) (strs_dp r)
theorem strs_nil (xs : List Str) : PyData.eqv (.list (xs.map PyData.str)) (.list []) = xs.isEmpty := by
  cases xs with
  | nil => simp [PyData.eqv, PyData.eqvAll]
  | cons x r => simp [PyData.eqv, PyData.eqvAll]
theorem nm_mem {i c : Nat} (h : ("pqrstuvw" : Str).cps[i]? = some c) : (⟨#[c]⟩ : Str) ∈ nmS := by
  have e := nm_at h
  have m : (.inr ⟨#[c]⟩ : Key) ∈ nm0.map (·.1) := List.mem_map.mpr ⟨_, List.mem_of_getElem? e, rfl⟩
  rw [show nm0.map (·.1) = nmS.map Sum.inr by decide +kernel] at m
  obtain ⟨z, hz, e2⟩ := List.mem_map.mp m
  rw [← Sum.inr.inj e2]
  exact hz
def spLHeld : Sp := fun vs H Q _ => ∃ (m kd : Addr) (S : Sta) (O : List Addr) (n l : Addr) (A C : Nat → Addr) (ks : List Str), vs = [.ref m, .ref kd] ∧ LawX H m S O n l A C ∧ WB.Ok S ∧ S.made ≤ 790 ∧ H kd = some (.lst (ks.map V.str)) ∧ ks.length ≤ 8 ∧
  ∀ r H' xs, Same H H' → H r = none → H' r = some (.lst (xs.map V.str)) → xs ≠ [] → xs.length ≤ 8 → (∀ x ∈ xs, x ∈ nmS) → Q (.ref r) H'
theorem ok__law_held (T : Tx w K mg) : DefOk ⟨P, w, K, mg, base⟩ 2 (ga K "_law_held") ["_law_m", "_law_kinds"] spLHeld := by
  refine DefOk.mk' (f__law_held T) sc__law_held (fun _ _ _ _ _ _ us hl => match us, hl with | [_, _], _ => rfl) (fun vs H Q E h => ?_) (fun cdv A outer s H vs Q E hr h => ?_)
  · obtain ⟨m, kd, S, O, n, l, A', C', ks, rfl, _⟩ := h
    rfl
  · obtain ⟨m, kd, S, O, n, l, A', C', ks, rfl, X, ok, hm, hk, l8, k⟩ := h
    have hu := hu_of hr
    refine ⟨_, (pss_cons (ps_set (i := 2) sc__law_held.nd rfl (Or.inl rfl) (pe_lst pa_nil)) (pss_cons (ps_for PassesOwn.never rfl (pi_str pe_str) (pg_name (i := 3) sc__law_held.nd rfl (Or.inl rfl)) (pss_cons (ps_set (i := 4) sc__law_held.nd rfl (Or.inl rfl) (pe_cg (M := ⟨P, w, K, mg, base⟩) rfl hr rfl (pa_cons (pv 0) (pa_cons (pv 3) pa_nil)))) (pss_one (ps_if (PW.pt (pw_and (pt_cmpR op_notN (pv 4) pe_non (nomark _)) (pw_and1 (pt_cmpR op_in_seq (pe_dget hu (pv 4) pe_str (fun _ _ => rfl)) (pv 1) (by rfl))))) (pss_one (ps_expr (pe_bm PySem.F.plainAttrs_list PySem.F.slot_list_append PySem.F.type_list_append mt_append (pv 2) (pa_cons (pv 3) pa_nil)))) pss_nil)))) (pss_one (ps_ret (pe_ifExp (pt_cmpR (op_neD hr.units) (pv 2) (pe_lst pa_nil) (nomark _)) (pv 2) (pe_lst (pa_cons pe_str pa_nil))))))), ?_⟩
    refine ⟨by show 0 ≤ sizeLine; decide, fun D hD => ?_⟩
    have s0 : Same H (upd H D (.lst [])) := same_new hD
    have D0 : H D = none := hD
    refine ⟨_, rfl, ?_⟩
    refine for_it walk_str (fun i σ H' => ∃ (xs : List Str) (x3 x4 : Option V), σ = [some (.ref m), some (.ref kd), some (.ref D), x3, x4] ∧ Same H H' ∧ H' D = some (.lst (xs.map V.str)) ∧ xs.length ≤ i ∧ ∀ x ∈ xs, x ∈ nmS)
      ⟨[], _, _, rfl, s0, upd_same, Nat.le_refl 0, (fun _ z => nomatch z)⟩ (fun _ _ _ _ _ => trivial) ?_ ?_
    · rintro i x σ H1 H2 hi ⟨xs, x3, x4, rfl, s1, g1, l1, m1⟩ ⟨rfl, c, hc, rfl⟩
      have nx : ∀ y4 : Option V, ∃ (xs : List Str) (x3 x4 : Option V), ([some (.ref m), some (.ref kd), some (.ref D), some (.str ⟨#[c]⟩), y4] : L2.St) = [some (.ref m), some (.ref kd), some (.ref D), x3, x4] ∧ Same H H2 ∧ H2 D = some (.lst (xs.map V.str)) ∧ xs.length ≤ i + 1 ∧ ∀ x ∈ xs, x ∈ nmS :=
        fun y4 => ⟨xs, _, _, rfl, s1, g1, Nat.le_succ_of_le l1, m1⟩
      refine ⟨_, _, _, _, g__law_thing T, ok__law_thing T, by decide, _, rfl, _, rfl, m, S, O, n, l, A', C', ⟨#[c]⟩, rfl, X.same s1, ok, nm_mem hc, fun j ej => ?_, fun _ => ?_⟩
      · have X2 := X.same s1
        obtain ⟨_, e1, e2, e3, e4, e5, e6, e7⟩ := id X2
        have hj := ok.look_lt ej
        refine ⟨_, rfl, rfl, _, rfl, if_t rfl ?_⟩
        refine ⟨_, rfl, A' j, .str (S.th j).body.kind, rfl, DGet.k (k := .inr "kind") (e5 j hj).1, _, rfl, kd, ks.map V.str, rfl, .inl (SqL.of (s1 _ _ hk)), rfl, strs_flat2 ks, _, rfl, ?_⟩
        show if (inV (V.str (S.th j).body.kind) (ks.map V.str)) = true then _ else _
        cases inV (V.str (S.th j).body.kind) (ks.map V.str) with
        | false => exact if_f rfl (nx _)
        | true =>
          refine if_t rfl ⟨_, rfl, .inl ⟨rfl, _, SqL.of g1⟩, _, rfl, D, _, _, rfl, rfl, g1, szl (by rw [List.length_map]; have : i < 8 := hi; omega), ?_⟩
          refine ⟨xs ++ [⟨#[c]⟩], _, _, rfl, same_mut s1 D0, by rw [upd_same, List.map_append]; rfl, by rw [List.length_append, List.length_singleton]; omega, fun x hx => ?_⟩
          rcases List.mem_append.mp hx with hx | hx
          · exact m1 x hx
          · rw [List.mem_singleton.mp hx]; exact nm_mem hc
      · refine ⟨_, rfl, rfl, _, rfl, if_f rfl ?_⟩
        exact nx _
    · rintro σ H1 ⟨xs, x3, x4, rfl, s1, g1, l1, m1⟩
      refine ⟨_, rfl, by show 0 ≤ sizeLine; decide, fun Z hZ => ?_⟩
      have s2 : Same H1 (upd H1 Z (.lst [])) := same_new hZ
      refine ⟨_, _, .lst (SqL.of (s2 _ _ g1)) (strs_dp _), .lst (SqL.of upd_same) .nil, strs_shaped _ m1, ints_shaped [], _, rfl, ?_⟩
      rw [strs_nil]
      have l8' : xs.length ≤ 8 := l1
      cases xs with
      | nil =>
        refine if_f rfl ?_
        refine ⟨by show 1 ≤ sizeLine; decide, fun Y hY => ?_⟩
        exact k Y _ ["p"] ((s1.trans s2).trans (same_new hY)) ((s1.trans s2).free hY) upd_same (by simp) (by decide) (by decide +kernel)
      | cons x r =>
        exact if_t rfl ⟨_, rfl, k D _ (x :: r) (s1.trans s2) D0 (s2 _ _ g1) (by simp) l8' m1⟩
end
end WK
namespace WK
open PySem PySem.Spec PyProof.Rows L2 He WB
section
variable {P : Program} {w : World} {K : PySem.W.Frag} {mg : Str → Option Value} {base : Heap}
theorem stp_fresh {H H' : Hp} {h ls p : Addr} (hn : NumAt H h ls) (st : Stp [h, ls] H H') (n : NumAt H' h ls) (hp : H' p = none) : H p = none := by
  cases q : H p with
  | none => rfl
  | some o =>
    have := st p o q (NumAt.fresh n hp)
    rw [hp] at this
    cases this
/-- a list of deeds, new since H0 -/
def DLs (H0 H : Hp) (xs : List V) : Prop := ∀ x ∈ xs, ∃ p d, x = .ref p ∧ H0 p = none ∧ DeedAt H p d
theorem DLs.mono {H0 H H' : Hp} {xs : List V} (t : Tup H H') (d : DLs H0 H xs) : DLs H0 H' xs := fun x hx => let ⟨p, e, h1, h2, h3, h4⟩ := d x hx; ⟨p, e, h1, h2, h3, t _ _ h4⟩
theorem DLs.nil {H0 H : Hp} : DLs H0 H [] := fun _ z => nomatch z
theorem DLs.snoc {H0 H : Hp} {xs : List V} {p : Addr} {d : Deed} (ds : DLs H0 H xs) (h0 : H0 p = none) (hp : H p = none) (hd : d.ok) {vs : List V} (e : vs = .str d.word :: d.args) : DLs H0 (upd H p (.tup vs)) (xs ++ [.ref p]) := fun x hx => by
  rcases List.mem_append.mp hx with hx | hx
  · exact (ds.mono (Same.tup (same_new hp))) x hx
  · rw [List.mem_singleton.mp hx]
    exact ⟨p, d, rfl, h0, hd, by rw [upd_same, e]⟩
theorem DLs.app {H0 H : Hp} {xs ys : List V} (a : DLs H0 H xs) (b : DLs H0 H ys) : DLs H0 H (xs ++ ys) := fun x hx => (List.mem_append.mp hx).elim (a x) (b x)
def spLDeed : Sp := fun vs H Q _ => ∃ (h ls m : Addr) (S : Sta) (O : List Addr) (n l : Addr) (A C : Nat → Addr), vs = [.ref h, .ref m] ∧ NumAt H h ls ∧ LawX H m S O n l A C ∧ WB.Ok S ∧ S.made ≤ 790 ∧ h ∉ O ∧ ls ∉ O ∧
  ∀ p H' d, Stp [h, ls] H H' → NumAt H' h ls → H p = none → DeedAt H' p d → Q (.ref p) H'
/-- a text whose signs are all names -/
structure Nms (z : Str) : Prop where
  pos : 0 < z.length
  len : z.length ≤ 8
  all : (z.cps.toList.all fun c => decide ((⟨#[c]⟩ : Str) ∈ nmS)) = true
theorem Nms.get {z : Str} (n : Nms z) {j : Nat} (h : (j : Int) < z.length) : ∃ c, atI z.cps.toList (j : Int) = some c ∧ (⟨#[c]⟩ : Str) ∈ nmS := by
  have hj : j < z.cps.toList.length := by
    have : z.length = z.cps.toList.length := by simp [Str.length]
    omega
  refine ⟨_, atI_nat (List.getElem?_eq_getElem hj), ?_⟩
  exact of_decide_eq_true (List.all_eq_true.mp n.all _ (List.getElem_mem hj))
theorem nms_cut (e : Int) (h : e = 3 ∨ e = 5 ∨ e = 8) : Nms (cutS "pqrstuvw" none (some e)) := by
  rcases h with rfl | rfl | rfl
  · exact ⟨by decide +kernel, by decide +kernel, by decide +kernel⟩
  · exact ⟨by decide +kernel, by decide +kernel, by decide +kernel⟩
  · exact ⟨by decide +kernel, by decide +kernel, by decide +kernel⟩
theorem nms_all : Nms "pqrstuvw" := ⟨by decide +kernel, by decide +kernel, by decide +kernel⟩
theorem three_at {a b c : V} : ∀ j : Nat, j < 3 → ([a, b, c] : List V)[j]? = some (if j = 0 then a else if j = 1 then b else c)
  | 0, _ => rfl
  | 1, _ => rfl
  | 2, _ => rfl
  | n + 3, h => absurd h (by omega)
theorem str_at {xs : List Str} {j : Nat} (h : (j : Int) < (xs.map V.str).length) : ∃ x ∈ xs, atI (xs.map V.str) (j : Int) = some (.str x) := by
  rw [List.length_map] at h
  have hj : j < xs.length := by omega
  exact ⟨xs[j], List.getElem_mem hj, atI_nat (by rw [List.getElem?_map, List.getElem?_eq_getElem hj]; rfl)⟩
theorem deed_make (T : Tx w K mg) {σ : L2.St} {H H6 : Hp} {h ls : Addr} {name : Str} {Y : V → Hp → Prop} (h0 : σ[0]? = some (some (.ref h))) (h3 : σ[3]? = some (some (.str name))) (nx : name ∈ nmS) (st6 : Stp [h, ls] H H6) (n6 : NumAt H6 h ls)
    (k : ∀ p H' d, Stp [h, ls] H H' → NumAt H' h ls → H p = none → DeedAt H' p d → Y (.ref p) H') (hn : NumAt H h ls) :
    tTup (tCons (tC (.str "make")) (tCons (tVar 3) (tCons (tOp (rIxL K) (tLst (tCons (tC (.str "record")) (tCons (tC (.str "row")) (tCons (tC (.str "book")) tNil)))) (tCG ⟨P, w, K, mg, base⟩ 2 "_law_next" (tCons (tVar 0) (tCons (tC (.int 3)) tNil)))) tNil))) σ H6 Y := by
  refine ⟨_, h3, by show 3 ≤ sizeLine; decide, fun L hL => ?_⟩
  have s7 : Same H6 (upd H6 L (.lst [.str "record", .str "row", .str "book"])) := same_new hL
  refine ⟨_, _, _, _, g__law_next T, ok__law_next T, by decide, _, h0, h, ls, 3, rfl, n6.same s7, by decide, by decide, fun q H8 q0 q1 st8 n8 => ?_⟩
  obtain ⟨j, rfl⟩ := nat_of q0
  have g8 := st8 _ _ upd_same (NumAt.fresh n6 hL)
  have st9 := (st6.trans' (Stp.of_same s7)).trans' st8
  obtain ⟨kd, ek, mk⟩ : ∃ kd : Str, ([.str "record", .str "row", .str "book"] : List V)[j]? = some (.str kd) ∧ kd ∈ (["record", "row", "book"] : List Str) := by
    rw [three_at j (by omega)]
    split
    · exact ⟨"record", rfl, by decide +kernel⟩
    · split
      · exact ⟨"row", rfl, by decide +kernel⟩
      · exact ⟨"book", rfl, by decide +kernel⟩
  refine ⟨L, _, j, .str kd, rfl, rfl, SqL.of g8, atI_nat ek, by show 3 ≤ sizeLine; decide, fun p hp => ?_⟩
  have sp : Same H8 (upd H8 p (.tup [.str "make", .str name, .str kd])) := same_new hp
  exact k p _ (.make name kd) (st9.trans' (Stp.of_same sp)) (n8.same sp) (stp_fresh hn st9 n8 hp) ⟨⟨nx, mk⟩, upd_same⟩
theorem deed_c (T : Tx w K mg) {cdv : Value} {A : Around} {outer : List Env} {s : Shared} {H0 : Hp} {E : XK} (hr : Room 2 (A.deeper (envOfC "_law_deed" (defScope s__law_deed) s.heap.objs.size (ga K "_law_deed") cdv))) : ∃ t, PSs (cxOf CX0 P w K mg base ["_law_h", "_law_m", "_law_every", "_law_name", "_law_some", "_law_other", "_law_turn", "_law_thing_here", "_law_part_here", "_law_value", "_law_watches", "_law_any_one", "_law_rows", "_law_goal"] "_law_deed" (defScope s__law_deed) (ga K "_law_deed") cdv A outer s H0 E).nox ((defBody s__law_deed).drop 16) t ∧ ∀ (D : Ends) (σ : L2.St) (H H1 : Hp) (h ls m M : Addr) (every name other : Str) (turn : Int) (kk : Key) (x7 x9 x10 x11 : Option V) (R3 : Addr) (gv : V) (xs7 : List V), σ = [some (.ref h), some (.ref m), some (.str every), some (.str name), some (.ref M), some (.str other), some (.int turn), x7, some (kV kk), x9, x10, x11, some (.ref R3), some gv] → NumAt H h ls → Stp [h, ls] H H1 → NumAt H1 h ls → Nms every → name ∈ nmS → other ∈ nmS → PartOk kk → (∀ p H' d, Stp [h, ls] H H' → NumAt H' h ls → H p = none → DeedAt H' p d → D.rt (.ref p) H') → xs7.length = 7 → H1 R3 = some (.lst xs7) → R3 ∉ [h, ls] → DLs H H1 xs7 → GoalOk gv → t D σ H1 := by
  have hu := hu_of hr
  refine ⟨_, (pss_cons (ps_set (i := 12) sc__law_deed.nd rfl (Or.inl rfl) (pe_op op_cat (pv 12) (pe_lst (pa_cons (pe_tup (pa_cons pe_str (pa_cons (pv 3) pa_nil))) (pa_cons (pe_tup (pa_cons pe_str (pa_cons (pv 3) (pa_cons (pe_cg (M := ⟨P, w, K, mg, base⟩) rfl hr rfl (pa_cons (pv 0) (pa_cons pe_int pa_nil))) pa_nil)))) (pa_cons (pe_tup (pa_cons pe_str (pa_cons (pv 3) (pa_cons pe_int pa_nil)))) pa_nil)))))) (pss_one (ps_ret (pe_ix ix_list (pe_op op_cat (pv 12) (pe_op op_rep (pe_lst (pa_cons (pe_tup (pa_cons pe_str (pa_cons (pe_ix ix_list (pe_lst (pa_cons (pv 5) (pa_cons (pv 3) pa_nil))) (pe_cg (M := ⟨P, w, K, mg, base⟩) rfl hr rfl (pa_cons (pv 0) (pa_cons pe_int pa_nil))) (fun _ _ => rfl)) (pa_cons (pv 13) pa_nil)))) pa_nil)) pe_int)) (pe_cg (M := ⟨P, w, K, mg, base⟩) rfl hr rfl (pa_cons (pv 0) (pa_cons pe_int pa_nil))) (fun _ _ => rfl))))), ?_⟩
  rintro D σ H H1 h ls m M every name other turn kk x7 x9 x10 x11 R3 gv xs7 rfl hn st0 n0 ev nx onm pk k lxs7 gR3 R3h dxs7 gok
  have fr : ∀ {H' : Hp} {p : Addr}, Stp [h, ls] H H' → NumAt H' h ls → H' p = none → H p = none := fun st n hp => stp_fresh hn st n hp
  have NN : ∀ {H1 : Hp} {L : Addr}, NumAt H1 h ls → H1 L = none → L ∉ [h, ls] := fun n1 => NumAt.fresh n1
  refine ⟨_, rfl, ?_⟩
  refine ⟨_, rfl, by show 2 ≤ sizeLine; decide, fun p8 hp8 => ?_⟩
  have p8h : p8 ∉ [h, ls] := NN n0 hp8
  have fp8 : H p8 = none := fr st0 n0 hp8
  have t1 : Same H1 (upd H1 p8 (.tup [.str "say", .str name])) := same_new hp8
  have gp8 : upd H1 p8 (.tup [.str "say", .str name]) p8 = some (.tup [.str "say", .str name]) := upd_same
  generalize upd H1 p8 (.tup [.str "say", .str name]) = G1 at t1 gp8 ⊢
  replace gR3 := t1 _ _ gR3
  replace dxs7 := dxs7.mono (Same.tup t1)
  have u1 := st0.trans' (Stp.of_same t1)
  have m1 := n0.same t1
  clear st0 n0 t1 hp8
  have dp8 : DLs H G1 [V.ref p8] := fun x hx => ⟨p8, .say name, by rw [List.mem_singleton.mp hx], fp8, nx, gp8⟩
  refine ⟨_, rfl, _, _, _, _, g__law_next T, ok__law_next T, by decide, _, rfl, h, ls, 100, rfl, m1, by decide, by decide, fun q2 G2 q2a q2b u2 m2 => ?_⟩
  obtain ⟨j2, rfl⟩ := nat_of q2a
  replace gR3 := u2 _ _ gR3 R3h
  replace dxs7 := dxs7.mono (NumAt_tup m1 u2)
  replace dp8 := dp8.mono (NumAt_tup m1 u2)
  replace u2 := u1.trans' u2
  clear u1 m1
  refine ⟨by show 3 ≤ sizeLine; decide, fun p9 hp9 => ?_⟩
  have p9h : p9 ∉ [h, ls] := NN m2 hp9
  have fp9 : H p9 = none := fr u2 m2 hp9
  have t3 : Same G2 (upd G2 p9 (.tup [.str "num", .str name, .int (j2 : Int)])) := same_new hp9
  have gp9 : upd G2 p9 (.tup [.str "num", .str name, .int (j2 : Int)]) p9 = some (.tup [.str "num", .str name, .int (j2 : Int)]) := upd_same
  generalize upd G2 p9 (.tup [.str "num", .str name, .int (j2 : Int)]) = G3 at t3 gp9 ⊢
  replace gR3 := t3 _ _ gR3
  replace dxs7 := dxs7.mono (Same.tup t3)
  replace dp8 := dp8.mono (Same.tup t3)
  have u3 := u2.trans' (Stp.of_same t3)
  have m3 := m2.same t3
  clear u2 m2 t3 hp9
  have dp9 : DLs H G3 [V.ref p9] := fun x hx => ⟨p9, .num name (j2 : Int), by rw [List.mem_singleton.mp hx], fp9, ⟨nx, by omega, by omega⟩, gp9⟩
  refine ⟨_, rfl, by show 3 ≤ sizeLine; decide, fun p10 hp10 => ?_⟩
  have p10h : p10 ∉ [h, ls] := NN m3 hp10
  have fp10 : H p10 = none := fr u3 m3 hp10
  have t4 : Same G3 (upd G3 p10 (.tup [.str "num", .str name, .int 0])) := same_new hp10
  have gp10 : upd G3 p10 (.tup [.str "num", .str name, .int 0]) p10 = some (.tup [.str "num", .str name, .int 0]) := upd_same
  generalize upd G3 p10 (.tup [.str "num", .str name, .int 0]) = G4 at t4 gp10 ⊢
  replace gR3 := t4 _ _ gR3
  replace dxs7 := dxs7.mono (Same.tup t4)
  replace dp8 := dp8.mono (Same.tup t4)
  replace dp9 := dp9.mono (Same.tup t4)
  have u4 := u3.trans' (Stp.of_same t4)
  have m4 := m3.same t4
  clear u3 m3 t4 hp10
  have dp10 : DLs H G4 [V.ref p10] := fun x hx => ⟨p10, .num name 0, by rw [List.mem_singleton.mp hx], fp10, ⟨nx, by decide, by decide⟩, gp10⟩
  refine ⟨by show 3 ≤ sizeLine; decide, fun R4 hR4 => ?_⟩
  have R4h : R4 ∉ [h, ls] := NN m4 hR4
  have fR4 : H R4 = none := fr u4 m4 hR4
  have t5 : Same G4 (upd G4 R4 (.lst [V.ref p8, .ref p9, .ref p10])) := same_new hR4
  have gR4 : upd G4 R4 (.lst [V.ref p8, .ref p9, .ref p10]) R4 = some (.lst [V.ref p8, .ref p9, .ref p10]) := upd_same
  generalize upd G4 R4 (.lst [V.ref p8, .ref p9, .ref p10]) = G5 at t5 gR4 ⊢
  replace gR3 := t5 _ _ gR3
  replace dxs7 := dxs7.mono (Same.tup t5)
  replace dp8 := dp8.mono (Same.tup t5)
  replace dp9 := dp9.mono (Same.tup t5)
  replace dp10 := dp10.mono (Same.tup t5)
  have u5 := u4.trans' (Stp.of_same t5)
  have m5 := m4.same t5
  clear u4 m4 t5 hR4
  have zR4 : ∃ xs3 : List V, xs3.length = 3 ∧ G5 R4 = some (.lst xs3) ∧ DLs H G5 xs3 := ⟨_, rfl, gR4, (dp8.app (dp9.app dp10))⟩
  clear gR4 dp8 dp9 dp10
  obtain ⟨xs3, lxs3, gR4, dxs3⟩ := zR4
  refine ⟨R3, R4, xs7, xs3, rfl, rfl, gR3, gR4, by rw [lxs7, lxs3]; decide, fun R5 hR5 => ?_⟩
  have R5h : R5 ∉ [h, ls] := NN m5 hR5
  have fR5 : H R5 = none := fr u5 m5 hR5
  have t6 : Same G5 (upd G5 R5 (.lst (xs7 ++ xs3))) := same_new hR5
  have gR5 : upd G5 R5 (.lst (xs7 ++ xs3)) R5 = some (.lst (xs7 ++ xs3)) := upd_same
  generalize upd G5 R5 (.lst (xs7 ++ xs3)) = G6 at t6 gR5 ⊢
  replace gR3 := t6 _ _ gR3
  replace gR4 := t6 _ _ gR4
  replace dxs7 := dxs7.mono (Same.tup t6)
  replace dxs3 := dxs3.mono (Same.tup t6)
  have u6 := u5.trans' (Stp.of_same t6)
  have m6 := m5.same t6
  clear u5 m5 t6 hR5
  have zR5 : ∃ xs10 : List V, xs10.length = 10 ∧ G6 R5 = some (.lst xs10) ∧ DLs H G6 xs10 := ⟨_, by rw [List.length_append, lxs7, lxs3], gR5, dxs7.app dxs3⟩
  clear gR5 dxs7 dxs3 gR3 gR4
  obtain ⟨xs10, lxs10, gR5, dxs10⟩ := zR5
  refine ⟨_, rfl, ?_⟩
  refine ⟨_, rfl, _, rfl, by show 2 ≤ sizeLine; decide, fun L6 hL6 => ?_⟩
  have L6h : L6 ∉ [h, ls] := NN m6 hL6
  have fL6 : H L6 = none := fr u6 m6 hL6
  have t7 : Same G6 (upd G6 L6 (.lst [.str other, .str name])) := same_new hL6
  have gL6 : upd G6 L6 (.lst [.str other, .str name]) L6 = some (.lst [.str other, .str name]) := upd_same
  generalize upd G6 L6 (.lst [.str other, .str name]) = G7 at t7 gL6 ⊢
  replace gR5 := t7 _ _ gR5
  replace dxs10 := dxs10.mono (Same.tup t7)
  have u7 := u6.trans' (Stp.of_same t7)
  have m7 := m6.same t7
  clear u6 m6 t7 hL6
  refine ⟨_, _, _, _, g__law_next T, ok__law_next T, by decide, _, rfl, h, ls, 2, rfl, m7, by decide, by decide, fun q8 G8 q8a q8b u8 m8 => ?_⟩
  obtain ⟨j8, rfl⟩ := nat_of q8a
  replace gR5 := u8 _ _ gR5 R5h
  replace gL6 := u8 _ _ gL6 L6h
  replace dxs10 := dxs10.mono (NumAt_tup m7 u8)
  replace u8 := u7.trans' u8
  clear u7 m7
  obtain ⟨lx2, el, ln⟩ : ∃ lx2 : Str, ([.str other, .str name] : List V)[j8]? = some (.str lx2) ∧ lx2 ∈ nmS := by
    rw [two_at j8 (by omega)]
    split
    · exact ⟨_, rfl, onm⟩
    · exact ⟨_, rfl, nx⟩
  refine ⟨L6, _, j8, .str lx2, rfl, rfl, SqL.of gL6, atI_nat el, _, rfl, by show 3 ≤ sizeLine; decide, fun p11 hp11 => ?_⟩
  have p11h : p11 ∉ [h, ls] := NN m8 hp11
  have fp11 : H p11 = none := fr u8 m8 hp11
  have t9 : Same G8 (upd G8 p11 (.tup [.str "last", .str lx2, gv])) := same_new hp11
  have gp11 : upd G8 p11 (.tup [.str "last", .str lx2, gv]) p11 = some (.tup [.str "last", .str lx2, gv]) := upd_same
  generalize upd G8 p11 (.tup [.str "last", .str lx2, gv]) = G9 at t9 gp11 ⊢
  replace gR5 := t9 _ _ gR5
  replace dxs10 := dxs10.mono (Same.tup t9)
  have u9 := u8.trans' (Stp.of_same t9)
  have m9 := m8.same t9
  clear u8 m8 t9 hp11
  have dp11 : DLs H G9 [V.ref p11] := fun x hx => ⟨p11, .last lx2 gv, by rw [List.mem_singleton.mp hx], fp11, ⟨ln, gok⟩, gp11⟩
  refine ⟨by show 1 ≤ sizeLine; decide, fun R6 hR6 => ?_⟩
  have R6h : R6 ∉ [h, ls] := NN m9 hR6
  have fR6 : H R6 = none := fr u9 m9 hR6
  have t10 : Same G9 (upd G9 R6 (.lst [V.ref p11])) := same_new hR6
  have gR6 : upd G9 R6 (.lst [V.ref p11]) R6 = some (.lst [V.ref p11]) := upd_same
  generalize upd G9 R6 (.lst [V.ref p11]) = G10 at t10 gR6 ⊢
  replace gR5 := t10 _ _ gR5
  replace dxs10 := dxs10.mono (Same.tup t10)
  replace dp11 := dp11.mono (Same.tup t10)
  have u10 := u9.trans' (Stp.of_same t10)
  have m10 := m9.same t10
  clear u9 m9 t10 hR6
  have zR6 : ∃ xs1 : List V, xs1.length = 1 ∧ G10 R6 = some (.lst xs1) ∧ DLs H G10 xs1 := ⟨_, rfl, gR6, dp11⟩
  clear gR6 dp11
  obtain ⟨xs1, lxs1, gR6, dxs1⟩ := zR6
  refine ⟨R6, 2, xs1, rfl, rfl, gR6, by decide, by decide, by rw [lxs1]; decide, fun R7 hR7 => ?_⟩
  have R7h : R7 ∉ [h, ls] := NN m10 hR7
  have fR7 : H R7 = none := fr u10 m10 hR7
  have t11 : Same G10 (upd G10 R7 (.lst (List.replicate (2 : Int).toNat xs1).flatten)) := same_new hR7
  have gR7 : upd G10 R7 (.lst (List.replicate (2 : Int).toNat xs1).flatten) R7 = some (.lst (List.replicate (2 : Int).toNat xs1).flatten) := upd_same
  generalize upd G10 R7 (.lst (List.replicate (2 : Int).toNat xs1).flatten) = G11 at t11 gR7 ⊢
  replace gR5 := t11 _ _ gR5
  replace gR6 := t11 _ _ gR6
  replace dxs10 := dxs10.mono (Same.tup t11)
  replace dxs1 := dxs1.mono (Same.tup t11)
  have u11 := u10.trans' (Stp.of_same t11)
  have m11 := m10.same t11
  clear u10 m10 t11 hR7
  have zR7 : ∃ xz : List V, xz.length = 2 ∧ G11 R7 = some (.lst xz) ∧ DLs H G11 xz := ⟨xs1 ++ xs1, by rw [List.length_append, lxs1], by rw [gR7]; show some (HO.lst (List.replicate 2 xs1).flatten) = _; simp [List.replicate], dxs1.app dxs1⟩
  clear gR7 dxs1 gR6
  obtain ⟨xz, lxz, gR7, dxz⟩ := zR7
  refine ⟨R5, R7, xs10, xz, rfl, rfl, gR5, gR7, by rw [lxs10, lxz]; decide, fun R8 hR8 => ?_⟩
  have R8h : R8 ∉ [h, ls] := NN m11 hR8
  have fR8 : H R8 = none := fr u11 m11 hR8
  have t12 : Same G11 (upd G11 R8 (.lst (xs10 ++ xz))) := same_new hR8
  have gR8 : upd G11 R8 (.lst (xs10 ++ xz)) R8 = some (.lst (xs10 ++ xz)) := upd_same
  generalize upd G11 R8 (.lst (xs10 ++ xz)) = G12 at t12 gR8 ⊢
  replace gR5 := t12 _ _ gR5
  replace gR7 := t12 _ _ gR7
  replace dxs10 := dxs10.mono (Same.tup t12)
  replace dxz := dxz.mono (Same.tup t12)
  have u12 := u11.trans' (Stp.of_same t12)
  have m12 := m11.same t12
  clear u11 m11 t12 hR8
  have zR8 : ∃ xs12 : List V, xs12.length = 12 ∧ G12 R8 = some (.lst xs12) ∧ DLs H G12 xs12 := ⟨_, by rw [List.length_append, lxs10, lxz], gR8, dxs10.app dxz⟩
  clear gR8 dxs10 dxz gR5 gR7
  obtain ⟨xs12, lxs12, gR8, dxs12⟩ := zR8
  refine ⟨_, _, _, _, g__law_next T, ok__law_next T, by decide, _, rfl, h, ls, 12, rfl, m12, by decide, by decide, fun q13 G13 q13a q13b u13 m13 => ?_⟩
  obtain ⟨j13, rfl⟩ := nat_of q13a
  replace gR8 := u13 _ _ gR8 R8h
  replace dxs12 := dxs12.mono (NumAt_tup m12 u13)
  replace u13 := u12.trans' u13
  clear u12 m12
  have hi : j13 < xs12.length := by rw [lxs12]; omega
  obtain ⟨p, dd, ep, hp0, hdd⟩ := dxs12 _ (List.getElem_mem hi)
  exact ⟨R8, _, j13, .ref p, rfl, rfl, SqL.of gR8, atI_nat (by rw [List.getElem?_eq_getElem hi, ep]), k p _ dd u13 m13 hp0 hdd⟩
theorem deed_b (T : Tx w K mg) {cdv : Value} {A : Around} {outer : List Env} {s : Shared} {H0 : Hp} {E : XK} (hr : Room 2 (A.deeper (envOfC "_law_deed" (defScope s__law_deed) s.heap.objs.size (ga K "_law_deed") cdv))) : ∃ t, PSs (cxOf CX0 P w K mg base ["_law_h", "_law_m", "_law_every", "_law_name", "_law_some", "_law_other", "_law_turn", "_law_thing_here", "_law_part_here", "_law_value", "_law_watches", "_law_any_one", "_law_rows", "_law_goal"] "_law_deed" (defScope s__law_deed) (ga K "_law_deed") cdv A outer s H0 E).nox ((defBody s__law_deed).drop 14) t ∧ ∀ (D : Ends) (σ : L2.St) (H H1 : Hp) (h ls m M : Addr) (every name other : Str) (turn : Int) (kk : Key) (x7 x9 x13 : Option V) (W9 R1 : Addr) (any : Str) (ws : List Str) (xs5 : List V), σ = [some (.ref h), some (.ref m), some (.str every), some (.str name), some (.ref M), some (.str other), some (.int turn), x7, some (kV kk), x9, some (.ref W9), some (.str any), some (.ref R1), x13] → NumAt H h ls → Stp [h, ls] H H1 → NumAt H1 h ls → Nms every → name ∈ nmS → other ∈ nmS → PartOk kk → (∀ p H' d, Stp [h, ls] H H' → NumAt H' h ls → H p = none → DeedAt H' p d → D.rt (.ref p) H') → any ∈ nmS → ws ≠ [] → ws.length ≤ 8 → (∀ x ∈ ws, x ∈ nmS) → H1 W9 = some (.lst (ws.map V.str)) → W9 ∉ [h, ls] → xs5.length = 5 → H1 R1 = some (.lst xs5) → R1 ∉ [h, ls] → DLs H H1 xs5 → t D σ H1 := by
  have hu := hu_of hr
  obtain ⟨t2, p2, q2⟩ := deed_c (P := P) (base := base) T (cdv := cdv) (A := A) (outer := outer) (s := s) (H0 := H0) (E := E) hr
  refine ⟨_, (pss_cons (ps_set (i := 12) sc__law_deed.nd rfl (Or.inl rfl) (pe_op op_cat (pv 12) (pe_lst (pa_cons (pe_tup (pa_cons pe_str (pa_cons (pv 3) (pa_cons (pv 11) pa_nil)))) (pa_cons (pe_tup (pa_cons pe_str (pa_cons (pv 3) (pa_cons (pe_ix ix_list (pv 10) (pe_cg (M := ⟨P, w, K, mg, base⟩) rfl hr rfl (pa_cons (pv 0) (pa_cons (pe_callB call_len_seq (by rfl) (z_len T) PySem.boot_len (pa_cons (pv 10) pa_nil)) pa_nil))) (fun _ _ => rfl)) pa_nil)))) pa_nil))))) (pss_cons (ps_set (i := 13) sc__law_deed.nd rfl (Or.inl rfl) (pe_ix ix_list (pe_lst (pa_cons pe_non (pa_cons (pe_ix ix_str (pv 2) (pe_cg (M := ⟨P, w, K, mg, base⟩) rfl hr rfl (pa_cons (pv 0) (pa_cons (pe_callB call_len_str (by rfl) (z_len T) PySem.boot_len (pa_cons (pv 2) pa_nil)) pa_nil))) (fun _ _ => rfl)) pa_nil))) (pe_cg (M := ⟨P, w, K, mg, base⟩) rfl hr rfl (pa_cons (pv 0) (pa_cons pe_int pa_nil))) (fun _ _ => rfl))) p2)), ?_⟩
  rintro D σ H H1 h ls m M every name other turn kk x7 x9 x13 W9 R1 any ws xs5 rfl hn st0 n0 ev nx onm pk k anm wne w8 wnm gW9 nWh lxs5 gR1 R1h dxs5
  have fr : ∀ {H' : Hp} {p : Addr}, Stp [h, ls] H H' → NumAt H' h ls → H' p = none → H p = none := fun st n hp => stp_fresh hn st n hp
  have NN : ∀ {H1 : Hp} {L : Addr}, NumAt H1 h ls → H1 L = none → L ∉ [h, ls] := fun n1 => NumAt.fresh n1
  have lw : (ws.map V.str).length = ws.length := List.length_map _
  have wl : 0 < ws.length := List.length_pos_iff.mpr wne
  refine ⟨_, rfl, ?_⟩
  refine ⟨_, rfl, _, rfl, by show 3 ≤ sizeLine; decide, fun p6 hp6 => ?_⟩
  have p6h : p6 ∉ [h, ls] := NN n0 hp6
  have fp6 : H p6 = none := fr st0 n0 hp6
  have t1 : Same H1 (upd H1 p6 (.tup [.str "watch", .str name, .str any])) := same_new hp6
  have gp6 : upd H1 p6 (.tup [.str "watch", .str name, .str any]) p6 = some (.tup [.str "watch", .str name, .str any]) := upd_same
  generalize upd H1 p6 (.tup [.str "watch", .str name, .str any]) = G1 at t1 gp6 ⊢
  replace gW9 := t1 _ _ gW9
  replace gR1 := t1 _ _ gR1
  replace dxs5 := dxs5.mono (Same.tup t1)
  have u1 := st0.trans' (Stp.of_same t1)
  have m1 := n0.same t1
  clear st0 n0 t1 hp6
  have dp6 : DLs H G1 [V.ref p6] := fun x hx => ⟨p6, .watch name any, by rw [List.mem_singleton.mp hx], fp6, ⟨nx, anm⟩, gp6⟩
  refine ⟨_, rfl, _, rfl, _, _, _, _, g__law_next T, ok__law_next T, by decide, _, rfl, _, rfl, W9, _, rfl, .inl (SqL.of gW9), h, ls, _, rfl, m1, by rw [lw]; omega, by rw [lw]; omega, fun q2 G2 q2a q2b u2 m2 => ?_⟩
  obtain ⟨j2, rfl⟩ := nat_of q2a
  replace gW9 := u2 _ _ gW9 nWh
  replace gR1 := u2 _ _ gR1 R1h
  replace dxs5 := dxs5.mono (NumAt_tup m1 u2)
  replace dp6 := dp6.mono (NumAt_tup m1 u2)
  replace u2 := u1.trans' u2
  clear u1 m1
  obtain ⟨wa, wam, aw⟩ := str_at q2b
  have wanm := wnm wa wam
  refine ⟨W9, _, j2, .str wa, rfl, rfl, SqL.of gW9, aw, by show 3 ≤ sizeLine; decide, fun p7 hp7 => ?_⟩
  have p7h : p7 ∉ [h, ls] := NN m2 hp7
  have fp7 : H p7 = none := fr u2 m2 hp7
  have t3 : Same G2 (upd G2 p7 (.tup [.str "ask", .str name, .str wa])) := same_new hp7
  have gp7 : upd G2 p7 (.tup [.str "ask", .str name, .str wa]) p7 = some (.tup [.str "ask", .str name, .str wa]) := upd_same
  generalize upd G2 p7 (.tup [.str "ask", .str name, .str wa]) = G3 at t3 gp7 ⊢
  replace gR1 := t3 _ _ gR1
  replace dxs5 := dxs5.mono (Same.tup t3)
  replace dp6 := dp6.mono (Same.tup t3)
  have u3 := u2.trans' (Stp.of_same t3)
  have m3 := m2.same t3
  clear u2 m2 t3 hp7
  have dp7 : DLs H G3 [V.ref p7] := fun x hx => ⟨p7, .ask name wa, by rw [List.mem_singleton.mp hx], fp7, ⟨nx, wanm⟩, gp7⟩
  refine ⟨by show 2 ≤ sizeLine; decide, fun R2 hR2 => ?_⟩
  have R2h : R2 ∉ [h, ls] := NN m3 hR2
  have fR2 : H R2 = none := fr u3 m3 hR2
  have t4 : Same G3 (upd G3 R2 (.lst [V.ref p6, .ref p7])) := same_new hR2
  have gR2 : upd G3 R2 (.lst [V.ref p6, .ref p7]) R2 = some (.lst [V.ref p6, .ref p7]) := upd_same
  generalize upd G3 R2 (.lst [V.ref p6, .ref p7]) = G4 at t4 gR2 ⊢
  replace gR1 := t4 _ _ gR1
  replace dxs5 := dxs5.mono (Same.tup t4)
  replace dp6 := dp6.mono (Same.tup t4)
  replace dp7 := dp7.mono (Same.tup t4)
  have u4 := u3.trans' (Stp.of_same t4)
  have m4 := m3.same t4
  clear u3 m3 t4 hR2
  have zR2 : ∃ xs2 : List V, xs2.length = 2 ∧ G4 R2 = some (.lst xs2) ∧ DLs H G4 xs2 := ⟨_, rfl, gR2, (dp6.app dp7)⟩
  clear gR2 dp6 dp7
  obtain ⟨xs2, lxs2, gR2, dxs2⟩ := zR2
  refine ⟨R1, R2, xs5, xs2, rfl, rfl, gR1, gR2, by rw [lxs5, lxs2]; decide, fun R3 hR3 => ?_⟩
  have R3h : R3 ∉ [h, ls] := NN m4 hR3
  have fR3 : H R3 = none := fr u4 m4 hR3
  have t5 : Same G4 (upd G4 R3 (.lst (xs5 ++ xs2))) := same_new hR3
  have gR3 : upd G4 R3 (.lst (xs5 ++ xs2)) R3 = some (.lst (xs5 ++ xs2)) := upd_same
  generalize upd G4 R3 (.lst (xs5 ++ xs2)) = G5 at t5 gR3 ⊢
  replace gR1 := t5 _ _ gR1
  replace gR2 := t5 _ _ gR2
  replace dxs5 := dxs5.mono (Same.tup t5)
  replace dxs2 := dxs2.mono (Same.tup t5)
  have u5 := u4.trans' (Stp.of_same t5)
  have m5 := m4.same t5
  clear u4 m4 t5 hR3
  have zR3 : ∃ xs7 : List V, xs7.length = 7 ∧ G5 R3 = some (.lst xs7) ∧ DLs H G5 xs7 := ⟨_, by rw [List.length_append, lxs5, lxs2], gR3, dxs5.app dxs2⟩
  clear gR3 dxs5 dxs2 gR1 gR2
  obtain ⟨xs7, lxs7, gR3, dxs7⟩ := zR3
  have evl := ev.len
  refine ⟨_, rfl, _, _, _, _, g__law_next T, ok__law_next T, by decide, _, rfl, _, rfl, every, rfl, Nat.le_trans evl (by decide), h, ls, every.length, rfl, m5, by have := ev.pos; omega, by omega, fun q6 G6 q6a q6b u6 m6 => ?_⟩
  obtain ⟨j6, rfl⟩ := nat_of q6a
  replace gR3 := u6 _ _ gR3 R3h
  replace dxs7 := dxs7.mono (NumAt_tup m5 u6)
  replace u6 := u5.trans' u6
  clear u5 m5
  obtain ⟨cg, ag, yg⟩ := ev.get q6b
  refine ⟨every, j6, cg, rfl, rfl, Nat.le_trans evl (by decide), ag, by show 2 ≤ sizeLine; decide, fun L5 hL5 => ?_⟩
  have L5h : L5 ∉ [h, ls] := NN m6 hL5
  have fL5 : H L5 = none := fr u6 m6 hL5
  have t7 : Same G6 (upd G6 L5 (.lst [.non, .str ⟨#[cg]⟩])) := same_new hL5
  have gL5 : upd G6 L5 (.lst [.non, .str ⟨#[cg]⟩]) L5 = some (.lst [.non, .str ⟨#[cg]⟩]) := upd_same
  generalize upd G6 L5 (.lst [.non, .str ⟨#[cg]⟩]) = G7 at t7 gL5 ⊢
  replace gR3 := t7 _ _ gR3
  replace dxs7 := dxs7.mono (Same.tup t7)
  have u7 := u6.trans' (Stp.of_same t7)
  have m7 := m6.same t7
  clear u6 m6 t7 hL5
  refine ⟨_, _, _, _, g__law_next T, ok__law_next T, by decide, _, rfl, h, ls, 2, rfl, m7, by decide, by decide, fun q8 G8 q8a q8b u8 m8 => ?_⟩
  obtain ⟨j8, rfl⟩ := nat_of q8a
  replace gR3 := u8 _ _ gR3 R3h
  replace gL5 := u8 _ _ gL5 L5h
  replace dxs7 := dxs7.mono (NumAt_tup m7 u8)
  replace u8 := u7.trans' u8
  clear u7 m7
  obtain ⟨gv, eg, gok⟩ : ∃ gv, ([.non, .str ⟨#[cg]⟩] : List V)[j8]? = some gv ∧ GoalOk gv := by
    rw [two_at j8 (by omega)]
    split
    · exact ⟨_, rfl, .inl rfl⟩
    · exact ⟨_, rfl, .inr ⟨_, yg, rfl⟩⟩
  refine ⟨L5, _, j8, gv, rfl, rfl, SqL.of gL5, atI_nat eg, ?_⟩
  exact q2 _ _ H G8 h ls m M every name other turn kk _ _ _ _ R3 gv xs7 rfl hn u8 m8 ev nx onm pk k lxs7 gR3 R3h dxs7 gok
theorem deed_a (T : Tx w K mg) {cdv : Value} {A : Around} {outer : List Env} {s : Shared} {H0 : Hp} {E : XK} (hr : Room 2 (A.deeper (envOfC "_law_deed" (defScope s__law_deed) s.heap.objs.size (ga K "_law_deed") cdv))) : ∃ t, PSs (cxOf CX0 P w K mg base ["_law_h", "_law_m", "_law_every", "_law_name", "_law_some", "_law_other", "_law_turn", "_law_thing_here", "_law_part_here", "_law_value", "_law_watches", "_law_any_one", "_law_rows", "_law_goal"] "_law_deed" (defScope s__law_deed) (ga K "_law_deed") cdv A outer s H0 E).nox ((defBody s__law_deed).drop 10) t ∧ ∀ (D : Ends) (σ : L2.St) (H H1 : Hp) (h ls m M : Addr) (every name other : Str) (turn : Int) (kk : Key) (x7 x9 x10 x11 x12 x13 : Option V) (S : Sta) (O : List Addr) (n l : Addr) (A C : Nat → Addr), σ = [some (.ref h), some (.ref m), some (.str every), some (.str name), some (.ref M), some (.str other), some (.int turn), x7, some (kV kk), x9, x10, x11, x12, x13] → NumAt H h ls → Stp [h, ls] H H1 → NumAt H1 h ls → Nms every → name ∈ nmS → other ∈ nmS → PartOk kk → (∀ p H' d, Stp [h, ls] H H' → NumAt H' h ls → H p = none → DeedAt H' p d → D.rt (.ref p) H') → LawX H m S O n l A C → WB.Ok S → S.made ≤ 790 → h ∉ O → ls ∉ O → t D σ H1 := by
  have hu := hu_of hr
  obtain ⟨t2, p2, q2⟩ := deed_b (P := P) (base := base) T (cdv := cdv) (A := A) (outer := outer) (s := s) (H0 := H0) (E := E) hr
  refine ⟨_, (pss_cons (ps_set (i := 10) sc__law_deed.nd rfl (Or.inl rfl) (pe_cg (M := ⟨P, w, K, mg, base⟩) rfl hr rfl (pa_cons (pv 1) (pa_cons (pe_lst (pa_cons pe_str pa_nil)) pa_nil)))) (pss_cons (ps_set (i := 11) sc__law_deed.nd rfl (Or.inl rfl) (pe_cg (M := ⟨P, w, K, mg, base⟩) rfl hr rfl (pa_cons (pv 1) (pa_cons (pe_lst (pa_cons pe_str (pa_cons pe_str (pa_cons pe_str (pa_cons pe_str pa_nil))))) pa_nil)))) (pss_cons (ps_set (i := 11) sc__law_deed.nd rfl (Or.inl rfl) (pe_ix ix_list (pe_lst (pa_cons (pv 5) (pa_cons (pe_ix ix_list (pv 11) (pe_cg (M := ⟨P, w, K, mg, base⟩) rfl hr rfl (pa_cons (pv 0) (pa_cons (pe_callB call_len_seq (by rfl) (z_len T) PySem.boot_len (pa_cons (pv 11) pa_nil)) pa_nil))) (fun _ _ => rfl)) (pa_cons (pe_ix ix_str pe_str (pe_cg (M := ⟨P, w, K, mg, base⟩) rfl hr rfl (pa_cons (pv 0) (pa_cons pe_int pa_nil))) (fun _ _ => rfl)) pa_nil)))) (pe_cg (M := ⟨P, w, K, mg, base⟩) rfl hr rfl (pa_cons (pv 0) (pa_cons pe_int pa_nil))) (fun _ _ => rfl))) (pss_cons (ps_set (i := 12) sc__law_deed.nd rfl (Or.inl rfl) (pe_lst (pa_cons (pe_tup (pa_cons pe_str (pa_cons (pv 5) (pa_cons (pv 8) pa_nil)))) (pa_cons (pe_tup (pa_cons pe_str (pa_cons (pv 3) (pa_cons (pv 5) pa_nil)))) (pa_cons (pe_tup (pa_cons pe_str (pa_cons (pv 3) pa_nil))) (pa_cons (pe_tup (pa_cons pe_str (pa_cons (pv 5) pa_nil))) (pa_cons (pe_tup (pa_cons pe_str pa_nil)) pa_nil))))))) p2)))), ?_⟩
  rintro D σ H H8 h ls m M every name other turn kk x7 x9 x10 x11 x12 x13 S O n l A' C' rfl hn st8 n8 ev nx onm pk k X ok hm hO lO
  have XX : ∀ {H' : Hp}, Stp [h, ls] H H' → LawX H' m S O n l A' C' := fun {H'} st => X.stp st (NumAt_tup hn st) fun b hb z => by
    rcases List.mem_cons.mp z with z | z
    · exact hO (z ▸ hb)
    · exact lO (List.mem_singleton.mp z ▸ hb)
  have NN : ∀ {H1 : Hp} {L : Addr}, NumAt H1 h ls → H1 L = none → L ∉ [h, ls] := fun n1 => NumAt.fresh n1
  -- watches
  refine ⟨_, _, _, _, g__law_held T, ok__law_held T, by decide, _, rfl, by show 1 ≤ sizeLine; decide, fun L9 hL9 => ?_⟩
  have s9 : Same H8 (upd H8 L9 (.lst [.str "watch"])) := same_new hL9
  have st9 := st8.trans' (Stp.of_same s9)
  refine ⟨m, L9, S, O, n, l, A', C', ["watch"], rfl, XX st9, ok, hm, upd_same, by decide, fun W9 H9 ws s9' nW9 gW9 wne w8 wnm => ?_⟩
  replace st9 := st9.trans' (Stp.of_same s9')
  have n9 := (n8.same s9).same s9'
  have nWh : W9 ∉ [h, ls] := NN (n8.same s9) nW9
  -- any one
  refine ⟨_, _, _, _, g__law_held T, ok__law_held T, by decide, _, rfl, by show 4 ≤ sizeLine; decide, fun L10 hL10 => ?_⟩
  have s10 : Same H9 (upd H9 L10 (.lst [.str "record", .str "row", .str "book", .str "watch"])) := same_new hL10
  have st10 := st9.trans' (Stp.of_same s10)
  refine ⟨m, L10, S, O, n, l, A', C', ["record", "row", "book", "watch"], rfl, XX st10, ok, hm, upd_same, by decide, fun Y10 H10 ys s10' nY10 gY10 yne y8 ynm => ?_⟩
  replace st10 := st10.trans' (Stp.of_same s10')
  have n10 := (n9.same s10).same s10'
  have nYh : Y10 ∉ [h, ls] := NN (n9.same s10) nY10
  have gW10 := s10' _ _ (s10 _ _ gW9)
  have ly : (ys.map V.str).length = ys.length := List.length_map _
  have yl : 0 < ys.length := List.length_pos_iff.mpr yne
  have lw : (ws.map V.str).length = ws.length := List.length_map _
  have wl : 0 < ws.length := List.length_pos_iff.mpr wne
  refine ⟨_, rfl, _, rfl, _, _, _, _, g__law_next T, ok__law_next T, by decide, _, rfl, _, rfl, Y10, _, rfl, .inl (SqL.of gY10), h, ls, _, rfl, n10, by rw [ly]; omega, by rw [ly]; omega, fun q11 H11 q110 q111 st11 n11 => ?_⟩
  obtain ⟨j11, rfl⟩ := nat_of q110
  have gY11 := st11 _ _ gY10 nYh
  have gW11 := st11 _ _ gW10 nWh
  replace st11 := st10.trans' st11
  obtain ⟨y11, ym, a11⟩ := str_at q111
  refine ⟨Y10, _, j11, .str y11, rfl, rfl, SqL.of gY11, a11, ?_⟩
  refine ⟨_, _, _, _, g__law_next T, ok__law_next T, by decide, _, rfl, h, ls, 8, rfl, n11, by decide, by decide, fun q12 H12 q120 q121 st12 n12 => ?_⟩
  obtain ⟨j12, rfl⟩ := nat_of q120
  have gW12 := st12 _ _ gW11 nWh
  replace st12 := st11.trans' st12
  obtain ⟨c12, a12, y12⟩ := nms_all.get (j := j12) (by show (j12 : Int) < 8; exact q121)
  refine ⟨"pqrstuvw", j12, c12, rfl, rfl, by decide +kernel, a12, by show 3 ≤ sizeLine; decide, fun L12 hL12 => ?_⟩
  have s12 : Same H12 (upd H12 L12 (.lst [.str other, .str y11, .str ⟨#[c12]⟩])) := same_new hL12
  refine ⟨_, _, _, _, g__law_next T, ok__law_next T, by decide, _, rfl, h, ls, 3, rfl, n12.same s12, by decide, by decide, fun q13 H13 q130 q131 st13 n13 => ?_⟩
  obtain ⟨j13, rfl⟩ := nat_of q130
  have gL13 := st13 _ _ upd_same (NN n12 hL12)
  have gW13 := st13 _ _ (s12 _ _ gW12) nWh
  replace st13 := (st12.trans' (Stp.of_same s12)).trans' st13
  obtain ⟨any, ea, anm⟩ : ∃ any : Str, ([.str other, .str y11, .str ⟨#[c12]⟩] : List V)[j13]? = some (.str any) ∧ any ∈ nmS := by
    rw [three_at j13 (by omega)]
    split
    · exact ⟨_, rfl, onm⟩
    · split
      · exact ⟨_, rfl, ynm y11 ym⟩
      · exact ⟨_, rfl, y12⟩
  refine ⟨L12, _, j13, .str any, rfl, rfl, SqL.of gL13, atI_nat ea, ?_⟩
  have fr : ∀ {H' : Hp} {p : Addr}, Stp [h, ls] H H' → NumAt H' h ls → H' p = none → H p = none := fun st n hp => stp_fresh hn st n hp
  refine ⟨_, rfl, _, rfl, by show 3 ≤ sizeLine; decide, fun p1 hp1 => ?_⟩
  have p1h : p1 ∉ [h, ls] := NN n13 hp1
  have fp1 : H p1 = none := fr st13 n13 hp1
  have t1 : Same H13 (upd H13 p1 (.tup [.str "cut", .str other, kV kk])) := same_new hp1
  have gp1 : upd H13 p1 (.tup [.str "cut", .str other, kV kk]) p1 = some (.tup [.str "cut", .str other, kV kk]) := upd_same
  generalize upd H13 p1 (.tup [.str "cut", .str other, kV kk]) = G1 at t1 gp1 ⊢
  replace gW13 := t1 _ _ gW13
  have u1 := st13.trans' (Stp.of_same t1)
  have m1 := n13.same t1
  clear st13 n13 t1 hp1
  have dp1 : DLs H G1 [V.ref p1] := fun x hx => ⟨p1, .cut other kk, by rw [List.mem_singleton.mp hx], fp1, ⟨onm, pk⟩, gp1⟩
  refine ⟨_, rfl, _, rfl, by show 3 ≤ sizeLine; decide, fun p2 hp2 => ?_⟩
  have p2h : p2 ∉ [h, ls] := NN m1 hp2
  have fp2 : H p2 = none := fr u1 m1 hp2
  have t2 : Same G1 (upd G1 p2 (.tup [.str "copy", .str name, .str other])) := same_new hp2
  have gp2 : upd G1 p2 (.tup [.str "copy", .str name, .str other]) p2 = some (.tup [.str "copy", .str name, .str other]) := upd_same
  generalize upd G1 p2 (.tup [.str "copy", .str name, .str other]) = G2 at t2 gp2 ⊢
  replace gW13 := t2 _ _ gW13
  replace dp1 := dp1.mono (Same.tup t2)
  have u2 := u1.trans' (Stp.of_same t2)
  have m2 := m1.same t2
  clear u1 m1 t2 hp2
  have dp2 : DLs H G2 [V.ref p2] := fun x hx => ⟨p2, .copy name other, by rw [List.mem_singleton.mp hx], fp2, ⟨nx, onm⟩, gp2⟩
  refine ⟨_, rfl, by show 2 ≤ sizeLine; decide, fun p3 hp3 => ?_⟩
  have p3h : p3 ∉ [h, ls] := NN m2 hp3
  have fp3 : H p3 = none := fr u2 m2 hp3
  have t3 : Same G2 (upd G2 p3 (.tup [.str "drop", .str name])) := same_new hp3
  have gp3 : upd G2 p3 (.tup [.str "drop", .str name]) p3 = some (.tup [.str "drop", .str name]) := upd_same
  generalize upd G2 p3 (.tup [.str "drop", .str name]) = G3 at t3 gp3 ⊢
  replace gW13 := t3 _ _ gW13
  replace dp1 := dp1.mono (Same.tup t3)
  replace dp2 := dp2.mono (Same.tup t3)
  have u3 := u2.trans' (Stp.of_same t3)
  have m3 := m2.same t3
  clear u2 m2 t3 hp3
  have dp3 : DLs H G3 [V.ref p3] := fun x hx => ⟨p3, .drop name, by rw [List.mem_singleton.mp hx], fp3, nx, gp3⟩
  refine ⟨_, rfl, by show 2 ≤ sizeLine; decide, fun p4 hp4 => ?_⟩
  have p4h : p4 ∉ [h, ls] := NN m3 hp4
  have fp4 : H p4 = none := fr u3 m3 hp4
  have t4 : Same G3 (upd G3 p4 (.tup [.str "drop", .str other])) := same_new hp4
  have gp4 : upd G3 p4 (.tup [.str "drop", .str other]) p4 = some (.tup [.str "drop", .str other]) := upd_same
  generalize upd G3 p4 (.tup [.str "drop", .str other]) = G4 at t4 gp4 ⊢
  replace gW13 := t4 _ _ gW13
  replace dp1 := dp1.mono (Same.tup t4)
  replace dp2 := dp2.mono (Same.tup t4)
  replace dp3 := dp3.mono (Same.tup t4)
  have u4 := u3.trans' (Stp.of_same t4)
  have m4 := m3.same t4
  clear u3 m3 t4 hp4
  have dp4 : DLs H G4 [V.ref p4] := fun x hx => ⟨p4, .drop other, by rw [List.mem_singleton.mp hx], fp4, onm, gp4⟩
  refine ⟨by show 1 ≤ sizeLine; decide, fun p5 hp5 => ?_⟩
  have p5h : p5 ∉ [h, ls] := NN m4 hp5
  have fp5 : H p5 = none := fr u4 m4 hp5
  have t5 : Same G4 (upd G4 p5 (.tup [.str "settle"])) := same_new hp5
  have gp5 : upd G4 p5 (.tup [.str "settle"]) p5 = some (.tup [.str "settle"]) := upd_same
  generalize upd G4 p5 (.tup [.str "settle"]) = G5 at t5 gp5 ⊢
  replace gW13 := t5 _ _ gW13
  replace dp1 := dp1.mono (Same.tup t5)
  replace dp2 := dp2.mono (Same.tup t5)
  replace dp3 := dp3.mono (Same.tup t5)
  replace dp4 := dp4.mono (Same.tup t5)
  have u5 := u4.trans' (Stp.of_same t5)
  have m5 := m4.same t5
  clear u4 m4 t5 hp5
  have dp5 : DLs H G5 [V.ref p5] := fun x hx => ⟨p5, .settle, by rw [List.mem_singleton.mp hx], fp5, trivial, gp5⟩
  refine ⟨by show 5 ≤ sizeLine; decide, fun R1 hR1 => ?_⟩
  have R1h : R1 ∉ [h, ls] := NN m5 hR1
  have fR1 : H R1 = none := fr u5 m5 hR1
  have t6 : Same G5 (upd G5 R1 (.lst [V.ref p1, .ref p2, .ref p3, .ref p4, .ref p5])) := same_new hR1
  have gR1 : upd G5 R1 (.lst [V.ref p1, .ref p2, .ref p3, .ref p4, .ref p5]) R1 = some (.lst [V.ref p1, .ref p2, .ref p3, .ref p4, .ref p5]) := upd_same
  generalize upd G5 R1 (.lst [V.ref p1, .ref p2, .ref p3, .ref p4, .ref p5]) = G6 at t6 gR1 ⊢
  replace gW13 := t6 _ _ gW13
  replace dp1 := dp1.mono (Same.tup t6)
  replace dp2 := dp2.mono (Same.tup t6)
  replace dp3 := dp3.mono (Same.tup t6)
  replace dp4 := dp4.mono (Same.tup t6)
  replace dp5 := dp5.mono (Same.tup t6)
  have u6 := u5.trans' (Stp.of_same t6)
  have m6 := m5.same t6
  clear u5 m5 t6 hR1
  have zR1 : ∃ xs5 : List V, xs5.length = 5 ∧ G6 R1 = some (.lst xs5) ∧ DLs H G6 xs5 := ⟨_, rfl, gR1, (dp1.app (dp2.app (dp3.app (dp4.app dp5))))⟩
  clear gR1 dp1 dp2 dp3 dp4 dp5
  obtain ⟨xs5, lxs5, gR1, dxs5⟩ := zR1
  exact q2 _ _ H G6 h ls m M every name other turn kk _ _ _ W9 R1 any ws xs5 rfl hn u6 m6 ev nx onm pk k anm wne w8 wnm gW13 nWh lxs5 gR1 R1h dxs5
theorem ok__law_deed (T : Tx w K mg) : DefOk ⟨P, w, K, mg, base⟩ 3 (ga K "_law_deed") ["_law_h", "_law_m"] spLDeed := by
  refine DefOk.mk' (f__law_deed T) sc__law_deed (fun _ _ _ _ _ _ us hl => match us, hl with | [_, _], _ => rfl) (fun vs H Q E h => ?_) (fun cdv A outer s H vs Q E hr h => ?_)
  · obtain ⟨h, ls, m, S, O, n, l, A', C', rfl, _⟩ := h
    rfl
  · obtain ⟨h, ls, m, S, O, n, l, A', C', rfl, hn, X, ok, hm, hO, lO, k⟩ := h
    have hu := hu_of hr
    obtain ⟨t2, p2, q2⟩ := deed_a (P := P) (base := base) T (cdv := cdv) (A := A) (outer := outer) (s := s) (H0 := H) (E := E) hr
    refine ⟨_, (pss_cons (ps_set (i := 2) sc__law_deed.nd rfl (Or.inl rfl) (pe_slice sl_str pe_str po_none (po_some (pe_ix ix_list (pe_lst (pa_cons pe_int (pa_cons pe_int (pa_cons pe_int pa_nil)))) (pe_cg (M := ⟨P, w, K, mg, base⟩) rfl hr rfl (pa_cons (pv 0) (pa_cons pe_int pa_nil))) (fun _ _ => rfl))))) (pss_cons (ps_set (i := 3) sc__law_deed.nd rfl (Or.inl rfl) (pe_ix ix_str (pv 2) (pe_cg (M := ⟨P, w, K, mg, base⟩) rfl hr rfl (pa_cons (pv 0) (pa_cons (pe_callB call_len_str (by rfl) (z_len T) PySem.boot_len (pa_cons (pv 2) pa_nil)) pa_nil))) (fun _ _ => rfl))) (pss_cons (ps_set (i := 4) sc__law_deed.nd rfl (Or.inl rfl) (pe_cg (M := ⟨P, w, K, mg, base⟩) rfl hr rfl (pa_cons (pv 1) (pa_cons (pe_lst (pa_cons pe_str (pa_cons pe_str (pa_cons pe_str pa_nil)))) pa_nil)))) (pss_cons (ps_set (i := 5) sc__law_deed.nd rfl (Or.inl rfl) (pe_ix ix_list (pv 4) (pe_cg (M := ⟨P, w, K, mg, base⟩) rfl hr rfl (pa_cons (pv 0) (pa_cons (pe_callB call_len_seq (by rfl) (z_len T) PySem.boot_len (pa_cons (pv 4) pa_nil)) pa_nil))) (fun _ _ => rfl))) (pss_cons (ps_set (i := 6) sc__law_deed.nd rfl (Or.inl rfl) (pe_cg (M := ⟨P, w, K, mg, base⟩) rfl hr rfl (pa_cons (pv 0) (pa_cons pe_int pa_nil)))) (pss_cons (ps_set (i := 7) sc__law_deed.nd rfl (Or.inl rfl) (pe_cg (M := ⟨P, w, K, mg, base⟩) rfl hr rfl (pa_cons (pv 1) (pa_cons (pv 5) pa_nil)))) (pss_cons (ps_if (PW.pt (pw_or (pt_cmpR op_lt (pv 6) pe_int (nomark _)) (pw_or1 (pt_cmpR op_isN (pv 7) pe_non (nomark _))))) (pss_one (ps_ret (pe_tup (pa_cons pe_str (pa_cons (pv 3) (pa_cons (pe_ix ix_list (pe_lst (pa_cons pe_str (pa_cons pe_str (pa_cons pe_str pa_nil)))) (pe_cg (M := ⟨P, w, K, mg, base⟩) rfl hr rfl (pa_cons (pv 0) (pa_cons pe_int pa_nil))) (fun _ _ => rfl)) pa_nil)))))) pss_nil) (pss_cons (ps_set (i := 8) sc__law_deed.nd rfl (Or.inl rfl) (pe_cg (M := ⟨P, w, K, mg, base⟩) rfl hr rfl (pa_cons (pv 0) (pa_cons (pv 7) pa_nil)))) (pss_cons (ps_if (pt_cmpR op_lt (pv 6) pe_int (nomark _)) (pss_cons (ps_set (i := 9) sc__law_deed.nd rfl (Or.inl rfl) (pe_ix ix_list (pv 4) (pe_cg (M := ⟨P, w, K, mg, base⟩) rfl hr rfl (pa_cons (pv 0) (pa_cons (pe_callB call_len_seq (by rfl) (z_len T) PySem.boot_len (pa_cons (pv 4) pa_nil)) pa_nil))) (fun _ _ => rfl))) (pss_one (ps_ret (pe_tup (pa_cons pe_str (pa_cons (pv 5) (pa_cons (pv 8) (pa_cons (pe_ifExp (pt_cmpR op_eq (pv 6) pe_int (nomark _)) (pe_ix ix_str pe_str (pe_cg (M := ⟨P, w, K, mg, base⟩) rfl hr rfl (pa_cons (pv 0) (pa_cons pe_int pa_nil))) (fun _ _ => rfl)) (pv 9)) pa_nil)))))))) pss_nil) (pss_cons (ps_if (pt_cmpR op_lt (pv 6) pe_int (nomark _)) (pss_one (ps_ret (pe_tup (pa_cons pe_str (pa_cons (pv 3) (pa_cons (pv 5) (pa_cons (pv 8) pa_nil))))))) pss_nil) p2)))))))))), ?_⟩
    have XX : ∀ {H' : Hp}, Stp [h, ls] H H' → LawX H' m S O n l A' C' := fun {H'} st => X.stp st (NumAt_tup hn st) fun b hb z => by
      rcases List.mem_cons.mp z with z | z
      · exact hO (z ▸ hb)
      · exact lO (List.mem_singleton.mp z ▸ hb)
    have NN : ∀ {H1 : Hp} {L : Addr}, NumAt H1 h ls → H1 L = none → L ∉ [h, ls] := fun n1 => NumAt.fresh n1
    -- every
    refine ⟨by show 3 ≤ sizeLine; decide, fun L1 hL1 => ?_⟩
    have s1 : Same H (upd H L1 (.lst [.int 3, .int 5, .int 8])) := same_new hL1
    refine ⟨_, _, _, _, g__law_next T, ok__law_next T, by decide, _, rfl, h, ls, 3, rfl, hn.same s1, by decide, by decide, fun q1 H1 q10 q11 st1 n1 => ?_⟩
    obtain ⟨j1, rfl⟩ := nat_of q10
    have g1 := st1 _ _ upd_same (NN hn hL1)
    replace st1 := (Stp.of_same s1).trans' st1
    obtain ⟨e, he, hev⟩ : ∃ e : Int, ([.int 3, .int 5, .int 8] : List V)[j1]? = some (.int e) ∧ (e = 3 ∨ e = 5 ∨ e = 8) := by
      rw [three_at j1 (by omega)]
      split
      · exact ⟨3, rfl, .inl rfl⟩
      · split
        · exact ⟨5, rfl, .inr (.inl rfl)⟩
        · exact ⟨8, rfl, .inr (.inr rfl)⟩
    refine ⟨L1, _, j1, .int e, rfl, rfl, SqL.of g1, atI_nat he, e, rfl, "pqrstuvw", rfl, by decide +kernel, ?_⟩
    have ev := nms_cut e hev
    generalize cutS "pqrstuvw" none (some e) = every at ev ⊢
    -- name
    have evl := ev.len
    refine ⟨_, rfl, _, _, _, _, g__law_next T, ok__law_next T, by decide, _, rfl, _, rfl, every, rfl, Nat.le_trans evl (by decide), h, ls, every.length, rfl, n1, by have := ev.pos; omega, by omega, fun q2 H2 q20 q21 st2 n2 => ?_⟩
    obtain ⟨j2, rfl⟩ := nat_of q20
    obtain ⟨c2, a2, nx⟩ := ev.get q21
    refine ⟨every, j2, c2, rfl, rfl, Nat.le_trans evl (by decide), a2, ?_⟩
    generalize (⟨#[c2]⟩ : Str) = name at nx ⊢
    replace st2 := st1.trans' st2
    -- some
    refine ⟨_, _, _, _, g__law_held T, ok__law_held T, by decide, _, rfl, by show 3 ≤ sizeLine; decide, fun L3 hL3 => ?_⟩
    have s3 : Same H2 (upd H2 L3 (.lst [.str "record", .str "row", .str "book"])) := same_new hL3
    have st3 := st2.trans' (Stp.of_same s3)
    refine ⟨m, L3, S, O, n, l, A', C', ["record", "row", "book"], rfl, XX st3, ok, hm, upd_same, by decide, fun M H4 xs s4 nM gM xne x8 xnm => ?_⟩
    have st4 := st3.trans' (Stp.of_same s4)
    have n4 := (n2.same s3).same s4
    have xl : 0 < xs.length := List.length_pos_iff.mpr xne
    have lx : (xs.map V.str).length = xs.length := List.length_map _
    -- other
    refine ⟨_, rfl, _, _, _, _, g__law_next T, ok__law_next T, by decide, _, rfl, _, rfl, M, _, rfl, .inl (SqL.of gM), h, ls, _, rfl, n4, by rw [lx]; omega, by rw [lx]; omega, fun q5 H5 q50 q51 st5 n5 => ?_⟩
    obtain ⟨j5, rfl⟩ := nat_of q50
    have nMh : M ∉ [h, ls] := NN (n2.same s3) nM
    have gM5 := st5 _ _ gM nMh
    replace st5 := st4.trans' st5
    obtain ⟨other, om, a5⟩ := str_at q51
    have onm := xnm other om
    refine ⟨M, _, j5, .str other, rfl, rfl, SqL.of gM5, a5, ?_⟩
    -- turn
    refine ⟨_, _, _, _, g__law_next T, ok__law_next T, by decide, _, rfl, h, ls, 24, rfl, n5, by decide, by decide, fun turn H6 t0 t1 st6 n6 => ?_⟩
    have gM6 := st6 _ _ gM5 nMh
    replace st6 := st5.trans' st6
    -- thing
    refine ⟨_, _, _, _, g__law_thing T, ok__law_thing T, by decide, _, rfl, _, rfl, m, S, O, n, l, A', C', other, rfl, XX st6, ok, onm, fun j ej => ?_, fun hno => ?_⟩
    · refine ⟨_, rfl, _, _, rfl, rfl, _, rfl, ?_⟩
      by_cases h6 : turn < 6
      · exact if_t (decide_eq_true h6) (deed_make T rfl rfl nx st6 n6 k hn)
      refine if_f (decide_eq_false h6) ⟨_, rfl, rfl, _, rfl, if_f rfl ?_⟩
      have hj := ok.look_lt ej
      obtain ⟨_, e1, e2, e3, e4, e5, e6, e7⟩ := id (XX st6)
      have nO : ∀ {b : Addr}, b ∈ O → b ∉ [h, ls] := fun {b} hb z => by
        rcases List.mem_cons.mp z with z | z
        · exact hO (z ▸ hb)
        · exact lO (List.mem_singleton.mp z ▸ hb)
      -- part
      refine ⟨_, _, _, _, g__law_part T, ok__law_part T, by decide, _, rfl, _, rfl, h, ls, A' j, C' j, S.th j, rfl, n6, (e5 j hj).1, (e5 j hj).2, ok.wf j hj, nO (e7.a j hj), nO (e7.c j hj), fun kk H8 pk st8 n8 => ?_⟩
      have gM8 := st8 _ _ gM6 nMh
      replace st8 := st6.trans' st8
      refine ⟨_, rfl, _, _, rfl, rfl, _, rfl, ?_⟩
      by_cases h12 : turn < 12
      · refine if_t (decide_eq_true h12) ?_
        refine ⟨_, rfl, _, _, _, _, g__law_next T, ok__law_next T, by decide, _, rfl, _, rfl, M, _, rfl, .inl (SqL.of gM8), h, ls, _, rfl, n8, by rw [lx]; omega, by rw [lx]; omega, fun q9 H9 q90 q91 st9 n9 => ?_⟩
        obtain ⟨j9, rfl⟩ := nat_of q90
        have gM9 := st9 _ _ gM8 nMh
        replace st9 := st8.trans' st9
        obtain ⟨val, vm, a9⟩ := str_at q91
        refine ⟨M, _, j9, .str val, rfl, rfl, SqL.of gM9, a9, ?_⟩
        refine ⟨_, rfl, _, rfl, ?_⟩
        have put : ∀ y, y ∈ nmS → ∀ H', Stp [h, ls] H H' → NumAt H' h ls → ∀ p, H' p = none → Q (.ref p) (upd H' p (.tup [.str "put", .str other, kV kk, .str y])) := fun y hy H' st n p hp => by
          have sp : Same H' (upd H' p (.tup [.str "put", .str other, kV kk, .str y])) := same_new hp
          exact k p _ (.put other kk y) (st.trans' (Stp.of_same sp)) (n.same sp) (stp_fresh hn st n hp) ⟨⟨onm, pk, hy⟩, upd_same⟩
        refine ⟨_, rfl, rfl, _, rfl, ?_⟩
        by_cases h11 : turn = 11
        · refine if_t (decide_eq_true (by rw [h11])) ?_
          refine ⟨_, _, _, _, g__law_next T, ok__law_next T, by decide, _, rfl, h, ls, 8, rfl, n9, by decide, by decide, fun q10 H10 q100 q101 st10 n10 => ?_⟩
          obtain ⟨j10, rfl⟩ := nat_of q100
          obtain ⟨c10, a10, y10⟩ := nms_all.get (j := j10) (by show (j10 : Int) < 8; exact q101)
          exact ⟨"pqrstuvw", j10, c10, rfl, rfl, by decide +kernel, a10, by show 4 ≤ sizeLine; decide, put ⟨#[c10]⟩ y10 H10 (st9.trans' st10) n10⟩
        · refine if_f (decide_eq_false (fun z => h11 (V.int.inj z))) ?_
          exact ⟨_, rfl, by show 4 ≤ sizeLine; decide, put val (xnm val vm) H9 st9 n9⟩
      refine if_f (decide_eq_false h12) ?_
      refine ⟨_, rfl, _, _, rfl, rfl, _, rfl, ?_⟩
      by_cases h15 : turn < 15
      · refine if_t (decide_eq_true h15) ⟨_, rfl, _, rfl, _, rfl, by show 4 ≤ sizeLine; decide, fun p hp => ?_⟩
        have sp : Same H8 (upd H8 p (.tup [.str "take", .str name, .str other, kV kk])) := same_new hp
        exact k p _ (.take name other kk) (st8.trans' (Stp.of_same sp)) (n8.same sp) (stp_fresh hn st8 n8 hp) ⟨⟨nx, onm, pk⟩, upd_same⟩
      refine if_f (decide_eq_false h15) ?_
      exact q2 _ _ H H8 h ls m M every name other turn kk _ _ _ _ _ _ S O n l A' C' rfl hn st8 n8 ev nx onm pk k X ok hm hO lO
    · refine ⟨_, rfl, _, _, rfl, rfl, _, rfl, ?_⟩
      cases (decide (turn < 6)) with
      | true => exact if_t rfl (deed_make T rfl rfl nx st6 n6 k hn)
      | false => exact if_f rfl ⟨_, rfl, rfl, _, rfl, if_t rfl (deed_make T rfl rfl nx st6 n6 k hn)⟩
end
end WK
/-! The law's comparison. -/
namespace WB
open PySem PySem.Spec PyProof.Rows L2 He
/-- what is compared -/
inductive Tr where
  | non
  | int (i : Int)
  | str (x : Str)
  | tup (xs : List Tr)
  | lst (xs : List Tr)
/-- v stands for t, of no more than d levels -/
def RepN (H : Hp) : Nat → V → Tr → Prop
  | 0, _, _ => False
  | d + 1, v, t => match t with
    | .non => v = .non
    | .int i => v = .int i
    | .str x => v = .str x
    | .tup ts => ∃ a vs, v = .ref a ∧ H a = some (.tup vs) ∧ ts.length ≤ 1000 ∧ Paired (RepN H d) vs ts
    | .lst ts => ∃ a vs, v = .ref a ∧ H a = some (.lst vs) ∧ ts.length ≤ 1000 ∧ Paired (RepN H d) vs ts
theorem RepN.same {H H' : Hp} (s : Same H H') : ∀ (d : Nat) (v : V) (t : Tr), RepN H d v t → RepN H' d v t
  | 0, v, t, h => h
  | d + 1, v, t, h => by
    cases t with
    | non => exact h
    | int i => exact h
    | str x => exact h
    | tup ts =>
      obtain ⟨a, vs, e, h1, h2, h3⟩ := h
      exact ⟨a, vs, e, s _ _ h1, h2, Paired.imp (fun u y r => RepN.same s d u y r) h3⟩
    | lst ts =>
      obtain ⟨a, vs, e, h1, h2, h3⟩ := h
      exact ⟨a, vs, e, s _ _ h1, h2, Paired.imp (fun u y r => RepN.same s d u y r) h3⟩
end WB
namespace WK
open PySem PySem.Spec PyProof.Rows L2 He WB
section
variable {P : Program} {w : World} {K : PySem.W.Frag} {mg : Str → Option Value} {base : Heap}
theorem any_tl {K : PySem.W.Frag} {t : String} {b1 b2 : Bool} (h1 : kitB t "tuple" = some b1) (h2 : kitB t "list" = some b2) : PySem.W.kitAny K (.type t) [.type "tuple", .type "list"] = some (b1 || b2) :=
  kitAny_cons (kit_ty h1) (fun e => by subst e; exact kitAny_cons (kit_ty h2) (fun e => by subst e; rfl) (fun e => by subst e; rfl)) (fun e => by subst e; rfl)
def spAlike (d : Nat) : Sp := fun vs H Q _ => ∃ (v u : V) (t : Tr), vs = [v, u] ∧ RepN H d v t ∧ RepN H d u t ∧ ∀ H', Same H H' → Q (.bl true) H'
theorem alike0 (T : Tx w K mg)  : DefOk ⟨P, w, K, mg, base⟩ (1) (ga K "_law_alike") ["_law_found", "_law_due_here"] (spAlike 0) := by
  refine DefOk.mk' (f__law_alike T) sc__law_alike (fun _ _ _ _ _ _ us hl => match us, hl with | [_, _], _ => rfl) (fun vs H Q E h => ?_) (fun cdv A outer s H vs Q E hr h => ?_)
  · obtain ⟨v, u, t, rfl, _⟩ := h
    rfl
  · obtain ⟨v, u, t, _, z, _⟩ := h
    exact z.elim
theorem alike_step (T : Tx w K mg) (d : Nat) (ih : DefOk ⟨P, w, K, mg, base⟩ (d + 1) (ga K "_law_alike") ["_law_found", "_law_due_here"] (spAlike d)) : DefOk ⟨P, w, K, mg, base⟩ (d + 2) (ga K "_law_alike") ["_law_found", "_law_due_here"] (spAlike (d + 1)) := by
  refine DefOk.mk' (f__law_alike T) sc__law_alike (fun _ _ _ _ _ _ us hl => match us, hl with | [_, _], _ => rfl) (fun vs H Q E h => ?_) (fun cdv A outer s H vs Q E hr h => ?_)
  · obtain ⟨v, u, t, rfl, _⟩ := h
    rfl
  · obtain ⟨v, u, t, rfl, hv, hw, k⟩ := h
    have hu := hu_of hr
    refine ⟨_, (pss_cons (ps_if (pt_val (pe_callB call_isiT (by rfl) (z_isinstance T) (by decide +kernel) (pa_cons (pv 1) (pa_cons (pe_tup (pa_cons (pe_bltn (v := .ty "tuple") (by rfl) (z_tuple T) (by decide +kernel) rfl) (pa_cons (pe_bltn (v := .ty "list") (by rfl) (z_list T) (by decide +kernel) rfl) pa_nil))) pa_nil)))) (pss_cons (ps_if (PW.pt (pw_or (pt_not (pt_val (pe_callB call_isiT (by rfl) (z_isinstance T) (by decide +kernel) (pa_cons (pv 0) (pa_cons (pe_tup (pa_cons (pe_bltn (v := .ty "tuple") (by rfl) (z_tuple T) (by decide +kernel) rfl) (pa_cons (pe_bltn (v := .ty "list") (by rfl) (z_list T) (by decide +kernel) rfl) pa_nil))) pa_nil))))) (pw_or1 (pt_cmpR op_ne (pe_callB call_isi (by rfl) (z_isinstance T) (by decide +kernel) (pa_cons (pv 0) (pa_cons (pe_bltn (v := .ty "list") (by rfl) (z_list T) (by decide +kernel) rfl) pa_nil))) (pe_callB call_isi (by rfl) (z_isinstance T) (by decide +kernel) (pa_cons (pv 1) (pa_cons (pe_bltn (v := .ty "list") (by rfl) (z_list T) (by decide +kernel) rfl) pa_nil))) (nomark _))))) (pss_one (ps_ret pe_bl)) pss_nil) (pss_cons (ps_if (pt_cmpR op_ne (pe_callB call_len_seq (by rfl) (z_len T) PySem.boot_len (pa_cons (pv 0) pa_nil)) (pe_callB call_len_seq (by rfl) (z_len T) PySem.boot_len (pa_cons (pv 1) pa_nil)) (nomark _)) (pss_one (ps_ret pe_bl)) pss_nil) (pss_one (ps_ret (pe_cmpR (op_eqD hr.units) (pe_lc (own := [("_law_k", 2)]) (g := (gName 2)) rfl sc__law_alike.nd (pi_range1 rfl (z_range T) (pa_cons (pe_callB call_len_seq (by rfl) (z_len T) PySem.boot_len (pa_cons (pv 1) pa_nil)) pa_nil)) (blkOk_by (own := [("_law_k", 2)]) (N := ["_law_found", "_law_due_here", "_law_k"]) (sc := defScope s__law_alike) (by decide +kernel)) (fun _ _ _ _ _ => (pg_name (i := 2) sc__law_alike.nd rfl (Or.inl rfl))) (fun _ _ _ _ _ => by exact (pts_one (pt_not (pt_val (pe_cg (M := ⟨P, w, K, mg, base⟩) rfl hr rfl (pa_cons (pe_ix (ixK rIx rfl ix_seq) (pv 0) (pv 2) (fun _ _ => rfl)) (pa_cons (pe_ix (ixK rIx rfl ix_seq) (pv 1) (pv 2) (fun _ _ => rfl)) pa_nil))))))) (fun _ _ _ _ _ => by exact (pv 2))) (pe_lst pa_nil) (nomark _)))))) pss_nil) (pss_cons (ps_if (pt_cmpR op_isN (pv 1) pe_non (nomark _)) (pss_one (ps_ret (pe_cmpR op_isN (pv 0) pe_non (nomark _)))) pss_nil) (pss_cons (ps_if (pt_val (pe_callB call_isi (by rfl) (z_isinstance T) (by decide +kernel) (pa_cons (pv 1) (pa_cons (pe_bltn (v := .ty "str") (by rfl) (z_str T) (by decide +kernel) rfl) pa_nil)))) (pss_one (ps_ret (pe_and (pe_callB call_isi (by rfl) (z_isinstance T) (by decide +kernel) (pa_cons (pv 0) (pa_cons (pe_bltn (v := .ty "str") (by rfl) (z_str T) (by decide +kernel) rfl) pa_nil))) (pe_one (pe_cmpR op_eq (pv 0) (pv 1) (nomark _)))))) pss_nil) (pss_cons (ps_if (PW.pt (pw_or (pt_val (pe_callB call_isi (by rfl) (z_isinstance T) (by decide +kernel) (pa_cons (pv 1) (pa_cons (pe_bltn (v := .ty "bool") (by rfl) (z_bool T) (by decide +kernel) rfl) pa_nil)))) (pw_or1 (pt_val (pe_callB call_isi (by rfl) (z_isinstance T) (by decide +kernel) (pa_cons (pv 0) (pa_cons (pe_bltn (v := .ty "bool") (by rfl) (z_bool T) (by decide +kernel) rfl) pa_nil))))))) (pss_one (ps_ret (pe_and (pe_callB call_isi (by rfl) (z_isinstance T) (by decide +kernel) (pa_cons (pv 1) (pa_cons (pe_bltn (v := .ty "bool") (by rfl) (z_bool T) (by decide +kernel) rfl) pa_nil))) (pe_and (pe_callB call_isi (by rfl) (z_isinstance T) (by decide +kernel) (pa_cons (pv 0) (pa_cons (pe_bltn (v := .ty "bool") (by rfl) (z_bool T) (by decide +kernel) rfl) pa_nil))) (pe_one (pe_cmpR op_eq (pv 0) (pv 1) (nomark _))))))) pss_nil) (pss_one (ps_ret (pe_and (pe_callB call_isi (by rfl) (z_isinstance T) (by decide +kernel) (pa_cons (pv 0) (pa_cons (pe_bltn (v := .ty "int") (by rfl) (z_int T) (by decide +kernel) rfl) pa_nil))) (pe_one (pe_cmpR op_eq (pv 0) (pv 1) (nomark _)))))))))), ?_⟩
    cases t with
    | non =>
      obtain rfl : v = .non := hv
      obtain rfl : u = .non := hw
      refine ⟨_, rfl, by show 2 ≤ sizeLine; decide, fun p hp2 => ⟨_, p, _, _, _, _, rfl, upd_same, .cons (.ty _) (.cons (.ty _) .nil), .base .non, any_tl (b1 := false) (b2 := false) (by decide +kernel) (by decide +kernel), _, rfl, ?_⟩⟩
      refine if_f rfl ?_
      exact ⟨_, rfl, rfl, _, rfl, if_t (decide_eq_true rfl) ⟨_, rfl, rfl, by rw [decide_eq_true rfl]; exact k _ (same_new hp2)⟩⟩
    | int i =>
      obtain rfl : v = .int i := hv
      obtain rfl : u = .int i := hw
      refine ⟨_, rfl, by show 2 ≤ sizeLine; decide, fun p hp2 => ⟨_, p, _, _, _, _, rfl, upd_same, .cons (.ty _) (.cons (.ty _) .nil), .base (.int i), any_tl (b1 := false) (b2 := false) (by decide +kernel) (by decide +kernel), _, rfl, ?_⟩⟩
      refine if_f rfl ?_
      refine ⟨_, rfl, rfl, _, rfl, if_f (decide_eq_false (by intro z; cases z)) ?_⟩
      refine ⟨_, rfl, _, _, _, _, _, rfl, .ty _, .base (.int i), kit_ty (r := false) (by decide +kernel), _, rfl, ?_⟩
      refine if_f rfl ?_
      refine ⟨_, rfl, _, _, _, _, _, rfl, .ty _, .base (.int i), kit_ty (r := false) (by decide +kernel), _, rfl, ?_⟩
      refine if_f rfl ⟨_, rfl, _, _, _, _, _, rfl, .ty _, .base (.int i), kit_ty (r := false) (by decide +kernel), _, rfl, ?_⟩
      refine if_f rfl ?_
      refine ⟨_, rfl, _, _, _, _, _, rfl, .ty _, .base (.int i), kit_ty (r := true) (by decide +kernel), _, rfl, ?_⟩
      exact if_t rfl ⟨_, rfl, _, rfl, rfl, by rw [decide_eq_true rfl]; exact k _ (same_new hp2)⟩
    | str x =>
      obtain rfl : v = .str x := hv
      obtain rfl : u = .str x := hw
      refine ⟨_, rfl, by show 2 ≤ sizeLine; decide, fun p hp2 => ⟨_, p, _, _, _, _, rfl, upd_same, .cons (.ty _) (.cons (.ty _) .nil), .base (.str x), any_tl (b1 := false) (b2 := false) (by decide +kernel) (by decide +kernel), _, rfl, ?_⟩⟩
      refine if_f rfl ?_
      refine ⟨_, rfl, rfl, _, rfl, if_f (decide_eq_false (by intro z; cases z)) ?_⟩
      refine ⟨_, rfl, _, _, _, _, _, rfl, .ty _, .base (.str x), kit_ty (r := true) (by decide +kernel), _, rfl, ?_⟩
      refine if_t rfl ?_
      refine ⟨_, rfl, _, _, _, _, _, rfl, .ty _, .base (.str x), kit_ty (r := true) (by decide +kernel), _, rfl, ?_⟩
      exact if_t rfl ⟨_, rfl, _, rfl, rfl, by rw [decide_eq_true rfl]; exact k _ (same_new hp2)⟩
    | tup ts =>
      obtain ⟨a, vs, rfl, ha, hl, hp⟩ := hv
      obtain ⟨b, us, rfl, hb, _, hq⟩ := hw
      refine ⟨_, rfl, by show 2 ≤ sizeLine; decide, fun p hp2 => ⟨_, p, _, _, _, _, rfl, upd_same, .cons (.ty _) (.cons (.ty _) .nil), .base (.tup (same_new hp2 _ _ hb)), any_tl (b1 := true) (b2 := false) (by decide +kernel) (by decide +kernel), _, rfl, ?_⟩⟩
      refine if_t rfl ?_
      have s1 : Same H (upd H p (.tup [.ty "tuple", .ty "list"])) := same_new hp2
      have la : vs.length = ts.length := Paired.length hp
      have lb : us.length = ts.length := Paired.length hq
      refine ⟨_, rfl, by show 2 ≤ sizeLine; decide, fun p3 hp3 => ⟨_, p3, _, _, _, _, rfl, upd_same, .cons (.ty _) (.cons (.ty _) .nil), .base (.tup (same_new hp3 _ _ (s1 _ _ ha))), any_tl (b1 := true) (b2 := false) (by decide +kernel) (by decide +kernel), _, rfl, if_f rfl ?_⟩⟩
      have s2 := s1.trans (same_new (o := .tup [.ty "tuple", .ty "list"]) hp3)
      generalize upd (upd H p (.tup [.ty "tuple", .ty "list"])) p3 (.tup [.ty "tuple", .ty "list"]) = H2 at s2 ⊢
      have ha2 := s2 _ _ ha
      have hb2 := s2 _ _ hb
      refine ⟨_, rfl, _, _, _, _, _, rfl, .ty _, .base (.tup ha2), kit_ty (r := false) (by decide +kernel), _, rfl, _, _, _, _, _, rfl, .ty _, .base (.tup hb2), kit_ty (r := false) (by decide +kernel), rfl, _, rfl, if_f (by decide) ?_⟩
      refine ⟨_, rfl, a, vs, rfl, .inr (SqT.of (ha2)), _, rfl, b, us, rfl, .inr (SqT.of (hb2)), rfl, _, rfl, if_f (by rw [la, lb]; simp) ?_⟩
      refine ⟨_, rfl, b, us, rfl, .inr (SqT.of (hb2)), ?_⟩
      refine ⟨_, rfl, by omega, by omega, fun D hD => ?_⟩
      have jn : ((us.length : Nat) : Int).toNat = us.length := by omega
      rw [jn]
      refine lc_it walk_range (fun i H' => Same H2 H' ∧ H' D = some (.lst [])) ⟨same_new hD, upd_same⟩ (fun _ _ _ _ => trivial) ?_ ?_
      · rintro i x H4 H5 hi ⟨s4, g4⟩ ⟨rfl, ex⟩
        have ex' : x = .int (i : Int) := by rw [ex]; show V.int (0 + (i : Int)) = _; rw [Int.zero_add]
        subst ex'
        obtain ⟨y, hy⟩ : ∃ y, ts[i]? = some y := ⟨_, List.getElem?_eq_getElem (by omega)⟩
        obtain ⟨x1, hx1, r1⟩ : ∃ x1, vs[i]? = some x1 ∧ RepN H d x1 y := by
          rcases Paired.at i hp with ⟨_, z⟩ | ⟨x1, y1, e1, e2, r⟩
          · rw [hy] at z; cases z
          · rw [hy] at e2; cases e2
            exact ⟨x1, e1, r⟩
        obtain ⟨x2, hx2, r2⟩ : ∃ x2, us[i]? = some x2 ∧ RepN H d x2 y := by
          rcases Paired.at i hq with ⟨_, z⟩ | ⟨x1, y1, e1, e2, r⟩
          · rw [hy] at z; cases z
          · rw [hy] at e2; cases e2
            exact ⟨x1, e1, r⟩
        have s5 := s2.trans s4
        refine ⟨rfl, ?_⟩
        have r1' := RepN.same s5 d _ _ r1
        have r2' := RepN.same s5 d _ _ r2
        exact ⟨_, _, _, _, g__law_alike T, ih, Nat.le_refl _, _, rfl, _, rfl, .inr (.inl ⟨a, vs, (i : Int), x1, rfl, rfl, SqT.of (s5 _ _ ha), atI_nat hx1, _, rfl, _, rfl, .inr (.inl ⟨b, us, (i : Int), x2, rfl, rfl, SqT.of (s5 _ _ hb), atI_nat hx2, x1, x2, y, rfl, r1', r2', fun H' s' => ⟨_, rfl, if_f rfl ⟨s4.trans s', s' _ _ g4⟩⟩⟩)⟩)⟩
      · rintro H4 ⟨s4, g4⟩
        refine ⟨by show 0 ≤ sizeLine; decide, fun Z hZ => ?_⟩
        have s6 : Same H4 (upd H4 Z (.lst [])) := same_new hZ
        refine ⟨_, _, .lst (SqL.of (s6 _ _ g4)) .nil, .lst (SqL.of upd_same) .nil, ints_shaped [], ints_shaped [], ?_⟩
        exact k _ ((s2.trans s4).trans s6)
    | lst ts =>
      obtain ⟨a, vs, rfl, ha, hl, hp⟩ := hv
      obtain ⟨b, us, rfl, hb, _, hq⟩ := hw
      refine ⟨_, rfl, by show 2 ≤ sizeLine; decide, fun p hp2 => ⟨_, p, _, _, _, _, rfl, upd_same, .cons (.ty _) (.cons (.ty _) .nil), .base (.lst (same_new hp2 _ _ hb)), any_tl (b1 := false) (b2 := true) (by decide +kernel) (by decide +kernel), _, rfl, ?_⟩⟩
      refine if_t rfl ?_
      have s1 : Same H (upd H p (.tup [.ty "tuple", .ty "list"])) := same_new hp2
      have la : vs.length = ts.length := Paired.length hp
      have lb : us.length = ts.length := Paired.length hq
      refine ⟨_, rfl, by show 2 ≤ sizeLine; decide, fun p3 hp3 => ⟨_, p3, _, _, _, _, rfl, upd_same, .cons (.ty _) (.cons (.ty _) .nil), .base (.lst (same_new hp3 _ _ (s1 _ _ ha))), any_tl (b1 := false) (b2 := true) (by decide +kernel) (by decide +kernel), _, rfl, if_f rfl ?_⟩⟩
      have s2 := s1.trans (same_new (o := .tup [.ty "tuple", .ty "list"]) hp3)
      generalize upd (upd H p (.tup [.ty "tuple", .ty "list"])) p3 (.tup [.ty "tuple", .ty "list"]) = H2 at s2 ⊢
      have ha2 := s2 _ _ ha
      have hb2 := s2 _ _ hb
      refine ⟨_, rfl, _, _, _, _, _, rfl, .ty _, .base (.lst ha2), kit_ty (r := true) (by decide +kernel), _, rfl, _, _, _, _, _, rfl, .ty _, .base (.lst hb2), kit_ty (r := true) (by decide +kernel), rfl, _, rfl, if_f (by decide) ?_⟩
      refine ⟨_, rfl, a, vs, rfl, .inl (SqL.of (ha2)), _, rfl, b, us, rfl, .inl (SqL.of (hb2)), rfl, _, rfl, if_f (by rw [la, lb]; simp) ?_⟩
      refine ⟨_, rfl, b, us, rfl, .inl (SqL.of (hb2)), ?_⟩
      refine ⟨_, rfl, by omega, by omega, fun D hD => ?_⟩
      have jn : ((us.length : Nat) : Int).toNat = us.length := by omega
      rw [jn]
      refine lc_it walk_range (fun i H' => Same H2 H' ∧ H' D = some (.lst [])) ⟨same_new hD, upd_same⟩ (fun _ _ _ _ => trivial) ?_ ?_
      · rintro i x H4 H5 hi ⟨s4, g4⟩ ⟨rfl, ex⟩
        have ex' : x = .int (i : Int) := by rw [ex]; show V.int (0 + (i : Int)) = _; rw [Int.zero_add]
        subst ex'
        obtain ⟨y, hy⟩ : ∃ y, ts[i]? = some y := ⟨_, List.getElem?_eq_getElem (by omega)⟩
        obtain ⟨x1, hx1, r1⟩ : ∃ x1, vs[i]? = some x1 ∧ RepN H d x1 y := by
          rcases Paired.at i hp with ⟨_, z⟩ | ⟨x1, y1, e1, e2, r⟩
          · rw [hy] at z; cases z
          · rw [hy] at e2; cases e2
            exact ⟨x1, e1, r⟩
        obtain ⟨x2, hx2, r2⟩ : ∃ x2, us[i]? = some x2 ∧ RepN H d x2 y := by
          rcases Paired.at i hq with ⟨_, z⟩ | ⟨x1, y1, e1, e2, r⟩
          · rw [hy] at z; cases z
          · rw [hy] at e2; cases e2
            exact ⟨x1, e1, r⟩
        have s5 := s2.trans s4
        refine ⟨rfl, ?_⟩
        have r1' := RepN.same s5 d _ _ r1
        have r2' := RepN.same s5 d _ _ r2
        exact ⟨_, _, _, _, g__law_alike T, ih, Nat.le_refl _, _, rfl, _, rfl, .inl ⟨a, vs, (i : Int), x1, rfl, rfl, SqL.of (s5 _ _ ha), atI_nat hx1, _, rfl, _, rfl, .inl ⟨b, us, (i : Int), x2, rfl, rfl, SqL.of (s5 _ _ hb), atI_nat hx2, x1, x2, y, rfl, r1', r2', fun H' s' => ⟨_, rfl, if_f rfl ⟨s4.trans s', s' _ _ g4⟩⟩⟩⟩⟩
      · rintro H4 ⟨s4, g4⟩
        refine ⟨by show 0 ≤ sizeLine; decide, fun Z hZ => ?_⟩
        have s6 : Same H4 (upd H4 Z (.lst [])) := same_new hZ
        refine ⟨_, _, .lst (SqL.of (s6 _ _ g4)) .nil, .lst (SqL.of upd_same) .nil, ints_shaped [], ints_shaped [], ?_⟩
        exact k _ ((s2.trans s4).trans s6)
theorem ok__law_alike (T : Tx w K mg) : (d : Nat) → DefOk ⟨P, w, K, mg, base⟩ (d + 1) (ga K "_law_alike") ["_law_found", "_law_due_here"] (spAlike d)
  | 0 => alike0 T
  | d + 1 => alike_step T d (ok__law_alike T d)
end
end WK
/-! What a photo is, as it is compared. -/
namespace WB
open PySem PySem.Spec PyProof.Rows L2 He
def vT : V → Tr
  | .int i => .int i
  | .str x => .str x
  | .ref k => .tup [.str "thing", .int (k : Int)]
  | _ => .non
def kT : Key → Tr
  | .inl i => .int i
  | .inr x => .str x
theorem RepN.up {H : Hp} : ∀ (d : Nat) (v : V) (t : Tr), RepN H d v t → RepN H (d + 1) v t
  | 0, v, t, h => h.elim
  | d + 1, v, t, h => by
    cases t with
    | non => exact h
    | int i => exact h
    | str x => exact h
    | tup ts =>
      obtain ⟨a, vs, e, h1, h2, h3⟩ := h
      exact ⟨a, vs, e, h1, h2, Paired.imp (fun u y r => RepN.up d u y r) h3⟩
    | lst ts =>
      obtain ⟨a, vs, e, h1, h2, h3⟩ := h
      exact ⟨a, vs, e, h1, h2, Paired.imp (fun u y r => RepN.up d u y r) h3⟩
theorem RepN.le {H : Hp} {d e : Nat} {v : V} {t : Tr} (h : RepN H d v t) (l : d ≤ e) : RepN H e v t := by
  induction l with
  | refl => exact h
  | step _ ih => exact RepN.up _ _ _ ih
theorem rep_key {H : Hp} (k : Key) : RepN H 1 (kV k) (kT k) := by cases k <;> rfl
theorem rep_v {H : Hp} {v x : V} (h : VR H v x) : RepN H 2 v (vT x) := by
  rcases h.cases with ⟨rfl, rfl⟩ | ⟨i, rfl, rfl⟩ | ⟨a, k, rfl, rfl, e⟩
  · rfl
  · rfl
  · exact ⟨a, _, rfl, e, by show 2 ≤ 1000; decide, .cons rfl (.cons rfl .nil)⟩
def partT (p : Key × V) : Tr := .tup [kT p.1, vT p.2]
def partsT (ps : List (Key × V)) : Tr := .lst (ps.map partT)
theorem Paired.mapR {α β γ : Type} {R : α → γ → Prop} (f : β → γ) : ∀ {xs : List α} {ys : List β}, Paired (fun a b => R a (f b)) xs ys → Paired R xs (ys.map f)
  | _, _, .nil => .nil
  | _, _, .cons r t => .cons r (Paired.mapR f t)
theorem Paired.mapL {α β γ : Type} {R : γ → β → Prop} (f : α → γ) : ∀ {xs : List α} {ys : List β}, Paired (fun a b => R (f a) b) xs ys → Paired R (xs.map f) ys
  | _, _, .nil => .nil
  | _, _, .cons r t => .cons r (Paired.mapL f t)
theorem paired_mem {α β : Type} {R S : α → β → Prop} : ∀ {xs : List α} {ys : List β}, Paired R xs ys → (∀ a b, b ∈ ys → R a b → S a b) → Paired S xs ys
  | _, _, .nil, _ => .nil
  | _, _, .cons r t, h => .cons (h _ _ List.mem_cons_self r) (paired_mem t fun a b hb => h a b (List.mem_cons_of_mem _ hb))
theorem rep_parts {H : Hp} {l : Addr} {ps : List (Key × V)} (h : ShownAt H l ps) (n : ps.length ≤ 1000) : RepN H 4 (.ref l) (partsT ps) := by
  obtain ⟨ts, h1, h2⟩ := h
  refine ⟨l, _, rfl, h1, by rw [List.length_map]; exact n, Paired.mapL _ (Paired.mapR _ (Paired.imp (fun t p ⟨v, e, r⟩ => ?_) h2))⟩
  exact ⟨t, _, rfl, e, by show 2 ≤ 1000; decide, .cons ((rep_key p.1).le (by decide)) (.cons (rep_v r) .nil)⟩
def snapT (k : Nat) (t : Th) : Tr := .tup [.int (k : Int), .str t.body.kind, partsT t.body.shown, .int t.body.size]
def photoT (S : Sta) (ks : List Nat) : Tr := .tup [.lst (S.names.map fun p => vT p.2), .lst (ks.map fun k => snapT k (S.th k))]
end WB
namespace WK
open PySem PySem.Spec PyProof.Rows L2 He WB
theorem rep_photo {H0 H : Hp} {p : Addr} {S : Sta} {ks : List Nat} (h : PhotoAt H0 H p S ks) (n8 : S.names.length ≤ 1000) (wf : ∀ k ∈ ks, (S.th k).body.wf) (lk : ks.length ≤ 1000) : RepN H 7 (.ref p) (photoT S ks) := by
  obtain ⟨ln, lt, vs, ts, e1, e2, e3, e4, _, _, _, Hm, _, _, _, e5⟩ := h
  refine ⟨p, _, rfl, e1, by show 2 ≤ 1000; decide, .cons ⟨ln, vs, rfl, e2, by rw [List.length_map]; exact n8, ?_⟩ (.cons ⟨lt, _, rfl, e4, by rw [List.length_map]; exact lk, ?_⟩ .nil)⟩
  · have q : Paired (fun v x => RepN H 5 v (vT x)) vs (S.names.map (·.2)) := Paired.imp (fun v x r => (rep_v r).le (by decide)) e3
    have q2 := Paired.mapR vT q
    rw [List.map_map] at q2
    exact q2
  · refine Paired.mapL _ (Paired.mapR _ (paired_mem e5 fun t k hk ⟨lp, s1, s2, _⟩ => ?_))
    have hl : (S.th k).body.shown.length ≤ 1000 := Nat.le_trans (Body.shown_len (wf k hk)) (by decide)
    exact ⟨t, _, rfl, s1, by show 4 ≤ 1000; decide, .cons rfl (.cons rfl (.cons (rep_parts s2 hl) (.cons rfl .nil)))⟩
end WK
namespace WK
open PySem PySem.Spec PyProof.Rows L2 He WB
section
variable {P : Program} {w : World} {K : PySem.W.Frag} {mg : Str → Option Value} {base : Heap}
/-- all but D -/
def hid (D : Addr) (H : Hp) : Hp := fun b => if b = D then none else H b
theorem hid_same {D : Addr} {H : Hp} : Same (hid D H) H := fun a o e => by
  unfold hid at e
  by_cases z : a = D
  · rw [if_pos z] at e; cases e
  · rw [if_neg z] at e; exact e
theorem hid_at {D a : Addr} {H : Hp} {o : HO} (e : H a = some o) (n : a ≠ D) : hid D H a = some o := by
  unfold hid; rw [if_neg n]; exact e
/-- all stays but tables -/
def StT (H H' : Hp) : Prop := ∀ a o, H a = some o → (∀ ps, o ≠ .tbl ps) → H' a = some o
theorem RepN.stay {H H' : Hp} (s : StT H H') : ∀ (d : Nat) (v : V) (t : Tr), RepN H d v t → RepN H' d v t
  | 0, v, t, h => h
  | d + 1, v, t, h => by
    cases t with
    | non => exact h
    | int i => exact h
    | str x => exact h
    | tup ts =>
      obtain ⟨a, vs, e, h1, h2, h3⟩ := h
      exact ⟨a, vs, e, s _ _ h1 (fun _ z => by cases z), h2, Paired.imp (fun u y r => RepN.stay s d u y r) h3⟩
    | lst ts =>
      obtain ⟨a, vs, e, h1, h2, h3⟩ := h
      exact ⟨a, vs, e, s _ _ h1 (fun _ z => by cases z), h2, Paired.imp (fun u y r => RepN.stay s d u y r) h3⟩
theorem hid_stay {D : Addr} {H H' : Hp} (s : StT H H') : StT (hid D H) (hid D H') := fun a o e n => by
  have n' : a ≠ D := fun z => by unfold hid at e; rw [if_pos z] at e; cases e
  exact hid_at (s a o (hid_same _ _ e) n) n'
theorem StT.of_stpP {H H' : Hp} (t : LamX.TabS H tabP lamQ) (s : StpP H H') : StT H H' := fun a o e n => s a o e fun z => by
  obtain ⟨ps, h, _⟩ := t
  rw [z, h] at e
  exact n ps (Option.some.inj e).symm
theorem hid_put {D : Addr} {H : Hp} {o : HO} : hid D (upd H D o) = hid D H := funext fun b => by
  unfold hid
  by_cases z : b = D
  · rw [if_pos z, if_pos z]
  · rw [if_neg z, if_neg z, upd_ne z]
theorem shown_hid {D l : Addr} {H : Hp} {ps : List (Key × V)} {xs : List V} (hD : H D = some (.lst xs)) (n : l ≠ D) (h : ShownAt H l ps) : ShownAt (hid D H) l ps := by
  obtain ⟨ts, h1, h2⟩ := h
  have tp : Tup H (hid D H) := ⟨fun a ys e => hid_at e (fun z => by rw [z, hD] at e; cases e), fun a ys e => hid_at e (fun z => by rw [z, hD] at e; cases e)⟩
  exact ⟨ts, hid_at h1 n, Paired.imp (fun t p ⟨v, e, r⟩ => ⟨v, tp _ _ e, VR.mono tp r⟩) h2⟩
def spLPhoto : Sp := fun vs H Q _ => ∃ (m : Addr) (S : Sta) (O : List Addr) (n l : Addr) (A C : Nat → Addr), vs = [.ref m] ∧ LawX H m S O n l A C ∧ WB.Ok S ∧ S.made ≤ 790 ∧
  ∀ p H' ks, StpP H H' → LawX H' m S O n l A C → ks.Pairwise (· < ·) → (∀ k, k ∈ ks ↔ ReachA S k) → RepN H' 7 (.ref p) (photoT S ks) → Q (.ref p) H'
end
end WK
/-! Two states side by side: the Plain's heap and the law's. -/
namespace WK
open PySem PySem.Spec PyProof.Rows L2 He WB
theorem HeapX_tup {K : PySem.W.Frag} {H H' : Hp} {h : Addr} {S : Sta} {live : List Nat} {O : List Addr} {dh n t : Addr} {ch : V} {A C : Nat → Addr} (X : HeapX K H h S live O dh n t ch A C) (s : Stp O H H') : Tup H H' := by
  obtain ⟨_, _, _, _, _, _, _, e7⟩ := X
  have k : ∀ a o, still o = true → H a = some o → H' a = some o := fun a o q e => s a o e fun z => by
    obtain ⟨u, e2, q2⟩ := e7.tr a z
    rw [e] at e2
    cases e2
    rw [q] at q2
    cases q2
  exact ⟨fun a xs e => k a _ rfl e, fun a φ e => k a _ rfl e⟩
theorem HeapX_keep {K : PySem.W.Frag} {H H' : Hp} {h : Addr} {S : Sta} {live : List Nat} {O : List Addr} {dh n t : Addr} {ch : V} {A C : Nat → Addr} (X : HeapX K H h S live O dh n t ch A C) (tp : Tup H H') (k : ∀ a ∈ O, H' a = H a) : HeapX K H' h S live O dh n t ch A C := by
  obtain ⟨vs, e1, e2, e3, e4, e5, e6, e7⟩ := X
  refine ⟨vs, (k _ e7.h).trans e1, (k _ e7.n).trans e2, KVR.mono tp e3, (k _ e7.t).trans e4, fun j hj => ?_, e6, ⟨e7.h, e7.n, e7.t, e7.a, e7.c, fun b hb => ?_⟩⟩
  · obtain ⟨dx, pv, h1, h2⟩ := e5 j hj
    refine ⟨dx, pv, (k _ (e7.a j hj)).trans h1, ?_⟩
    have c7 := e7.c j hj
    cases hb : (S.th j).body with
    | wat s g => rw [hb] at h2; exact VR.mono tp h2
    | row xs =>
      rw [hb] at h2 c7
      obtain ⟨p1, vs, p2, p3⟩ := h2
      exact ⟨p1, vs, (k _ (c7 rfl)).trans p2, LVR.mono tp p3⟩
    | dic r kvs =>
      rw [hb] at h2 c7
      obtain ⟨p1, vs, p2, p3⟩ := h2
      exact ⟨p1, vs, (k _ (c7 rfl)).trans p2, KVR.mono tp p3⟩
  · obtain ⟨o, e, q⟩ := e7.tr b hb
    exact ⟨o, (k b hb).trans e, q⟩
theorem PlainAt_stp {K : PySem.W.Frag} {H H' : Hp} {p : Addr} {S : Sta} {O O2 : List Addr} (X : PlainAt K H p S O) (s : Stp O2 H H') (tp : Tup H H') (d : ∀ a ∈ O, a ∉ O2) (dp : p ∉ O2) : PlainAt K H' p S O := by
  obtain ⟨pd, h, dh, n, t, ch, A, C, e, Y, q⟩ := X
  have Y0 := Y
  obtain ⟨_, _, _, _, _, _, _, e7⟩ := Y0
  refine ⟨pd, h, dh, n, t, ch, A, C, s _ _ e dp, HeapX_keep Y tp fun a ha => ?_, q⟩
  obtain ⟨o, e2, _⟩ := e7.tr a ha
  rw [e2]
  exact s a o e2 (d a ha)
theorem PlainAt_tup {K : PySem.W.Frag} {H H' : Hp} {p : Addr} {S : Sta} {O : List Addr} (X : PlainAt K H p S O) (s : Stp O H H') : Tup H H' := by
  obtain ⟨_, _, _, _, _, _, _, _, _, Y, _⟩ := X
  exact HeapX_tup Y s
theorem PlainAt_tr {K : PySem.W.Frag} {H : Hp} {p : Addr} {S : Sta} {O : List Addr} (X : PlainAt K H p S O) : ∀ a ∈ O, H a ≠ none := by
  obtain ⟨_, _, _, _, _, _, _, _, _, Y, _⟩ := X
  obtain ⟨_, _, _, _, _, _, _, e7⟩ := Y
  exact fun a ha => (e7.tr a ha).ne
theorem LawX_tr {H : Hp} {m n l : Addr} {S : Sta} {O : List Addr} {A C : Nat → Addr} (X : LawX H m S O n l A C) : ∀ a ∈ O, H a ≠ none := by
  obtain ⟨_, _, _, _, _, _, _, e7⟩ := X
  exact e7.tr
/-- a list of others' lists changes: no tuple does -/
theorem lists_tup {H H' : Hp} {O : List Addr} (s : Stp O H H') (l : ∀ a ∈ O, ∃ xs, H a = some (.lst xs)) : Tup H H' :=
  ⟨fun a xs e => s a _ e (fun z => by obtain ⟨ys, h⟩ := l a z; rw [h] at e; cases e), fun a xs e => s a _ e (fun z => by obtain ⟨ys, h⟩ := l a z; rw [h] at e; cases e)⟩
def toldT : Told → Tr
  | .val v => vT v
  | .lst ks => .lst (ks.map fun (k : Nat) => Tr.int (k : Int))
theorem rep_told {H : Hp} {r : V} {told : Told} (h : TR H r told) (n : ∀ ks, told = .lst ks → ks.length ≤ 1000) : RepN H 2 r (toldT told) := by
  cases told with
  | val v =>
    cases v with
    | str z =>
      obtain rfl : r = .str z := h
      exact rfl
    | non => exact rep_v (show VR H r .non from h)
    | int i => exact rep_v (show VR H r (.int i) from h)
    | ref k => exact rep_v (show VR H r (.ref k) from h)
    | bl b => exact (show VR H r (.bl b) from h).elim
    | byt b => exact (show VR H r (.byt b) from h).elim
    | flt b => exact (show VR H r (.flt b) from h).elim
    | ty b => exact (show VR H r (.ty b) from h).elim
  | lst ks =>
    obtain ⟨l, rfl, e⟩ := h
    refine ⟨l, _, rfl, e, by rw [List.length_map]; exact n ks rfl, Paired.mapL _ (Paired.mapR _ ?_)⟩
    clear e n
    induction ks with
    | nil => exact .nil
    | cons k r ih => exact .cons rfl ih
theorem srt_one : ∀ {xs ys : List Nat}, xs.Pairwise (· < ·) → ys.Pairwise (· < ·) → (∀ k, k ∈ xs ↔ k ∈ ys) → xs = ys := fun {xs ys} a b h =>
  List.Perm.eq_of_pairwise (le := fun x y => x < y) (fun x y _ _ h1 h2 => absurd h1 (by omega)) a b ((List.perm_ext_iff_of_nodup (a.imp fun h => Nat.ne_of_lt h) (b.imp fun h => Nat.ne_of_lt h)).mpr h)
theorem settle_len0 {S S' : Sta} {ks : List Nat} (h : Settle S ks S') : ks.length ≤ (duesA S).length := by
  induction h with
  | done _ => exact Nat.zero_le _
  | @turn S S' ks hne _ ih =>
    have tl := turn_len (S := S.tellBy (ReachA S))
    rw [tell_dues] at tl
    rw [List.length_append]
    omega
theorem settle_len {S S' : Sta} {ks : List Nat} (h : Settle S ks S') (hm : S.made ≤ 790) : ks.length ≤ 1000 := by
  have h1 := settle_len0 h
  have h2 : (duesA S).length ≤ S.made := by
    have := List.length_filter_le (fun k => (S.th k).last == .due) (List.range S.made)
    rw [List.length_range] at this
    exact this
  omega
theorem stepF_val (S : Sta) (d : Deed) : ∃ v, (stepF S d).2.1 = .val v := by
  cases d <;> simp only [stepF] <;> (try exact ⟨_, rfl⟩) <;> (repeat' split) <;> exact ⟨_, rfl⟩
theorem told_len {S S' : Sta} {d : Deed} {told : Told} {c : Chg} (h : StepR S d S' told c) (hm : S.made ≤ 790) : ∀ ks, told = .lst ks → ks.length ≤ 1000 := fun ks e => by
  cases h with
  | settle s => cases e; exact settle_len s hm
  | other z =>
    obtain ⟨v, hv⟩ := stepF_val S d
    rw [hv] at e
    cases e
end WK
namespace WK
open PySem PySem.Spec PyProof.Rows L2 He WB
section
variable {P : Program} {w : World} {K : PySem.W.Frag} {mg : Str → Option Value} {base : Heap}
/-- both stand for S -/
structure LI (K : PySem.W.Frag) (H : Hp) (h ls p m : Addr) (S : Sta) (OP OL : List Addr) (n l : Addr) (A C : Nat → Addr) : Prop where
  num : NumAt H h ls
  pl : PlainAt K H p S OP
  lw : LawX H m S OL n l A C
  ok : WB.Ok S
  hP : h ∉ OP
  lP : ls ∉ OP
  hL : h ∉ OL
  lL : ls ∉ OL
  pL : p ∉ OL
  dj : ∀ b ∈ OP, b ∉ OL
section
variable {H H' : Hp} {h ls p m : Addr} {S : Sta} {OP OL : List Addr} {n l : Addr} {A C : Nat → Addr}
theorem LI.same (s : Same H H') (x : LI K H h ls p m S OP OL n l A C) : LI K H' h ls p m S OP OL n l A C :=
  ⟨x.num.same s, x.pl.same s, x.lw.same s, x.ok, x.hP, x.lP, x.hL, x.lL, x.pL, x.dj⟩
theorem LI.other {O2 : List Addr} (s : Stp O2 H H') (tp : Tup H H') (d : ∀ a ∈ O2, a ∉ OP ∧ a ∉ OL ∧ a ≠ h ∧ a ≠ ls ∧ a ≠ p) (x : LI K H h ls p m S OP OL n l A C) : LI K H' h ls p m S OP OL n l A C :=
  ⟨x.num.stp s (fun z => (d _ z).2.2.1 rfl) (fun z => (d _ z).2.2.2.1 rfl), PlainAt_stp x.pl s tp (fun a ha z => (d a z).1 ha) (fun z => (d _ z).2.2.2.2 rfl), x.lw.stp s tp fun a ha z => (d a z).2.1 ha, x.ok, x.hP, x.lP, x.hL, x.lL, x.pL, x.dj⟩
/-- what is new is none of theirs -/
theorem LI.new (x : LI K H h ls p m S OP OL n l A C) {a : Addr} (ha : H a = none) : a ∉ OP ∧ a ∉ OL ∧ a ≠ h ∧ a ≠ ls ∧ a ≠ p := by
  refine ⟨fun z => PlainAt_tr x.pl a z ha, fun z => LawX_tr x.lw a z ha, ?_, ?_, ?_⟩
  · rintro rfl
    obtain ⟨_, _, _, e, _⟩ := x.num
    rw [e] at ha; cases ha
  · rintro rfl
    obtain ⟨_, _, _, _, e, _⟩ := x.num
    rw [e] at ha; cases ha
  · rintro rfl
    obtain ⟨_, _, _, _, _, _, _, _, e, _⟩ := x.pl
    rw [e] at ha; cases ha
end
theorem LI.stpP {H H' : Hp} {h ls p m : Addr} {S : Sta} {OP OL : List Addr} {n l : Addr} {A C : Nat → Addr} (x : LI K H h ls p m S OP OL n l A C) (s : StpP H H') (y : LawX H' m S OL n l A C) : LI K H' h ls p m S OP OL n l A C := by
  obtain ⟨_, _, _, _, _, _, _, e7⟩ := id x.lw
  have st : Stp [tabP] H H' := fun a o e n => s a o e fun z => n (z ▸ List.mem_cons_self)
  have nt : ∀ {a}, a ∈ OL → ∀ b, b ∉ OL → b ∉ [a] := fun {a} ha b hb z => hb (List.mem_singleton.mp z ▸ ha)
  refine ⟨x.num.stp st (nt e7.tO _ x.hL) (nt e7.tO _ x.lL), PlainAt_stp x.pl st (StpP.tup e7.tb s) (fun a ha => nt e7.tO _ (x.dj a ha)) (nt e7.tO _ x.pL), y, x.ok, x.hP, x.lP, x.hL, x.lL, x.pL, x.dj⟩
theorem LI.draw {H H' : Hp} {h ls p m : Addr} {S : Sta} {OP OL : List Addr} {n l : Addr} {A C : Nat → Addr} (x : LI K H h ls p m S OP OL n l A C) (s : Stp [h, ls] H H') (y : NumAt H' h ls) : LI K H' h ls p m S OP OL n l A C := by
  have tp := NumAt_tup x.num s
  have two : ∀ {a}, a ≠ h → a ≠ ls → a ∉ [h, ls] := fun h1 h2 z => (List.mem_cons.mp z).elim h1 fun z => h2 (List.mem_singleton.mp z)
  have np : p ≠ h ∧ p ≠ ls := by
    obtain ⟨_, _, _, _, _, _, _, _, e, _⟩ := x.pl
    obtain ⟨_, _, _, e1, e2, _⟩ := x.num
    exact ⟨(fun z => by rw [z, e1] at e; cases e), (fun z => by rw [z, e2] at e; cases e)⟩
  exact ⟨y, PlainAt_stp x.pl s tp (fun a ha => two (fun z => x.hP (z ▸ ha)) (fun z => x.lP (z ▸ ha))) (two np.1 np.2), x.lw.stp s tp fun a ha => two (fun z => x.hL (z ▸ ha)) (fun z => x.lL (z ▸ ha)), x.ok, x.hP, x.lP, x.hL, x.lL, x.pL, x.dj⟩
theorem ok0 : WB.Ok S0 := by
  refine ⟨by show (nmS.map fun x => ((Sum.inr x : Key), V.non)).map (fun p => p.1) = nmS.map Sum.inr; rw [List.map_map]; rfl, fun p hp => ?_, fun k hk => absurd hk (Nat.not_lt_zero _), fun k hk => absurd hk (Nat.not_lt_zero _), fun k hk => absurd hk (Nat.not_lt_zero _), fun k hk => absurd hk (Nat.not_lt_zero _)⟩
  obtain ⟨x, _, rfl⟩ := List.mem_map.mp hp
  exact trivial
/-- one deed, done by both -/
theorem LI.done {H7 H8 H9 : Hp} {h ls p m : Addr} {S S2 S3 : Sta} {OP OL OL2 OP3 : List Addr} {n l : Addr} {A C A2 C2 : Nat → Addr} {d : Deed} {told told' : Told} {chg chg' : Chg} (L7 : LI K H7 h ls p m S OP OL n l A C) (dok : d.ok) (sr : StepR S d S2 told chg) (st8 : Stp OL H7 H8) (tp8 : Tup H7 H8) (fr8 : Frs OL OL2 H7)
    (X8 : LawX H8 m S2 OL2 n l A2 C2) (sr' : StepR S d S3 told' chg') (st9 : Stp OP H8 H9) (fr9 : Frs OP OP3 H8) (P9 : PlainAt K H9 p S3 OP3) : LI K H9 h ls p m S2 OP3 OL2 n l A2 C2 ∧ told' = told ∧ (S2.made = S.made ∨ S2.made = S.made + 1) := by
  have P8 := PlainAt_stp L7.pl st8 tp8 L7.dj L7.pL
  have num8 := L7.num.stp st8 L7.hL L7.lL
  obtain ⟨eS, eT, eC⟩ := sr.one sr'
  subst eS eT eC
  have tp9 := PlainAt_tup P8 st9
  have trP7 := PlainAt_tr L7.pl
  have dj2 : ∀ b ∈ OL2, b ∉ OP := fun b hb z => (fr8 b hb).elim (fun y => L7.dj b z y) fun y => trP7 b z y
  have X9 := X8.stp st9 tp9 dj2
  obtain ⟨ok9, made9⟩ := L7.ok.step dok sr
  have trL8 := LawX_tr X8
  have OP3n : ∀ b ∈ OP3, b ∉ OL2 := fun b hb z => (fr9 b hb).elim (fun y => dj2 b z y) fun y => trL8 b z y
  have new8 : ∀ {b : Addr}, H8 b ≠ none → b ∉ OP → b ∉ OP3 := fun hb hn z => (fr9 _ z).elim hn fun y => hb y
  have new7 : ∀ {b : Addr}, H7 b ≠ none → b ∉ OL → b ∉ OL2 := fun hb hn z => (fr8 _ z).elim hn fun y => hb y
  obtain ⟨_, _, _, eh7, el7, _⟩ := id L7.num
  obtain ⟨_, _, _, eh8, el8, _⟩ := id num8
  obtain ⟨_, _, _, _, _, _, _, _, ep7, _⟩ := id L7.pl
  exact ⟨⟨num8.stp st9 L7.hP L7.lP, P9, X9, ok9, new8 (by rw [eh8]; intro z; cases z) L7.hP, new8 (by rw [el8]; intro z; cases z) L7.lP, new7 (by rw [eh7]; intro z; cases z) L7.hL, new7 (by rw [el7]; intro z; cases z) L7.lL, new7 (by rw [ep7]; intro z; cases z) L7.pL, OP3n⟩, rfl, made9⟩
/-- the start of both -/
theorem LI.start {H1 HA H2 H3 : Hp} {h ls p m n l dp : Addr} {OP : List Addr} (num : NumAt H1 h ls) (tb : LamX.TabS H1 tabP lamQ) (sP : Same H1 HA) (gp : HA p = some (.ins (ga K "Plain") dp [])) (np : H1 p = none) (stp : Stp [p] HA H2) (fr : ∀ a ∈ OP, HA a = none) (P2 : PlainAt K H2 p S0 OP) (s3 : Same H2 H3) (nm : H2 m = none) (nn : H2 n = none) (nl : H2 l = none)
    (X3 : LawX H3 m S0 [m, n, l, tabP] n l (fun _ => 0) (fun _ => 0)) : LI K H3 h ls p m S0 OP [m, n, l, tabP] n l (fun _ => 0) (fun _ => 0) := by
  have tbA : LamX.TabS HA tabP lamQ := tb.ext sP
  obtain ⟨ps0, e0, _⟩ := id tbA
  have ntp : tabP ≠ p := fun z => by
    rw [z, gp] at e0; cases e0
  have numA := num.same sP
  obtain ⟨_, _, _, eh, el, _⟩ := id numA
  have nhp : h ≠ p := fun z => by rw [z, gp] at eh; cases eh
  have nlp : ls ≠ p := fun z => by rw [z, gp] at el; cases el
  have num2 : NumAt H2 h ls := numA.stp stp (fun z => nhp (List.mem_singleton.mp z)) (fun z => nlp (List.mem_singleton.mp z))
  have hOP : h ∉ OP := fun z => by rw [fr h z] at eh; cases eh
  have lOP : ls ∉ OP := fun z => by rw [fr ls z] at el; cases el
  have tOP : tabP ∉ OP := fun z => by rw [fr _ z] at e0; cases e0
  have et : H2 tabP = some (.tbl ps0) := stp _ _ e0 fun z => ntp (List.mem_singleton.mp z)
  have four : ∀ b, H2 b ≠ none → b ≠ tabP → b ∉ [m, n, l, tabP] := fun b hb ht z => by
    rcases List.mem_cons.mp z with rfl | z
    · exact hb nm
    · rcases List.mem_cons.mp z with rfl | z
      · exact hb nn
      · rcases List.mem_cons.mp z with rfl | z
        · exact hb nl
        · exact ht (List.mem_singleton.mp z)
  obtain ⟨_, _, _, eh2, el2, _⟩ := id num2
  obtain ⟨_, _, _, _, _, _, _, _, ep2, _⟩ := id P2
  exact ⟨num2.same s3, P2.same s3, X3, ok0, hOP, lOP, four h (by rw [eh2]; intro z; cases z) (fun z => by rw [z, et] at eh2; cases eh2), four ls (by rw [el2]; intro z; cases z) (fun z => by rw [z, et] at el2; cases el2), four p (by rw [ep2]; intro z; cases z) (fun z => by rw [z, et] at ep2; cases ep2), fun b hb => four b (PlainAt_tr P2 b hb) fun z => tOP (z ▸ hb)⟩
/-- the table behind the making of the plain run -/
theorem tab_start {HA H2 : Hp} {p dp : Addr} (gp : HA p = some (.ins (ga K "Plain") dp [])) (stp : Stp [p] HA H2) (tbA : LamX.TabS HA tabP lamQ) : LamX.TabS H2 tabP lamQ := by
  have tpA : Tup HA H2 := ⟨fun b ys e => stp _ _ e (fun z => by rw [List.mem_singleton.mp z, gp] at e; cases e), fun b ys e => stp _ _ e (fun z => by rw [List.mem_singleton.mp z, gp] at e; cases e)⟩
  obtain ⟨ps, e, r⟩ := id tbA
  exact TabS_moved tbA tpA (by rw [e]; exact stp _ _ e fun z => by rw [← List.mem_singleton.mp z, e] at gp; cases gp)
/-- the two photos are alike -/
theorem LI.put {H : Hp} {h ls p m : Addr} {S : Sta} {OP OL : List Addr} {n l : Addr} {A C : Nat → Addr} (x : LI K H h ls p m S OP OL n l A C) {a : Addr} {xs : List V} (o : HO) (ha : H a = some (.lst xs)) (f : a ∉ OP ∧ a ∉ OL ∧ a ≠ h ∧ a ≠ ls ∧ a ≠ p) : LI K (upd H a o) h ls p m S OP OL n l A C :=
  x.other (O2 := [a]) (Stp.upd (.inl List.mem_cons_self)) (tup_upd (fun u e => by rw [ha] at e; cases e; rfl)) fun b hb => List.mem_singleton.mp hb ▸ f
theorem pair_left {α β : Type} {R : α → β → Prop} : ∀ {xs : List α} {ys : List β}, Paired R xs ys → ∀ {x}, x ∈ xs → ∃ y ∈ ys, R x y
  | _, _, .nil, _, h => by cases h
  | _, _, .cons r t, x, h => by
    rcases List.mem_cons.mp h with rfl | h
    · exact ⟨_, List.mem_cons_self, r⟩
    · obtain ⟨y, m, z⟩ := pair_left t h
      exact ⟨y, List.mem_cons_of_mem _ m, z⟩
theorem if_rest {c : TT} {t u : TS} {D : Ends} {rt : VK} {bk ct : L2.St → Hp → Prop} {σ : L2.St} {H : Hp} (Z : Hp → Prop) (g : ∀ nx : L2.St → Hp → Prop, (∀ H12, Z H12 → nx σ H12) → c σ H fun b H1 => if b = true then t { D with nx := nx } σ H1 else nx σ H1) (h : ∀ H12, Z H12 → u D σ H12) : tNext ⟨tSeq (tIfS c t tNext) u D, rt, bk, ct⟩ σ H := g _ h
/-- a told thing's list of parts: new, not very long -/
def PL (N : Addr → Prop) (H : Hp) (t : Addr) (b : Nat) : Prop := ∃ (x1 x2 x4 : V) (lp : Addr), H t = some (.tup [x1, x2, .ref lp, x4]) ∧ N lp ∧ ∃ xs, H lp = some (.lst xs) ∧ xs.length ≤ b
theorem PL.same {N : Addr → Prop} {H H' : Hp} {t : Addr} {b b' : Nat} (s : Same H H') (hb : b ≤ b') (h : PL N H t b) : PL N H' t b' := by
  obtain ⟨x1, x2, x4, lp, e, n, xs, e2, l⟩ := h
  exact ⟨x1, x2, x4, lp, s _ _ e, n, xs, s _ _ e2, Nat.le_trans l hb⟩
theorem PL.put {N : Addr → Prop} {H : Hp} {t a : Addr} {b : Nat} {xs : List V} {y : V} (ha : H a = some (.lst xs)) (hl : xs.length ≤ b) (h : PL N H t b) : PL N (upd H a (.lst (xs ++ [y]))) t (b + 1) := by
  obtain ⟨x1, x2, x4, lp, e, n, ys, e2, l⟩ := h
  have n1 : t ≠ a := fun z => by rw [z, ha] at e; cases e
  refine ⟨x1, x2, x4, lp, by rw [upd_ne n1]; exact e, n, ?_⟩
  by_cases z : lp = a
  · refine ⟨_, by rw [z, upd_same], ?_⟩
    rw [List.length_append]
    exact Nat.add_le_add_right hl 1
  · exact ⟨ys, by rw [upd_ne z]; exact e2, Nat.le_succ_of_le l⟩
/-- a value that is told: a list, new and nobody's, or none -/
theorem told_two {H0 H : Hp} {O : List Addr} {r : V} {told : Told} (t : TRF H0 O H r told) (len : ∀ ks, told = .lst ks → ks.length ≤ 1000) : (∃ a xs, r = .ref a ∧ H a = some (.lst xs) ∧ xs.length ≤ 1000 ∧ H0 a = none ∧ a ∉ O) ∨ r = .non ∨ (∃ z, r = .str z) ∨ (∃ i, r = .int i) ∨ ∃ a xs, r = .ref a ∧ H a = some (.tup xs) := by
  obtain ⟨t1, t2⟩ := t
  cases told with
  | lst ks =>
    obtain ⟨a, rfl, e⟩ := t1
    obtain ⟨b, eb, g⟩ := t2
    cases eb
    exact .inl ⟨a, _, rfl, e, by rw [show (nV ks).length = ks.length from List.length_map _]; exact len ks rfl, g⟩
  | val v =>
    cases v with
    | str z => exact .inr (.inr (.inl ⟨z, t1⟩))
    | non => exact .inr (.inl (show VR H r .non from t1))
    | int i => exact .inr (.inr (.inr (.inl ⟨i, (show VR H r (.int i) from t1)⟩)))
    | ref k => obtain ⟨a, e1, e2⟩ := (show VR H r (.ref k) from t1); exact .inr (.inr (.inr (.inr ⟨a, _, e1, e2⟩)))
    | bl b => exact (show VR H r (.bl b) from t1).elim
    | byt b => exact (show VR H r (.byt b) from t1).elim
    | flt b => exact (show VR H r (.flt b) from t1).elim
    | ty b => exact (show VR H r (.ty b) from t1).elim
def spLaw (K : PySem.W.Frag) : Sp := fun vs H Q _ => ∃ (a : Addr) (xs : List Int), vs = [.ref a] ∧ SqL K H a (xs.map V.int) ∧ xs.length ≤ 100 ∧ LamX.TabS H tabP lamQ ∧ ∀ H', Q (.bl true) H'
theorem fn_mk {x qual : Str} {pa : Arguments} {body : List Stmt} {sc : Scope} {f : Addr} {fd : FuncData} {N ps : List Str} {k : Nat} {sp : Sp} (F : FunD K x qual pa body sc [] [] f fd) (S : FnScope N ps sc) (len : ∀ vs H Q E, sp vs H Q E → vs.length = ps.length)
    (hbody : ∀ (cdv : Value) (A : Around) (outer : List Env) (s : Shared) (H : Hp) (vs : List V) (Q : VK) (E : XK), Room k (A.deeper (envOfC qual sc s.heap.objs.size f cdv)) → sp vs H Q E →
      ∃ t, PSs (cxOf CX0 P w K mg base N qual sc f cdv A outer s H E).nox body t ∧ t { nx := fun _ H' => Q .non H', rt := Q } (start N vs) H) : FnOk P w K mg base CX0 (k + 1) f fd ps sp := by
  refine F.ok S len fun cdv A outer s H vs Q E hr h => ?_
  obtain ⟨t, p, q⟩ := hbody cdv A outer s H vs Q E hr h
  exact ⟨t, p.nox, q⟩
end
end WK
namespace WK
open PySem PySem.Spec PyProof.Rows L2 He WB
section
variable {P : Program} {w : World} {K : PySem.W.Frag} {mg : Str → Option Value} {base : Heap}
theorem pair_right {α β : Type} {R : α → β → Prop} : ∀ {xs : List α} {ys : List β}, Paired R xs ys → ∀ {y}, y ∈ ys → ∃ x ∈ xs, R x y
  | _, _, .nil, _, h => by cases h
  | _, _, .cons r t, y, h => by
    rcases List.mem_cons.mp h with rfl | h
    · exact ⟨_, List.mem_cons_self, r⟩
    · obtain ⟨x, m, z⟩ := pair_right t h
      exact ⟨x, List.mem_cons_of_mem _ m, z⟩
/-- deeds, one behind another -/
inductive Runs (S : Sta) : List Deed → List Told → Sta → Prop
  | nil : Runs S [] [] S
  | snoc {ds : List Deed} {ts : List Told} {S1 S2 : Sta} {d : Deed} {t : Told} {c : Chg} : Runs S ds ts S1 → StepR S1 d S2 t c → Runs S (ds ++ [d]) (ts ++ [t]) S2
theorem Runs.one {S S1 : Sta} {ds : List Deed} {ts : List Told} (a : Runs S ds ts S1) : ∀ {ts' : List Told} {S2 : Sta}, Runs S ds ts' S2 → ts = ts' ∧ S1 = S2 := by
  induction a with
  | nil =>
    intro ts' S2 b
    generalize e : ([] : List Deed) = xs at b
    cases b with
    | nil => exact ⟨rfl, rfl⟩
    | snoc _ _ => simp at e
  | @snoc ds ts S1 S2 d t c _ st ih =>
    intro ts' S3 b
    generalize e : ds ++ [d] = xs at b
    cases b with
    | nil => simp at e
    | @snoc ds' ts2 S1' _ d' t' c' r' st' =>
      obtain ⟨e1, e2⟩ := List.append_inj' e rfl
      cases e2
      subst e1
      obtain ⟨rfl, rfl⟩ := ih r'
      obtain ⟨rfl, rfl, _⟩ := st.one st'
      exact ⟨rfl, rfl⟩
theorem Runs.ok {S S1 : Sta} {ds : List Deed} {ts : List Told} (a : Runs S ds ts S1) (o : WB.Ok S) (hd : ∀ d ∈ ds, d.ok) : WB.Ok S1 ∧ S1.made ≤ S.made + ds.length := by
  induction a with
  | nil => exact ⟨o, by simp⟩
  | @snoc ds ts S1 S2 d t c _ st ih =>
    obtain ⟨o1, l1⟩ := ih fun d h => hd d (List.mem_append_left _ h)
    obtain ⟨o2, l2⟩ := o1.step (hd d (by simp)) st
    exact ⟨o2, by rw [List.length_append, List.length_singleton]; omega⟩
theorem Runs.len {S S1 : Sta} {ds : List Deed} {ts : List Told} (a : Runs S ds ts S1) : ts.length = ds.length := by
  induction a with
  | nil => rfl
  | snoc _ _ ih => rw [List.length_append, List.length_append, ih]; rfl
/-- all told lists are short -/
theorem Runs.told {S S1 : Sta} {ds : List Deed} {ts : List Told} (a : Runs S ds ts S1) (o : WB.Ok S) (hd : ∀ d ∈ ds, d.ok) (hm : S.made + ds.length ≤ 790) : ∀ t ∈ ts, ∀ ks, t = .lst ks → ks.length ≤ 1000 := by
  induction a with
  | nil => intro t h; cases h
  | @snoc ds ts S1 S2 d t c r st ih =>
    rw [List.length_append, List.length_singleton] at hm
    have hd' : ∀ d ∈ ds, d.ok := fun d h => hd d (List.mem_append_left _ h)
    obtain ⟨_, l1⟩ := r.ok o hd'
    intro u hu
    rcases List.mem_append.mp hu with hu | hu
    · exact ih hd' (by omega) u hu
    · rw [List.mem_singleton.mp hu]
      exact told_len st (by omega)
/-- what is told, its list (if it is one) as N says -/
def TLn (N : Addr → Prop) (r : V) : Told → Prop
  | .lst _ => ∃ l, r = .ref l ∧ N l
  | .val _ => True
def TRN (N : Addr → Prop) (H : Hp) (r : V) (t : Told) : Prop := TR H r t ∧ TLn N r t
theorem TRN.step {N N' : Addr → Prop} {H H' : Hp} {r : V} {t : Told} (tp : Tup H H') (kp : ∀ l ys, N l → H l = some (.lst ys) → H' l = some (.lst ys) ∧ N' l) (h : TRN N H r t) : TRN N' H' r t := by
  obtain ⟨h1, h2⟩ := h
  cases t with
  | lst ks =>
    obtain ⟨l, rfl, e⟩ := h1
    obtain ⟨l', e', n⟩ := h2
    cases e'
    obtain ⟨k1, k2⟩ := kp l _ n e
    exact ⟨⟨l, rfl, k1⟩, l, rfl, k2⟩
  | val v =>
    refine ⟨?_, trivial⟩
    cases v with
    | str z => exact h1
    | non => exact VR.mono tp (show VR H r .non from h1)
    | int i => exact VR.mono tp (show VR H r (.int i) from h1)
    | ref k => exact VR.mono tp (show VR H r (.ref k) from h1)
    | bl b => exact (show VR H r (.bl b) from h1).elim
    | byt b => exact (show VR H r (.byt b) from h1).elim
    | flt b => exact (show VR H r (.flt b) from h1).elim
    | ty b => exact (show VR H r (.ty b) from h1).elim
theorem TRN.of {N : Addr → Prop} {H0 H : Hp} {O : List Addr} {r : V} {t : Told} (h : TRF H0 O H r t) (n : ∀ l, H0 l = none → l ∉ O → N l) : TRN N H r t := by
  obtain ⟨h1, h2⟩ := h
  refine ⟨h1, ?_⟩
  cases t with
  | lst ks =>
    obtain ⟨l, rfl, a, b⟩ := h2
    exact ⟨l, rfl, n l a b⟩
  | val v => trivial
theorem rep_tolds {H : Hp} {a : Addr} {rs : List V} {ts : List Told} (e : H a = some (.lst rs)) (hp : Paired (TR H) rs ts) (l : ts.length ≤ 1000) (n : ∀ t ∈ ts, ∀ ks, t = .lst ks → ks.length ≤ 1000) : RepN H 3 (.ref a) (.lst (ts.map toldT)) := by
  refine ⟨a, _, rfl, e, by rw [List.length_map]; exact l, Paired.mapR _ ?_⟩
  clear e l
  induction hp with
  | nil => exact .nil
  | cons h _ ih => exact .cons (rep_told h (n _ List.mem_cons_self)) (ih fun t ht => n t (List.mem_cons_of_mem _ ht))
def spRun (K : PySem.W.Frag) : Sp := fun vs H Q _ => ∃ (a : Addr) (ps : List Addr) (ds : List Deed), vs = [.ref a] ∧ H a = some (.lst (ps.map V.ref)) ∧ Paired (DeedAt H) ps ds ∧ ps.length ≤ 120 ∧
  ∀ r H' rs ts S', Runs S0 ds ts S' → Same H H' → H r = none → H' r = some (.lst rs) → Paired (TRN (fun l => H l = none ∧ l ≠ r) H') rs ts → Q (.ref r) H'
end
end WK
namespace WK
open PySem PySem.Spec PyProof.Rows L2 He WB
section
variable {P : Program} {w : World} {K : PySem.W.Frag} {mg : Str → Option Value} {base : Heap}
def spHKept (K : PySem.W.Frag) : Sp := fun vs H Q _ => ∃ (h : Addr) (S : Sta) (live : List Nat) (O : List Addr), vs = [.ref h] ∧ HeapAt K H h S live O ∧ live.Pairwise (· < ·) ∧ S.names.length ≤ 8 ∧ (∀ k ∈ live, (S.th k).body.wf) ∧ live.length ≤ 900 ∧
  ∀ (D : Addr) (H' : Hp) (ks : List Nat), Same H H' → H D = none → H' D = some (.dK (foundD ks)) → ks.Nodup → (∀ k, k ∈ ks ↔ Rch (nxS S) (· ∈ live) (St0.nums S ++ dues S live) k) → Q (.ref D) H'
def spPlainReach (K : PySem.W.Frag) : Sp := fun vs H Q _ => ∃ (p : Addr) (S : Sta) (O : List Addr), vs = [.ref p] ∧ PlainAt K H p S O ∧ WB.Ok S ∧ S.made ≤ 790 ∧
  ∀ q H' ks, Same H H' → H q = none → H' q = some (.lst (nV ks)) → ks.Pairwise (· < ·) → (∀ k, k ∈ ks ↔ ReachA S k) → Q (.ref q) H'
def spPlainKept (K : PySem.W.Frag) : Sp := fun vs H Q _ => ∃ (p : Addr) (S : Sta) (O : List Addr), vs = [.ref p] ∧ PlainAt K H p S O ∧ WB.Ok S ∧ S.made ≤ 790 ∧
  ∀ q H' ks, Same H H' → H q = none → H' q = some (.lst (nV ks)) → ks.Pairwise (· < ·) → (∀ k, k ∈ ks ↔ KeptA S k) → Q (.ref q) H'
end
end WK
namespace WK
open PySem PySem.Spec PyProof.Rows L2 He WB
section
variable {P : Program} {w : World} {K : PySem.W.Frag} {mg : Str → Option Value} {base : Heap}
def argD : V → PyData
  | .int i => .int i
  | .str x => .str x
  | _ => .none
def goodD : V → Bool
  | .int _ => true
  | .str x => PyData.strOk x
  | .non => true
  | _ => false
theorem good_nm : ∀ z ∈ nmS, PyData.strOk z = true := by decide +kernel
theorem good_part {k : Key} (h : PartOk k) : goodD (kV k) = true := by
  cases k with
  | inl i => rfl
  | inr z => exact (show ∀ z ∈ lets, PyData.strOk z = true by decide +kernel) z h
theorem deed_good (d : Deed) (hd : d.ok) : ∀ v ∈ V.str d.word :: d.args, goodD v = true := by
  have nm : ∀ {z : Str}, z ∈ nmS → goodD (.str z) = true := fun h => good_nm _ h
  intro v hv
  rcases List.mem_cons.mp hv with rfl | hv
  · exact (show ∀ i : Fin 12, PyData.strOk (wordsS.getD i "") = true by decide +kernel) ⟨d.tag, by cases d <;> exact Nat.le_of_ble_eq_true rfl⟩
  · cases d <;> simp only [Deed.args, List.mem_cons, List.not_mem_nil, or_false] at hv
    · obtain ⟨h1, h2⟩ := hd
      rcases hv with rfl | rfl
      · exact nm h1
      · exact (show ∀ z ∈ (["record", "row", "book"] : List Str), PyData.strOk z = true by decide +kernel) _ h2
    · rcases hv with rfl | rfl
      · exact nm hd.1
      · rfl
    · rcases hv with rfl | rfl
      · exact nm hd.1
      · exact nm hd.2
    · rw [hv]; exact nm hd
    · rcases hv with rfl | rfl | rfl
      · exact nm hd.1
      · exact good_part hd.2.1
      · exact nm hd.2.2
    · rcases hv with rfl | rfl | rfl
      · exact nm hd.1
      · exact nm hd.2.1
      · exact good_part hd.2.2
    · rcases hv with rfl | rfl
      · exact nm hd.1
      · exact good_part hd.2
    · rcases hv with rfl | rfl
      · exact nm hd.1
      · exact nm hd.2
    · rcases hv with rfl | rfl
      · exact nm hd.1
      · rcases hd.2 with rfl | ⟨x, hx, rfl⟩
        · rfl
        · exact nm hx
    · rcases hv with rfl | rfl
      · exact nm hd.1
      · exact nm hd.2
    · rw [hv]; exact nm hd
theorem args_dp {H : Hp} : ∀ {xs : List V}, (∀ v ∈ xs, goodD v = true) → DpAll K H xs (xs.map argD)
  | [], _ => .nil
  | v :: r, h => by
    have t := args_dp (H := H) fun v hv => h v (List.mem_cons_of_mem _ hv)
    have := h v List.mem_cons_self
    cases v with
    | non => exact .cons .non t
    | int i => exact .cons (.int i) t
    | str x => exact .cons (.str x) t
    | _ => cases this
theorem args_lay : ∀ {xs : List V}, (∀ v ∈ xs, goodD v = true) → PyData.canLayAll0 (xs.map argD) = true ∧ PyData.depthAll (xs.map argD) = 0
  | [], _ => ⟨by simp [PyData.canLayAll0], by simp [PyData.depthAll]⟩
  | v :: r, h => by
    obtain ⟨t1, t2⟩ := args_lay fun v hv => h v (List.mem_cons_of_mem _ hv)
    have := h v List.mem_cons_self
    cases v with
    | non => exact ⟨by simp [PyData.canLayAll0, PyData.canLay0, argD, t1], by simp [PyData.depthAll, PyData.depth, argD, t2]⟩
    | int i => exact ⟨by simp [PyData.canLayAll0, PyData.canLay0, argD, t1], by simp [PyData.depthAll, PyData.depth, argD, t2]⟩
    | str x =>
      have e : PyData.strOk x = true := this
      exact ⟨by simp [PyData.canLayAll0, PyData.canLay0, argD, t1, e], by simp [PyData.depthAll, PyData.depth, argD, t2]⟩
    | _ => cases this
def deedD (d : Deed) : PyData := .tuple ((V.str d.word :: d.args).map argD)
theorem deeds_dp {H : Hp} : ∀ {ps : List Addr} {ds : List Deed}, Paired (DeedAt H) ps ds → DpAll K H (ps.map V.ref) (ds.map deedD)
  | _, _, .nil => .nil
  | _, _, .cons h t => .cons (.tup (SqT.of h.2) (args_dp (deed_good _ h.1))) (deeds_dp t)
theorem deeds_lay : ∀ {ds : List Deed}, (∀ d ∈ ds, d.ok) → PyData.canLayAll0 (ds.map deedD) = true ∧ PyData.depthAll (ds.map deedD) ≤ 1
  | [], _ => ⟨by simp [PyData.canLayAll0], by simp [PyData.depthAll]⟩
  | d :: r, h => by
    obtain ⟨t1, t2⟩ := deeds_lay fun d hd => h d (List.mem_cons_of_mem _ hd)
    obtain ⟨a1, a2⟩ := args_lay (deed_good d (h d List.mem_cons_self))
    refine ⟨?_, ?_⟩
    · rw [List.map_cons]
      simp only [PyData.canLayAll0, deedD, PyData.canLay0]
      rw [a1]; exact t1
    · rw [List.map_cons]
      simp only [PyData.depthAll, deedD, PyData.depth]
      rw [a2]
      have : PyData.depthAll (List.map (fun d => PyData.tuple ((V.str d.word :: d.args).map argD)) r) ≤ 1 := t2
      omega
theorem deeds_shaped {ds : List Deed} (h : ∀ d ∈ ds, d.ok) : SeqAt.shaped (.list (ds.map deedD)) = true := by
  obtain ⟨t1, t2⟩ := deeds_lay h
  show (PyData.canLay0 (.list (ds.map deedD)) && decide (PyData.depth (.list (ds.map deedD)) ≤ 64)) = true
  rw [Bool.and_eq_true]
  refine ⟨by simp only [PyData.canLay0]; exact t1, decide_eq_true ?_⟩
  simp only [PyData.depth]; omega
theorem deeds_eqv {ds : List Deed} (h : ∀ d ∈ ds, d.ok) : PyData.eqv (.list (ds.map deedD)) (.list (ds.map deedD)) = true :=
  SeqAt.eqv_refl _ (by simp only [PyData.canLay0]; exact (deeds_lay h).1)
theorem nil_eqv (ds : List PyData) : PyData.eqv (.list ds) (.list []) = ds.isEmpty := by
  cases ds <;> simp [PyData.eqv, PyData.eqvAll]
theorem nil_shaped : SeqAt.shaped (.list []) = true := ints_shaped []
theorem keys_good {ks : List Key} (h : ∀ z ∈ ks, PartOk z) : ∀ v ∈ ks.map kV, goodD v = true := fun v hv => by
  obtain ⟨z, hz, rfl⟩ := List.mem_map.mp hv
  exact good_part (h z hz)
theorem args_shaped {xs : List V} (h : ∀ v ∈ xs, goodD v = true) : SeqAt.shaped (.list (xs.map argD)) = true := by
  obtain ⟨t1, t2⟩ := args_lay h
  show (PyData.canLay0 (.list (xs.map argD)) && decide (PyData.depth (.list (xs.map argD)) ≤ 64)) = true
  rw [Bool.and_eq_true]
  refine ⟨by simp only [PyData.canLay0]; exact t1, decide_eq_true ?_⟩
  simp only [PyData.depth]; omega
end
end WK
namespace WK
open PySem PySem.Spec PyProof.Rows L2 He WB
section
variable {P : Program} {w : World} {K : PySem.W.Frag} {mg : Str → Option Value} {base : Heap}
mutual
def trD : Tr → PyData
  | .non => .none
  | .int i => .int i
  | .str x => .str x
  | .tup xs => .tuple (trDs xs)
  | .lst xs => .list (trDs xs)
def trDs : List Tr → List PyData
  | [] => []
  | x :: r => trD x :: trDs r
end
mutual
def okT : Tr → Bool
  | .str x => PyData.strOk x
  | .tup xs => okTs xs
  | .lst xs => okTs xs
  | _ => true
def okTs : List Tr → Bool
  | [] => true
  | x :: r => okT x && okTs r
end
theorem okTs_iff : ∀ {xs : List Tr}, okTs xs = true ↔ ∀ x ∈ xs, okT x = true
  | [] => ⟨(fun _ _ z => nomatch z), fun _ => by simp [okTs]⟩
  | x :: r => by
    rw [okTs, Bool.and_eq_true, okTs_iff]
    constructor
    · rintro ⟨h1, h2⟩ y hy
      rcases List.mem_cons.mp hy with rfl | hy
      · exact h1
      · exact h2 y hy
    · exact fun h => ⟨h x List.mem_cons_self, fun y hy => h y (List.mem_cons_of_mem _ hy)⟩
theorem rep_dps {H : Hp} {R : V → Tr → Prop} (f : ∀ v t, R v t → Dp K H v (trD t)) : ∀ {vs : List V} {ts : List Tr}, Paired R vs ts → DpAll K H vs (trDs ts)
  | _, _, .nil => by rw [trDs]; exact .nil
  | _, _, .cons h t => by rw [trDs]; exact .cons (f _ _ h) (rep_dps f t)
theorem rep_dp {H : Hp} : ∀ (d : Nat) (v : V) (t : Tr), RepN H d v t → Dp K H v (trD t)
  | 0, _, _, h => h.elim
  | d + 1, v, t, h => by
    cases t with
    | non => obtain rfl : v = .non := h; rw [trD]; exact .non
    | int i => obtain rfl : v = .int i := h; rw [trD]; exact .int i
    | str x => obtain rfl : v = .str x := h; rw [trD]; exact .str x
    | tup ts =>
      obtain ⟨a, vs, rfl, e, _, hp⟩ := h
      rw [trD]
      exact .tup (SqT.of e) (rep_dps (fun v t h => rep_dp d v t h) hp)
    | lst ts =>
      obtain ⟨a, vs, rfl, e, _, hp⟩ := h
      rw [trD]
      exact .lst (SqL.of e) (rep_dps (fun v t h => rep_dp d v t h) hp)
theorem rep_lays {d : Nat} {R : V → Tr → Prop} (f : ∀ v t, R v t → okT t = true → PyData.canLay0 (trD t) = true ∧ PyData.depth (trD t) ≤ d) : ∀ {vs : List V} {ts : List Tr}, Paired R vs ts → okTs ts = true → PyData.canLayAll0 (trDs ts) = true ∧ PyData.depthAll (trDs ts) ≤ d
  | _, _, .nil, _ => by rw [trDs]; exact ⟨by simp [PyData.canLayAll0], by simp [PyData.depthAll]⟩
  | _, _, .cons h t, o => by
    rw [okTs, Bool.and_eq_true] at o
    obtain ⟨a1, a2⟩ := f _ _ h o.1
    obtain ⟨b1, b2⟩ := rep_lays f t o.2
    rw [trDs]
    refine ⟨by simp [PyData.canLayAll0, a1, b1], ?_⟩
    simp only [PyData.depthAll]
    omega
theorem rep_lay {H : Hp} : ∀ (d : Nat) (v : V) (t : Tr), RepN H d v t → okT t = true → PyData.canLay0 (trD t) = true ∧ PyData.depth (trD t) ≤ d
  | 0, _, _, h, _ => h.elim
  | d + 1, v, t, h, o => by
    cases t with
    | non => rw [trD]; exact ⟨by simp [PyData.canLay0], by simp [PyData.depth]⟩
    | int i => rw [trD]; exact ⟨by simp [PyData.canLay0], by simp [PyData.depth]⟩
    | str x =>
      rw [okT] at o
      rw [trD]; exact ⟨by simp [PyData.canLay0, o], by simp [PyData.depth]⟩
    | tup ts =>
      obtain ⟨a, vs, rfl, e, _, hp⟩ := h
      rw [okT] at o
      obtain ⟨a1, a2⟩ := rep_lays (fun v t h o => rep_lay d v t h o) hp o
      rw [trD]
      refine ⟨by simp only [PyData.canLay0]; exact a1, ?_⟩
      simp only [PyData.depth]
      omega
    | lst ts =>
      obtain ⟨a, vs, rfl, e, _, hp⟩ := h
      rw [okT] at o
      obtain ⟨a1, a2⟩ := rep_lays (fun v t h o => rep_lay d v t h o) hp o
      rw [trD]
      refine ⟨by simp only [PyData.canLay0]; exact a1, ?_⟩
      simp only [PyData.depth]
      omega
theorem rep_shaped {H : Hp} {d : Nat} {v : V} {t : Tr} (h : RepN H d v t) (o : okT t = true) (hd : d ≤ 64) : SeqAt.shaped (trD t) = true := by
  obtain ⟨a, b⟩ := rep_lay d v t h o
  show (PyData.canLay0 (trD t) && decide (PyData.depth (trD t) ≤ 64)) = true
  rw [a, decide_eq_true (by omega)]; rfl
theorem rep_refl {H : Hp} {d : Nat} {v : V} {t : Tr} (h : RepN H d v t) (o : okT t = true) : PyData.eqv (trD t) (trD t) = true := SeqAt.eqv_refl _ (rep_lay d v t h o).1
/-! ### a photo's texts -/
theorem okT_v {m : Nat} {v : V} (h : VOk m v) : okT (vT v) = true := by
  cases v with
  | non => rfl
  | int i => rfl
  | ref k =>
    have : PyData.strOk "thing" = true := by decide +kernel
    simp [vT, okT, okTs, this]
  | _ => exact h.elim
theorem okT_k {k : Key} (h : ∀ x, k = .inr x → PyData.strOk x = true) : okT (kT k) = true := by
  cases k with
  | inl i => rfl
  | inr x => exact h x rfl
theorem okT_parts {m : Nat} {b : Body} (w : b.wf) (bv : ∀ v ∈ b.vals, VOk m v) (wv : ∀ s g, b = .wat s g → s < m) : okT (partsT b.shown) = true := by
  unfold partsT
  rw [okT, okTs_iff]
  intro x hx
  obtain ⟨p, hp, rfl⟩ := List.mem_map.mp hx
  have h2 : okT (kT p.1) = true ∧ okT (vT p.2) = true := by
    have val : ∀ {kvs : List (Key × V)} {k : Key}, (∀ v ∈ kvs.map (·.2), VOk m v) → okT (vT ((valV kvs k).getD .non)) = true := fun {kvs k} h => by
      cases e : valV kvs k with
      | none => rfl
      | some v => exact okT_v (h v (valV_vals e))
    cases b with
    | dic r kvs =>
      cases r with
      | true =>
        obtain ⟨k, hk, rfl⟩ := List.mem_map.mp hp
        refine ⟨okT_k fun x e => ?_, val bv⟩
        subst e
        have h0 : ∀ k ∈ letK, (match k with | .inr x => PyData.strOk x | .inl _ => true) = true := by decide +kernel
        exact h0 _ hk
      | false =>
        obtain ⟨i, _, rfl⟩ := List.mem_map.mp hp
        exact ⟨rfl, val bv⟩
    | row xs =>
      obtain ⟨q, hq, rfl⟩ := List.mem_map.mp hp
      refine ⟨rfl, okT_v (bv q.1 ?_)⟩
      have := List.mem_zipIdx' hq
      show q.1 ∈ xs
      rw [this.2]; exact List.getElem_mem _
    | wat s g =>
      obtain rfl := List.mem_singleton.mp hp
      refine ⟨(show PyData.strOk "sees" = true by decide +kernel), ?_⟩
      cases g with
      | true => rfl
      | false => exact okT_v (m := m) (v := .ref s) (wv s false rfl)
  show okT (.tup [kT p.1, vT p.2]) = true
  simp [okT, okTs, h2.1, h2.2]
theorem okT_photo {S : Sta} {ks : List Nat} (o : WB.Ok S) (h : ∀ k ∈ ks, k < S.made) : okT (photoT S ks) = true := by
  unfold photoT
  have h1 : okT (.lst (S.names.map fun p => vT p.2)) = true := by
    rw [okT, okTs_iff]
    intro x hx
    obtain ⟨p, hp, rfl⟩ := List.mem_map.mp hx
    exact okT_v (o.nv p hp)
  have h2 : okT (.lst (ks.map fun k => snapT k (S.th k))) = true := by
    rw [okT, okTs_iff]
    intro x hx
    obtain ⟨k, hk, rfl⟩ := List.mem_map.mp hx
    have hk := h k hk
    have h3 := okT_parts (o.wf k hk) (o.bv k hk) fun s g e => (o.wv k hk s g e).1
    have h4 : PyData.strOk (S.th k).body.kind = true := by
      cases (S.th k).body with
      | wat s g => exact (show PyData.strOk "watch" = true by decide +kernel)
      | row xs => exact (show PyData.strOk "row" = true by decide +kernel)
      | dic r kvs => cases r with
        | true => exact (show PyData.strOk "record" = true by decide +kernel)
        | false => exact (show PyData.strOk "book" = true by decide +kernel)
    unfold snapT
    simp [okT, okTs, h3, h4]
  simp only [okT, okTs, Bool.and_true] at h1 h2 ⊢
  rw [h1, h2]; rfl
end
end WK
namespace WK
open PySem PySem.Spec PyProof.Rows L2 He WB
section
variable {P : Program} {w : World} {K : PySem.W.Frag} {mg : Str → Option Value} {base : Heap}
/-- the law's own side alone -/
structure LJ (H : Hp) (h ls m : Addr) (S : Sta) (OL : List Addr) (n l : Addr) (A C : Nat → Addr) : Prop where
  num : NumAt H h ls
  lw : LawX H m S OL n l A C
  ok : WB.Ok S
  hL : h ∉ OL
  lL : ls ∉ OL
section
variable {H H' : Hp} {h ls m : Addr} {S : Sta} {OL : List Addr} {n l : Addr} {A C : Nat → Addr}
theorem LJ.same (s : Same H H') (x : LJ H h ls m S OL n l A C) : LJ H' h ls m S OL n l A C := ⟨x.num.same s, x.lw.same s, x.ok, x.hL, x.lL⟩
theorem LJ.new (x : LJ H h ls m S OL n l A C) {a : Addr} (ha : H a = none) : a ∉ OL ∧ a ≠ h ∧ a ≠ ls := by
  refine ⟨fun z => LawX_tr x.lw a z ha, ?_, ?_⟩
  · rintro rfl
    obtain ⟨_, _, _, e, _⟩ := x.num
    rw [e] at ha; cases ha
  · rintro rfl
    obtain ⟨_, _, _, _, e, _⟩ := x.num
    rw [e] at ha; cases ha
theorem LJ.put (x : LJ H h ls m S OL n l A C) {a : Addr} {xs : List V} (o : HO) (ha : H a = some (.lst xs)) (f : a ∉ OL ∧ a ≠ h ∧ a ≠ ls) : LJ (upd H a o) h ls m S OL n l A C := by
  have st : Stp [a] H (upd H a o) := Stp.upd (.inl List.mem_cons_self)
  have tp : Tup H (upd H a o) := tup_upd (fun u e => by rw [ha] at e; cases e; rfl)
  exact ⟨x.num.stp st (fun z => f.2.1 (List.mem_singleton.mp z).symm) (fun z => f.2.2 (List.mem_singleton.mp z).symm), x.lw.stp st tp (fun b hb z => f.1 (List.mem_singleton.mp z ▸ hb)), x.ok, x.hL, x.lL⟩
theorem LJ.draw (x : LJ H h ls m S OL n l A C) (s : Stp [h, ls] H H') (y : NumAt H' h ls) : LJ H' h ls m S OL n l A C := by
  have tp := NumAt_tup x.num s
  have two : ∀ {a}, a ≠ h → a ≠ ls → a ∉ [h, ls] := fun h1 h2 z => (List.mem_cons.mp z).elim h1 fun z => h2 (List.mem_singleton.mp z)
  exact ⟨y, x.lw.stp s tp fun a ha => two (fun z => x.hL (z ▸ ha)) (fun z => x.lL (z ▸ ha)), x.ok, x.hL, x.lL⟩
end
theorem LJ.start {H H' : Hp} {h ls m n l : Addr} (num : NumAt H h ls) (tb : LamX.TabS H tabP lamQ) (s4 : Same H H') (nm : H m = none) (nn : H n = none) (nl : H l = none) (X4 : LawX H' m S0 [m, n, l, tabP] n l (fun _ => 0) (fun _ => 0)) : LJ H' h ls m S0 [m, n, l, tabP] n l (fun _ => 0) (fun _ => 0) := by
  obtain ⟨_, _, _, eh, el, hne, _⟩ := id num
  have hb : ∀ b, H b ≠ none → b ≠ tabP → b ∉ [m, n, l, tabP] := fun b hb ht z => by
    rcases List.mem_cons.mp z with rfl | z
    · exact hb nm
    · rcases List.mem_cons.mp z with rfl | z
      · exact hb nn
      · rcases List.mem_cons.mp z with rfl | z
        · exact hb nl
        · exact ht (List.mem_singleton.mp z)
  obtain ⟨ps0, e0, _⟩ := id tb
  exact ⟨num.same s4, X4, ok0, hb h (by rw [eh]; intro z; cases z) (fun z => by rw [z, e0] at eh; cases eh), hb ls (by rw [el]; intro z; cases z) (fun z => by rw [z, e0] at el; cases el)⟩
theorem DeedAt.tup {H H' : Hp} (s : Tup H H') {p : Addr} {d : Deed} (h : DeedAt H p d) : DeedAt H' p d := ⟨h.1, s _ _ h.2⟩
/-- the law's heap does a deed -/
theorem LJ.done {H H8 : Hp} {h ls m : Addr} {S S2 : Sta} {OL OL2 : List Addr} {n l : Addr} {A C A2 C2 : Nat → Addr} {d : Deed} {told : Told} {chg : Chg} (x : LJ H h ls m S OL n l A C) (hd : d.ok) (sr : StepR S d S2 told chg) (st8 : Stp OL H H8) (fr8 : Frs OL OL2 H) (X8 : LawX H8 m S2 OL2 n l A2 C2) : LJ H8 h ls m S2 OL2 n l A2 C2 := by
  have new : ∀ {b : Addr}, H b ≠ none → b ∉ OL → b ∉ OL2 := fun hb hn z => (fr8 _ z).elim hn fun y => hb y
  obtain ⟨_, _, _, eh, el, _⟩ := id x.num
  exact ⟨x.num.stp st8 x.hL x.lL, X8, (x.ok.step hd sr).1, new (by rw [eh]; intro z; cases z) x.hL, new (by rw [el]; intro z; cases z) x.lL⟩
def spLProg : Sp := fun vs H Q _ => ∃ (h ls : Addr) (most : Nat), vs = [.ref h, .int (most : Int)] ∧ NumAt H h ls ∧ LamX.TabS H tabP lamQ ∧ most ≤ 240 ∧
  ∀ p H' F m ps ds ts S OL n l A C, Runs S0 ds ts S → LJ H' h ls m S OL n l A C → Stp [h, ls, tabP] H H' → (∀ b ∈ OL, b = tabP ∨ H b = none) → H p = none → H F = none → H' p = some (.tup [.ref F, .ref m]) → H' F = some (.lst (ps.map V.ref)) → F ∉ OL → Paired (DeedAt H') ps ds → ps.length ≤ most → Q (.ref p) H'
theorem ok__law_program (T : Tx w K mg) : DefOk ⟨P, w, K, mg, base⟩ 9 (ga K "_law_program") ["_law_h", "_law_most"] spLProg := by
  refine DefOk.mk' (f__law_program T) sc__law_program (fun _ _ _ _ _ _ us hl => match us, hl with | [_, _], _ => rfl) (fun vs H Q E h => ?_) (fun cdv A outer s H vs Q E hr h => ?_)
  · obtain ⟨h, ls, most, rfl, _⟩ := h
    rfl
  · obtain ⟨h, ls, most, rfl, num, tb, m240, k⟩ := h
    have hu := hu_of hr
    refine ⟨_, (pss_cons (ps_set (i := 2) sc__law_program.nd rfl (Or.inl rfl) (pe_cg0 (M := ⟨P, w, K, mg, base⟩) rfl hr rfl)) (pss_cons (ps_set (i := 3) sc__law_program.nd rfl (Or.inl rfl) (pe_lst pa_nil)) (pss_cons (ps_for PassesOwn.never rfl (pi_range1 rfl (z_range T) (pa_cons (pe_cg (M := ⟨P, w, K, mg, base⟩) rfl hr rfl (pa_cons (pv 0) (pa_cons (pe_op op_add (pv 1) pe_int) pa_nil))) pa_nil)) (pg_name (i := 4) sc__law_program.nd rfl (Or.inl rfl)) (pss_cons (ps_expr (pe_bm PySem.F.plainAttrs_list PySem.F.slot_list_append PySem.F.type_list_append mt_append (pv 3) (pa_cons (pe_cg (M := ⟨P, w, K, mg, base⟩) rfl hr rfl (pa_cons (pv 0) (pa_cons (pv 2) pa_nil))) pa_nil))) (pss_one (ps_expr (pe_cg (M := ⟨P, w, K, mg, base⟩) rfl hr rfl (pa_cons (pv 2) (pa_cons (pe_ix ix_list (pv 3) (pe_un un_neg pe_int) (fun _ _ => rfl)) pa_nil))))))) (pss_one (ps_ret (pe_tup (pa_cons (pv 3) (pa_cons (pv 2) pa_nil)))))))), ?_⟩
    refine ⟨_, _, _, _, g__law_model T, ok__law_model T, by decide, rfl, tb, fun m n l H4 s4 nm nn nl X4 => ?_⟩
    have L4 := LJ.start num tb s4 nm nn nl X4
    refine ⟨by show 0 ≤ sizeLine; decide, fun F hF => ?_⟩
    have s5 := same_new (o := .lst []) hF
    have L5 := L4.same s5
    have nF := L4.new hF
    have gF : upd H4 F (.lst []) F = some (.lst (([] : List Addr).map V.ref)) := upd_same
    have s05 := s4.trans s5
    have F0 : H F = none := s4.free hF
    have OL0 : ∀ b ∈ [m, n, l, tabP], b = tabP ∨ H b = none := fun b hb => by
      rcases List.mem_cons.mp hb with rfl | hb
      · exact .inr nm
      · rcases List.mem_cons.mp hb with rfl | hb
        · exact .inr nn
        · rcases List.mem_cons.mp hb with rfl | hb
          · exact .inr nl
          · exact .inl (List.mem_singleton.mp hb)
    generalize upd H4 F (.lst []) = H5 at s5 L5 gF s05 ⊢
    clear L4 X4 s4 s5 nm nn nl hF
    refine ⟨_, _, _, _, g__law_next T, ok__law_next T, by decide, _, rfl, _, rfl, _, _, rfl, rfl, h, ls, (most : Int) + 1, rfl, L5.num, by omega, by omega, fun u H9 u0 u1 st9 n9 => ?_⟩
    have L9 := L5.draw st9 n9
    have two : ∀ {b}, b ≠ h → b ≠ ls → b ∉ [h, ls] := fun h1 h2 z => (List.mem_cons.mp z).elim h1 fun z => h2 (List.mem_singleton.mp z)
    have gF9 := st9 _ _ gF (two nF.2.1 nF.2.2)
    have h3 : ∀ {b}, b ∉ [h, ls, tabP] → b ≠ h ∧ b ≠ ls ∧ b ≠ tabP := fun hb => by
      simp only [List.mem_cons, List.not_mem_nil, or_false, not_or] at hb
      exact hb
    have st09 : Stp [h, ls, tabP] H H9 := fun b o e nb => st9 _ _ (s05 _ _ e) (two (h3 nb).1 (h3 nb).2.1)
    clear L5 s05 st9 n9 gF num tb
    refine ⟨_, rfl, by omega, by omega, ?_⟩
    refine for_it walk_range (fun i σ H' => ∃ (S : Sta) (OL : List Addr) (A C : Nat → Addr) (ps : List Addr) (ds : List Deed) (ts : List Told) (x4 : Option V), σ = [some (.ref h), some (.int (most : Int)), some (.ref m), some (.ref F), x4] ∧ LJ H' h ls m S OL n l A C ∧ Runs S0 ds ts S ∧ Stp [h, ls, tabP] H H' ∧ (∀ b ∈ OL, b = tabP ∨ H b = none) ∧ H' F = some (.lst (ps.map V.ref)) ∧ F ∉ OL ∧ Paired (DeedAt H') ps ds ∧ ps.length = i ∧ S.made ≤ i)
      ⟨S0, _, _, _, [], [], [], _, rfl, L9, .nil, st09, OL0, gF9, nF.1, .nil, rfl, Nat.le_refl 0⟩ (fun _ _ _ _ _ => trivial) ?_ ?_
    · clear L9 gF9 st09 OL0
      rintro i x σ H10 H11 hi ⟨S, OL, A', C', ps, ds, ts, x4, rfl, L, run, st, fr, gF, nFO, dp, lp, made⟩ ⟨rfl, ex⟩
      have il : i < 241 := by omega
      refine ⟨_, rfl, .inl ⟨rfl, _, SqL.of gF⟩, _, _, _, _, g__law_deed T, ok__law_deed T, by decide, _, rfl, _, rfl, h, ls, m, S, OL, n, l, A', C', rfl, L.num, L.lw, L.ok, by omega, L.hL, L.lL, fun qd H12 d st12 n12 nqd dq => ?_⟩
      have L12 := L.draw st12 n12
      have tp12 := NumAt_tup L.num st12
      have gF12 := st12 _ _ gF (two nF.2.1 nF.2.2)
      refine ⟨F, _, _, rfl, rfl, gF12, szl (by rw [List.length_map]; omega), ?_⟩
      have L13 := L12.put (.lst (ps.map V.ref ++ [V.ref qd])) gF12 ⟨nFO, nF.2⟩
      have tp13 : Tup H12 (upd H12 F (.lst (ps.map V.ref ++ [V.ref qd]))) := tup_upd (by rw [gF12]; intro xs z; cases z; rfl)
      have st13 : Stp [h, ls, tabP] H (upd H12 F (.lst (ps.map V.ref ++ [V.ref qd]))) := fun b o e nb => by
        rw [upd_ne (fun z => by rw [z, F0] at e; cases e)]
        exact st12 _ _ (st _ _ e nb) (two (h3 nb).1 (h3 nb).2.1)
      have gF13 : upd H12 F (.lst (ps.map V.ref ++ [V.ref qd])) F = some (.lst ((ps ++ [qd]).map V.ref)) := by rw [upd_same, List.map_append]; rfl
      have dp13 : Paired (DeedAt (upd H12 F (.lst (ps.map V.ref ++ [V.ref qd])))) (ps ++ [qd]) (ds ++ [d]) := Paired.app (Paired.imp (fun _ _ z => z.tup (tp12.trans tp13)) dp) (.cons (dq.tup tp13) .nil)
      have dq13 := dq.tup tp13
      generalize upd H12 F (.lst (ps.map V.ref ++ [V.ref qd])) = H13 at L13 tp13 st13 gF13 dp13 dq13 ⊢
      have gF13' : H13 F = some (.lst (ps.map V.ref ++ [V.ref qd])) := by rw [gF13, List.map_append]; rfl
      refine ⟨_, _, _, _, g__law_do T, ok__law_do T, by decide, _, rfl, _, rfl, _, rfl, F, _, -1, .ref qd, rfl, rfl, SqL.of gF13', at_last, m, qd, S, OL, n, l, A', C', d, trivial, rfl, L13.lw, L13.ok, by omega, dq13, fun r H14 S2 OL2 A2 C2 told chg sr st14 tp14 fr14 tr14 X14 => ?_⟩
      have L14 := L13.done dq.1 sr st14 fr14 X14
      have made14 := (L.ok.step dq.1 sr).2
      refine ⟨S2, OL2, A2, C2, ps ++ [qd], ds ++ [d], ts ++ [told], _, rfl, L14, .snoc run sr, fun b o e nb => st14 _ _ (st13 _ _ e nb) fun z => ?_, fun b hb => ?_, st14 _ _ gF13 nFO, (fun z => (fr14 _ z).elim nFO fun y => by rw [gF13] at y; cases y), Paired.imp (fun _ _ z => z.tup tp14) dp13, by rw [List.length_append, lp]; rfl, by omega⟩
      · rcases fr b z with y | y
        · exact (h3 nb).2.2 y
        · rw [y] at e; cases e
      · rcases fr14 b hb with z | z
        · exact fr b z
        · by_cases y : b = tabP
          · exact .inl y
          · refine .inr ?_
            cases q : H b with
            | none => rfl
            | some o =>
              exfalso
              by_cases w : b ∈ [h, ls, tabP]
              · simp only [List.mem_cons, List.not_mem_nil, or_false] at w
                obtain ⟨_, _, _, eh, el, _⟩ := id L13.num
                rcases w with rfl | rfl | w
                · rw [eh] at z; cases z
                · rw [el] at z; cases z
                · exact y w
              · rw [st13 _ _ q w] at z; cases z
    · clear L9 gF9 st09 OL0
      rintro σ H10 ⟨S, OL, A', C', ps, ds, ts, x4, rfl, L, run, st, fr, gF, nFO, dp, lp, made⟩
      refine ⟨_, rfl, _, rfl, by show 2 ≤ sizeLine; decide, fun p hp => ?_⟩
      have sp := same_new (o := .tup [V.ref F, V.ref m]) hp
      have p0 : H p = none := by
        cases q : H p with
        | none => rfl
        | some o =>
          exfalso
          by_cases w : p ∈ [h, ls, tabP]
          · simp only [List.mem_cons, List.not_mem_nil, or_false] at w
            obtain ⟨_, _, _, eh, el, _⟩ := id L.num
            obtain ⟨_, _, _, _, _, _, _, e7⟩ := id L.lw
            obtain ⟨_, et, _⟩ := id e7.tb
            rcases w with rfl | rfl | rfl
            · rw [eh] at hp; cases hp
            · rw [el] at hp; cases hp
            · rw [et] at hp; cases hp
          · rw [st _ _ q w] at hp; cases hp
      exact k p _ F m ps ds ts S OL n l A' C' run (L.same sp) (fun b o e nb => sp _ _ (st _ _ e nb)) fr p0 F0 upd_same (sp _ _ gF) nFO (Paired.imp (fun _ _ z => z.same sp) dp) (by omega)
/-! ### a drawn machine -/
end
end WK
/-! word, *parts = a list; d.get(k, x) of a written dict. -/
namespace WB
open PySem PySem.Spec PySem.Calls PyProof.Rows PySem.W L2 He
section
variable {prog : Program} {w : World} {A : Around} {E : Value → Shared → Prop} {s : Shared}
theorem star_rawL {l : Addr} {u0 : Value} {us : List Value} {Q : List Value → Shared → Prop} (ht : s.heap.IsList l (u0 :: us).toArray) (hh : A.handled = none) (hz : us.length ≤ 1000)
    (h : ∀ (h' : Heap) (tk : Nat), (∀ b o, s.heap.get? b = some o → h'.get? b = some o) → Q [u0, .ref h'.objs.size] { s with heap := h'.push { cls := .type "list", data := .seq us.toArray }, toks := tk }) :
    wpAny (model prog w) A (unpackItems (.ref l) 2 (some 1)) Q E s := by
  have hll : l < s.heap.objs.size := by obtain ⟨o, ho, _⟩ := ht; exact Heap.lt_size ho
  have hlt : l ≠ s.heap.objs.size := Nat.ne_of_lt hll
  have hsz : (u0 :: us).toArray.size = us.length + 1 := by simp
  unfold unpackItems notIterableAtAll
  refine wpAny_bind (wpAny_bind (wpAny_specialOf ht.typeIs slot_list_iter.lookup (wpAny_pure ?_)))
  rw [if_neg (by decide)]
  refine wpAny_bind (wpAny_holding (wpAny_pyIter_list ht ?_))
  refine wpAny_bind (wpAny_holding (kun_draw hlt 1 0 _ _ ⟨_, Heap.get?_push_size _ rfl, rfl, rfl⟩ (ht.push _) (by omega) fun h1 it1 s1 => ?_))
  have ht1 : h1.IsList l (u0 :: us).toArray := (ht.push _).extBut s1.extBut hlt
  have k1 : ∀ b o, s.heap.get? b = some o → h1.get? b = some o := fun b o e => s1.extBut b o (Nat.ne_of_lt (Heap.lt_size e)) (Heap.get?_push_of_some _ e)
  rw [Nat.zero_add] at it1
  obtain ⟨oi, hoi, _⟩ := id it1
  obtain ⟨ol, hol, _⟩ := id ht1
  show wpAny _ _ (if ([u0] : List Value).length < 1 then _ else _) _ _ _
  rw [if_neg (by show ¬ 1 < 1; omega)]
  refine wpAny_bind (wpAny_holding (kun_collect (s := { s with heap := h1 }) (T := "list_iterator") (.inr (.inr (.inl rfl))) (Walks.list (A := A.in1) hh s.heap.objs.size l hlt (u0 :: us).toArray) (fun j u st => st.1.typeIs) (k := 1) (by omega) ⟨it1, ht1⟩ (Heap.lt_size hoi) (Heap.lt_size hol) (fun h2 tk k2 => ?_) (by rw [sizeLine_eq]; omega)))
  show wpAny _ _ (if us.length < 0 then _ else _) _ _ _
  rw [if_neg (by omega)]
  show wpAny _ _ (newList (us.take us.length) >>= fun d => pure ([u0] ++ [d] ++ us.drop us.length)) _ _ _
  rw [List.take_length, List.drop_length]
  have k : ∀ b o, s.heap.get? b = some o → h2.get? b = some o := fun b o e => k2 b o (Nat.ne_of_lt (Heap.lt_size e)) (k1 b o e)
  exact wpAny_bind (wpAny_newList (wpAny_pure (h h2 tk k)) (by rw [sizeLine_eq]; omega))
end
/-- a, *b = a list: b a new list -/
def gStarL (K : PySem.W.Frag) (t : TGs) : TG := fun v σ H Q => ∃ a x xs, v = .ref a ∧ SqL K H a (x :: xs) ∧ xs.length ≤ 1000 ∧ ∀ D, H D = none → t [x, .ref D] σ (upd H D (.lst xs)) Q
theorem pg_starL {X : Cx} {pos : Pos} {e1 e2 : Expr} {sp : Pos} {k : Nat} {t : TGs} (hc : X.calm = true) (h : PGs X [e1, e2] t) (hn : (assignEach [e1, .Starred e2 sp] X.env).length = 2 := by rfl) (hst : (assignEach [e1, .Starred e2 sp] X.env).findIdx? (·.1) = some 1 := by rfl)
    (hm : (assignEach [e1, .Starred e2 sp] X.env).map (·.2) = (assignEach [e1, e2] X.env).map (·.2) := by rfl) : PG X (.Tuple [e1, .Starred e2 sp] k pos) (gStarL X.K t) := by
  refine ⟨fun pins s σ H v u Q I r hw => ?_⟩
  obtain ⟨a, x, xs, e1', hq, hl, hw⟩ := hw
  subst e1'
  cases r
  obtain ⟨its, rv, pl, hz⟩ := I.list hq
  have ht := pl.isList
  cases rv with
  | cons r0 rr =>
    rename_i u0 us
    have lu := rr.length
    rw [assign_Tuple]
    refine wpAny_bind (wpAny_standAt ?_)
    unfold unpack
    rw [hn, hst]
    refine wpAny_bind (wpAny_holding (star_rawL ht (I.ok.hd hc) (by omega) fun h' tk kp => ?_))
    have I0 : Inv X pins σ H { s with heap := h', toks := tk } := I.kept kp
    have hf : H h'.objs.size = none := I0.hok.fresh (Nat.le_refl _)
    rw [hm]
    have I1 : Inv X pins σ (upd H h'.objs.size (.lst xs)) { s with heap := h'.push { cls := .type "list", data := .seq us.toArray }, toks := tk } :=
      I0.laid (t' := tk) (fun b u e => Heap.get?_push_of_some _ e) (Nat.le_refl _) ⟨by rw [sizeLine_eq]; omega, us, 0, rr, Heap.get?_push_size _ rfl⟩
    exact h.run pins _ σ _ [x, .ref h'.objs.size] [u0, .ref h'.objs.size] Q I1 (.cons r0 (.cons rfl .nil)) (hw _ hf)
/-- d.get(k, x), d a written dict -/
def tKGet2 (K : PySem.W.Frag) (w : World) (td ty tx : TE) : TE := fun σ H Q => td σ H fun x H1 => ∃ p es n, x = .ref p ∧ K.lookup p = some ⟨.type "dict", none, .dict es n, #[]⟩ ∧ PySem.W.KeysLit w.params es.toList ∧ (p == sysModules) = false ∧
  ty σ H1 fun y H2 => tx σ H2 fun z H3 => ∃ (b : Str) (r : Option Value), y = .str b ∧ PySem.W.nsIn K p b = some r ∧ ((∃ v u, r = some u ∧ RelV v u ∧ Q v H3) ∨ (r = none ∧ Q z H3))
theorem pe_kget2 {X : Cx} {o e f : Expr} {td ty tx : TE} {apos cpos : Pos} (ho : PE X o td) (he : PE X e ty) (hf : PE X f tx) (m : M2 X o "get" apos e f cpos) : PE X (.Call (.Attribute o "get" apos) [e, f] [] cpos) (tKGet2 X.K X.w td ty tx) := by
  refine ⟨fun pins s σ H Q I h => ?_⟩
  refine wpAny_Call_method m.base m.few m.line PySem.F.plainAttrs_dict PySem.F.slot_dict_get PySem.F.type_dict_get (thn (ho.run pins s σ H _ I h) fun u s1 ⟨x, H1, I1, rx, p, es, n, ex, hl, hk, low, q1⟩ => ?_)
  subst ex
  obtain rfl : u = Value.ref p := rx
  have hm1 := PySem.W.mapOf_K (prog := X.prog) (w := X.w) I1.kIn hl hk
  refine ⟨hm1.typeIs, fun a e => by cases e; exact ⟨_, I1.kIn _ _ hl, rfl⟩, ?_⟩
  rw [m.trees]
  refine Calls.callWith_builtin rfl (Calls.evalArgs_plain (Calls.spliced_cons (thn (he.run pins s1 σ H1 _ I1 q1) fun iv s2 ⟨y, H2, I2, ry, q2⟩ =>
    Calls.spliced_cons (thn (hf.run pins s2 σ H2 _ I2 q2) fun fv s3 ⟨z, H3, I3, rz, b, r, ey, hr, q3⟩ => Calls.spliced_nil ?_))))
  subst ey
  obtain ⟨t, rfl⟩ := (show ∃ t, iv = Value.str b t from ry)
  have hm := PySem.W.mapOf_K (prog := X.prog) (w := X.w) I3.kIn hl hk
  refine call_meetsIn PySem.F.slot_dict_get hm.typeIs PySem.F.entry_dict_get (PySem.F.args_dict_get_3 _ _ _) (meets_dict_get_default (strKind X.prog X.w) p (strKind_is X.prog X.w b t) low fv) ⟨_, hm, ?_⟩
  rw [PySem.W.find_K hl hr]
  rcases q3 with ⟨v, u, rfl, rv, q⟩ | ⟨rfl, q⟩
  · exact ⟨v, H3, I3.tok _, rv, q⟩
  · exact ⟨z, H3, I3.tok _, rz, q⟩
end WB
/-! Deeds as rows, programs as texts. -/
namespace WB
open PySem PySem.Spec PyProof.Rows L2 He TL
/-- how a word of a deed is written -/
def textV : V → Str
  | .non => "-"
  | .int i => toString i
  | .str x => x
  | _ => ""
def rowS (d : Deed) : Str := Txt.join " " ((V.str d.word :: d.args).map textV)
def progS (ds : List Deed) : Str := Txt.join "\n" (ds.map rowS)
/-- the figures of 0 to 99 -/
def figS : List Str := (List.range 100).map fun (n : Nat) => ((toString (n : Int) : String) : Str)
def numV (x : Str) : V := if x ∈ figS then .int (figS.idxOf x : Nat) else .str x
def partV (sh x : Str) : V := if sh = "goal" ∧ x = "-" then .non else if sh = "number" ∨ sh = "part" then numV x else .str x
/-- what a row tells, its words of these shapes -/
def rowV (sh : List Str) (ws : List Str) : List V := match ws with
  | [] => []
  | w :: ps => .str w :: (if ps.length = sh.length then List.zipWith partV sh ps else ps.map V.str)
theorem eqV_str {a b : Str} : eqV (.str a) (.str b) = decide (a = b) := by
  show (a == b) = _
  by_cases h : a = b
  · rw [h]; simp
  · rw [decide_eq_false h]; simp [h]
theorem inV_str {x : Str} : ∀ {xs : List Str}, inV (.str x) (xs.map V.str) = decide (x ∈ xs)
  | [] => rfl
  | y :: r => by
    show (eqV (.str y) (.str x) || inV (.str x) (r.map V.str)) = _
    rw [eqV_str, inV_str]
    by_cases h : y = x
    · rw [h]; simp
    · rw [decide_eq_false h, Bool.false_or]
      exact decide_eq_decide.mpr ⟨fun z => List.mem_cons_of_mem _ z, fun z => (List.mem_cons.mp z).resolve_left fun q => h q.symm⟩
theorem idx_at {x : Str} : ∀ {xs : List Str}, x ∈ xs → xs[xs.idxOf x]? = some x ∧ ∀ m z, m < xs.idxOf x → xs[m]? = some z → z ≠ x
  | [], h => by cases h
  | y :: r, h => by
    by_cases e : y = x
    · rw [e, List.idxOf_cons_self]
      exact ⟨rfl, fun m z hm _ => absurd hm (Nat.not_lt_zero _)⟩
    · have hr := (List.mem_cons.mp h).resolve_left fun q => e q.symm
      obtain ⟨h1, h2⟩ := idx_at hr
      have e' : (y == x) = false := beq_eq_false_iff_ne.mpr e
      rw [List.idxOf_cons, e', cond_false]
      refine ⟨h1, fun m z hm hz => ?_⟩
      cases m with
      | zero => cases hz; exact e
      | succ m => exact h2 m z (by omega) hz
/-- a short word without blanks and ends of rows -/
def wordB (x : Str) : Bool := decide (x.cps.size ≤ 6) && decide (x.cps.size ≠ 0) && x.cps.toList.all fun c => c != 32 && c != 10
theorem word_nm : ∀ z ∈ nmS, wordB z = true := by decide +kernel
theorem word_num : ∀ i : Fin 100, wordB ((toString ((i : Nat) : Int) : String) : Str) = true := by decide +kernel
theorem num_back : ∀ i : Fin 100, ((toString ((i : Nat) : Int) : String) : Str) ∈ figS ∧ figS.idxOf ((toString ((i : Nat) : Int) : String) : Str) = i := by decide +kernel
theorem let_back : ∀ z ∈ lets, z ∉ figS := by decide +kernel
theorem int_fin {i : Int} (h0 : 0 ≤ i) (h1 : i ≤ 99) : ∃ n : Fin 100, i = ((n : Nat) : Int) := ⟨⟨i.toNat, by omega⟩, by simp only []; omega⟩
theorem word_part {k : Key} (h : PartOk k) : wordB (textV (kV k)) = true := by
  cases k with
  | inl i =>
    obtain ⟨n, e⟩ := int_fin (i := i) h.1 (by have := h.2; omega)
    show wordB ((toString i : String) : Str) = true
    rw [e]; exact word_num n
  | inr z => exact (show ∀ z ∈ lets, wordB z = true by decide +kernel) z h
theorem word_args (d : Deed) (hd : d.ok) : ∀ v ∈ V.str d.word :: d.args, wordB (textV v) = true := by
  have nm : ∀ {z : Str}, z ∈ nmS → wordB (textV (.str z)) = true := fun h => word_nm _ h
  intro v hv
  rcases List.mem_cons.mp hv with rfl | hv
  · exact (show ∀ i : Fin 12, wordB (wordsS.getD i "") = true by decide +kernel) ⟨d.tag, by cases d <;> exact Nat.le_of_ble_eq_true rfl⟩
  · cases d <;> simp only [Deed.args, List.mem_cons, List.not_mem_nil, or_false] at hv
    · obtain ⟨h1, h2⟩ := hd
      rcases hv with rfl | rfl
      · exact nm h1
      · exact (show ∀ z ∈ (["record", "row", "book"] : List Str), wordB z = true by decide +kernel) _ h2
    · rcases hv with rfl | rfl
      · exact nm hd.1
      · obtain ⟨n, e⟩ := int_fin hd.2.1 hd.2.2
        rw [e]; exact word_num n
    · rcases hv with rfl | rfl
      · exact nm hd.1
      · exact nm hd.2
    · rw [hv]; exact nm hd
    · rcases hv with rfl | rfl | rfl
      · exact nm hd.1
      · exact word_part hd.2.1
      · exact nm hd.2.2
    · rcases hv with rfl | rfl | rfl
      · exact nm hd.1
      · exact nm hd.2.1
      · exact word_part hd.2.2
    · rcases hv with rfl | rfl
      · exact nm hd.1
      · exact word_part hd.2
    · rcases hv with rfl | rfl
      · exact nm hd.1
      · exact nm hd.2
    · rcases hv with rfl | rfl
      · exact nm hd.1
      · rcases hd.2 with rfl | ⟨x, hx, rfl⟩
        · decide +kernel
        · exact nm hx
    · rcases hv with rfl | rfl
      · exact nm hd.1
      · exact nm hd.2
    · rw [hv]; exact nm hd
theorem wordB_of {x : Str} (h : wordB x = true) : x.length ≤ 6 ∧ x.length ≠ 0 ∧ 32 ∉ tl x ∧ 10 ∉ tl x := by
  unfold wordB at h
  simp only [Bool.and_eq_true, decide_eq_true_eq, List.all_eq_true, bne_iff_ne] at h
  obtain ⟨⟨h1, h2⟩, h3⟩ := h
  exact ⟨h1, h2, fun z => (h3 _ z).1 rfl, fun z => (h3 _ z).2 rfl⟩
theorem joinL_mem {S : List Nat} {c : Nat} : ∀ {ps : List (List Nat)}, c ∈ joinL S ps → c ∈ S ∨ ∃ p ∈ ps, c ∈ p
  | [], h => by cases h
  | [p], h => .inr ⟨p, List.mem_singleton.mpr rfl, h⟩
  | p :: q :: r, h => by
    have h : c ∈ p ++ (S ++ joinL S (q :: r)) := h
    rcases List.mem_append.mp h with h | h
    · exact .inr ⟨p, List.mem_cons_self, h⟩
    · rcases List.mem_append.mp h with h | h
      · exact .inl h
      · exact (joinL_mem h).imp_right fun ⟨p, m, z⟩ => ⟨p, List.mem_cons_of_mem _ m, z⟩
theorem joinL_len {S : List Nat} {b : Nat} : ∀ {ps : List (List Nat)}, (∀ p ∈ ps, p.length ≤ b) → (joinL S ps).length ≤ ps.length * (b + S.length)
  | [], _ => Nat.zero_le _
  | [p], h => by
    have := h p (List.mem_singleton.mpr rfl)
    show p.length ≤ 1 * _
    omega
  | p :: q :: r, h => by
    have h1 := h p List.mem_cons_self
    have h2 := joinL_len (S := S) (ps := q :: r) fun x hx => h x (List.mem_cons_of_mem _ hx)
    show (p ++ (S ++ joinL S (q :: r))).length ≤ ((q :: r).length + 1) * _
    rw [List.length_append, List.length_append, Nat.add_mul]
    omega
theorem joinL_pos {S : List Nat} : ∀ {ps : List (List Nat)}, ps ≠ [] → (∀ p ∈ ps, p ≠ []) → joinL S ps ≠ []
  | [], h, _ => absurd rfl h
  | [p], _, h => h p (List.mem_singleton.mpr rfl)
  | p :: q :: r, _, h => fun z => h p List.mem_cons_self (List.append_eq_nil_iff.mp (show p ++ (S ++ joinL S (q :: r)) = [] from z)).1
theorem len_tl (x : Str) : (tl x).length = x.length := Array.length_toList
theorem join_tl (y : Str) (ps : List Str) : tl (Txt.join y ps) = joinL (tl y) (ps.map tl) := by rw [join_eq, tl_join]
theorem row_tl (d : Deed) : tl (rowS d) = joinL [32] (((V.str d.word :: d.args).map textV).map tl) := join_tl " " _
theorem args_few (d : Deed) : d.args.length ≤ 3 := by cases d <;> simp [Deed.args]
theorem row_facts (d : Deed) (hd : d.ok) : (rowS d).length ≤ 28 ∧ (rowS d).length ≠ 0 ∧ 10 ∉ tl (rowS d) := by
  have hw : ∀ p ∈ (((V.str d.word :: d.args).map textV).map tl), p.length ≤ 6 ∧ p ≠ [] ∧ 10 ∉ p := fun p hp => by
    obtain ⟨x, hx, rfl⟩ := List.mem_map.mp hp
    obtain ⟨v, hv, rfl⟩ := List.mem_map.mp hx
    obtain ⟨h1, h2, _, h4⟩ := wordB_of (word_args d hd v hv)
    exact ⟨by rw [len_tl]; exact h1, fun z => h2 (by rw [← len_tl, z]; rfl), h4⟩
  refine ⟨?_, fun z => ?_, fun z => ?_⟩
  · rw [← len_tl, row_tl]
    refine Nat.le_trans (joinL_len fun p hp => (hw p hp).1) ?_
    have := args_few d
    simp only [List.length_map, List.length_cons, List.length_nil]
    omega
  · rw [← len_tl, row_tl] at z
    exact joinL_pos (S := [32]) (by simp) (fun p hp => (hw p hp).2.1) (List.length_eq_zero_iff.mp z)
  · rw [row_tl] at z
    rcases joinL_mem z with z | ⟨p, hp, z⟩
    · exact absurd (List.mem_singleton.mp z) (by decide)
    · exact (hw p hp).2.2 z
theorem row_split (d : Deed) (hd : d.ok) : Txt.split (rowS d) " " = (V.str d.word :: d.args).map textV :=
  split_join (s := 32) (S := []) rfl (by decide +kernel) (by simp) fun p hp => by
    obtain ⟨v, hv, rfl⟩ := List.mem_map.mp hp
    exact (wordB_of (word_args d hd v hv)).2.2.1
theorem prog_tl (ds : List Deed) : tl (progS ds) = joinL [10] ((ds.map rowS).map tl) := join_tl "\n" _
theorem prog_split {ds : List Deed} (hd : ∀ d ∈ ds, d.ok) (ne : ds ≠ []) : Txt.split (progS ds) "\n" = ds.map rowS :=
  split_join (s := 10) (S := []) rfl (by decide +kernel) (fun z => ne (List.map_eq_nil_iff.mp z)) fun p hp => by
    obtain ⟨d, h, rfl⟩ := List.mem_map.mp hp
    exact (row_facts d (hd d h)).2.2
theorem prog_len {ds : List Deed} (hd : ∀ d ∈ ds, d.ok) : (progS ds).length ≤ ds.length * 29 := by
  rw [← len_tl, prog_tl]
  refine Nat.le_trans (joinL_len (b := 28) fun p hp => ?_) (by simp only [List.length_map, List.length_cons, List.length_nil]; omega)
  obtain ⟨x, hx, rfl⟩ := List.mem_map.mp hp
  obtain ⟨d, h, rfl⟩ := List.mem_map.mp hx
  rw [len_tl]; exact (row_facts d (hd d h)).1
theorem prog_pos {ds : List Deed} (hd : ∀ d ∈ ds, d.ok) (ne : ds ≠ []) : (progS ds).length ≠ 0 := fun z => by
  rw [← len_tl, prog_tl] at z
  refine joinL_pos (S := [10]) (ps := (ds.map rowS).map tl) (by simpa using ne) (fun p hp q => ?_) (List.length_eq_zero_iff.mp z)
  obtain ⟨x, hx, rfl⟩ := List.mem_map.mp hp
  obtain ⟨d, h, rfl⟩ := List.mem_map.mp hx
  exact (row_facts d (hd d h)).2.1 (by rw [← len_tl, q]; rfl)
theorem sum_len {b : Nat} : ∀ {ps : List Str}, (∀ p ∈ ps, p.length ≤ b) → (ps.map (·.length)).sum ≤ ps.length * b
  | [], _ => Nat.zero_le _
  | p :: r, h => by
    have h1 := h p List.mem_cons_self
    have h2 := sum_len fun x hx => h x (List.mem_cons_of_mem _ hx)
    rw [List.map_cons, List.sum_cons, List.length_cons, Nat.add_mul]
    omega
end WB
namespace WK
open PySem PySem.Spec PyProof.Rows L2 He WB PySem.W
section
variable {P : Program} {w : World} {K : PySem.W.Frag} {mg : Str → Option Value} {base : Heap}
/-! Programs as texts: written, and read. -/
theorem num_int {i : Int} (h0 : 0 ≤ i) (h1 : i ≤ 99) : numV (toString i : String) = .int i := by
  obtain ⟨n, rfl⟩ := int_fin h0 h1
  obtain ⟨a, b⟩ := num_back n
  unfold numV
  rw [if_pos a, b]
theorem num_let {z : Str} (h : z ∈ WB.lets) : numV z = .str z := by unfold numV; rw [if_neg (let_back z h)]
theorem part_back {sh : Str} {v : V} (h : WordOk sh v) : partV sh (textV v) = v := by
  have nonum : ∀ {s x : Str}, s ≠ "number" → s ≠ "part" → ¬ (s = "goal" ∧ x = "-") → partV s x = .str x := fun h1 h2 h3 => by
    unfold partV
    rw [if_neg h3, if_neg fun z => z.elim h1 h2]
  have num : ∀ {s x : Str}, (s = "number" ∨ s = "part") → partV s x = numV x := fun {s x} h => by
    unfold partV
    rw [if_neg fun z => by rw [z.1] at h; exact absurd h (by decide +kernel), if_pos h]
  rcases h with ⟨rfl, x, hx, rfl⟩ | ⟨rfl, hg⟩ | ⟨rfl, x, hx, rfl⟩ | ⟨rfl, i, rfl, h0, h1⟩ | ⟨rfl, k, rfl, hk⟩
  · exact nonum (by decide +kernel) (by decide +kernel) fun z => absurd z.1 (by decide +kernel)
  · rcases hg with rfl | ⟨x, hx, rfl⟩
    · unfold partV
      rw [if_pos ⟨rfl, rfl⟩]
    · exact nonum (by decide +kernel) (by decide +kernel) fun z => absurd z.2 ((show ∀ z ∈ nmS, z ≠ "-" by decide +kernel) x hx)
  · exact nonum (by decide +kernel) (by decide +kernel) fun z => absurd z.1 (by decide +kernel)
  · rw [num (.inl rfl)]; exact num_int h0 h1
  · rw [num (.inr rfl)]
    cases k with
    | inl i => exact num_int hk.1 (by have := hk.2; omega)
    | inr z => exact num_let hk
theorem zip_back : ∀ {shs : List Str} {vs : List V}, Paired WordOk shs vs → List.zipWith partV shs (vs.map textV) = vs
  | _, _, .nil => rfl
  | _, _, .cons h t => by
    rw [List.map_cons, List.zipWith_cons_cons, part_back h, zip_back t]
theorem row_back (d : Deed) (hd : d.ok) : rowV (shapesOf d) ((V.str d.word :: d.args).map textV) = .str d.word :: d.args := by
  have wo := words_ok d hd
  show V.str d.word :: (if (d.args.map textV).length = (shapesOf d).length then _ else _) = _
  rw [List.length_map, if_pos (Paired.length wo).symm, zip_back wo]
theorem args_forms (d : Deed) (hd : d.ok) : ∀ v ∈ V.str d.word :: d.args, v = .non ∨ (∃ i : Int, v = .int i ∧ 0 ≤ i ∧ i ≤ 99) ∨ ∃ x, v = .str x := by
  have wo := words_ok d hd
  intro v hv
  rcases List.mem_cons.mp hv with rfl | hv
  · exact .inr (.inr ⟨_, rfl⟩)
  · obtain ⟨i, hi⟩ := List.getElem?_of_mem hv
    rcases Paired.at i wo with ⟨_, z⟩ | ⟨sh, u, z1, z2, z3⟩
    · rw [hi] at z; cases z
    · rw [hi] at z2; cases z2
      rcases z3 with ⟨_, x, hx, rfl⟩ | ⟨_, hg⟩ | ⟨_, x, hx, rfl⟩ | ⟨_, i, rfl, h0, h1⟩ | ⟨_, k, rfl, hk⟩
      · exact .inr (.inr ⟨_, rfl⟩)
      · rcases hg with rfl | ⟨x, hx, rfl⟩
        · exact .inl rfl
        · exact .inr (.inr ⟨_, rfl⟩)
      · exact .inr (.inr ⟨_, rfl⟩)
      · exact .inr (.inl ⟨i, rfl, h0, h1⟩)
      · cases k with
        | inl i => exact .inr (.inl ⟨i, rfl, hk.1, by have := hk.2; omega⟩)
        | inr z => exact .inr (.inr ⟨_, rfl⟩)
theorem log_small {i : Int} (h0 : 0 ≤ i) (h1 : i ≤ 99) : i.natAbs.log2 < 1920 := by
  by_cases z : i.natAbs = 0
  · rw [z]; decide
  · exact Nat.lt_trans ((Nat.log2_lt z).mpr (show i.natAbs < 2 ^ 7 by omega)) (by decide)
theorem Same.sqT {H H' : Hp} {a : Addr} {xs : List V} (e : Same H H') (h : SqT K H a xs) : SqT K H' a xs := by
  rcases h with (h | ⟨o, h⟩) | h
  · exact .inl (.inl (e _ _ h))
  · exact .inl (.inr ⟨o, e _ _ h⟩)
  · exact .inr h
def spRowOf : Sp := fun vs H Q _ => ∃ (p : Addr) (d : Deed), vs = [.ref p] ∧ DeedAt H p d ∧ ∀ H', Same H H' → Q (.str (rowS d)) H'
def spWritten (K : PySem.W.Frag) : Sp := fun vs H Q _ => ∃ (l : Addr) (ps : List Addr) (ds : List Deed), vs = [.ref l] ∧ SqL K H l (ps.map V.ref) ∧ Paired (DeedAt H) ps ds ∧ ps.length ≤ 120 ∧ ∀ H', Same H H' → Q (.str (progS ds)) H'
def spNumOf : Sp := fun vs H Q _ => ∃ (x : Str), vs = [.str x] ∧ ∀ H', Same H H' → Q (numV x) H'
theorem ok_number_of (T : Tx w K mg) : DefOk ⟨P, w, K, mg, base⟩ 1 (ga K "number_of") ["word"] spNumOf := by
  refine DefOk.mk' (f_number_of T) sc_number_of (fun _ _ _ _ _ _ us hl => match us, hl with | [_], _ => rfl) (fun vs H Q E h => ?_) (fun cdv A outer s H vs Q E hr h => ?_)
  · obtain ⟨x, rfl, _⟩ := h
    rfl
  · obtain ⟨x, rfl, k⟩ := h
    have hu := hu_of hr
    refine ⟨_, (pss_cons (ps_setLc (i := 2) (own := [("number", 1)]) (g := (gName 1)) rfl sc_number_of.nd rfl rfl (sw_true rfl rfl rfl (by decide +kernel)) (pi_range1 rfl (z_range T) (pa_cons (pe_op op_add (pe_glob (v := .int 99) rfl (i_MOST_NUMBER T).choose_spec ⟨_, rfl⟩) pe_int) pa_nil)) (blkOk_by (own := [("number", 1)]) (N := ["word", "number", "figures"]) (sc := defScope s_number_of) (by decide +kernel)) (fun _ _ _ _ _ => (pg_name (i := 1) sc_number_of.nd rfl (Or.inl rfl))) (fun _ _ _ _ _ => by exact pts_nil) (fun _ _ _ _ _ => by exact (pe_callTy call_str_int (by rfl) (z_str T) (by decide +kernel) (pa_cons (pv 1) pa_nil)))) (pss_cons (ps_if (pt_cmpR op_in_seq (pv 0) (pv 2) (by rfl)) (pss_one (ps_ret (pe_bm PySem.F.plainAttrs_list PySem.F.slot_list_index PySem.F.type_list_index mt_index (pv 2) (pa_cons (pv 0) pa_nil)))) pss_nil) (pss_one (ps_ret (pv 0))))), ?_⟩
    refine ⟨_, _, rfl, rfl, 100, rfl, by decide, by decide, fun D hD => ?_⟩
    have at100 : ∀ i : Nat, i < 100 → figS[i]? = some ((toString (i : Int) : String) : Str) := fun i hi => by
      show ((List.range 100).map _)[i]? = _
      rw [List.getElem?_map, List.getElem?_range hi]; rfl
    refine lc_it (walk_range (lo := 0) (n := Int.toNat 100)) (fun i H' => Same H H' ∧ H' D = some (.lst ((figS.take i).map V.str))) ⟨same_new hD, upd_same⟩ (fun _ _ _ _ => trivial) ?_ ?_
    · rintro i v H1 H2 hi ⟨s1, g1⟩ ⟨rfl, ex⟩
      subst ex
      have hi : i < 100 := hi
      refine ⟨rfl, _, rfl, (i : Int), by show [V.int (0 + (i : Int))] = _; rw [Int.zero_add], log_small (by omega) (by omega), _, g1, szl (by rw [List.length_map, List.length_take]; omega), same_mut s1 hD, ?_⟩
      rw [upd_same, take_snoc (at100 i hi), List.map_append]; rfl
    · rintro H1 ⟨s1, g1⟩
      have g1 : H1 D = some (.lst (figS.map V.str)) := by
        rw [g1]
        exact congrArg (fun z : List Str => some (HO.lst (z.map V.str))) (List.take_of_length_le (by show ((List.range 100).map _).length ≤ 100; rw [List.length_map, List.length_range]; exact Nat.le_refl _))
      refine ⟨_, rfl, _, rfl, D, _, rfl, .inl (SqL.of g1), rfl, strs_flat _, _, rfl, ?_⟩
      by_cases h : x ∈ figS
      · refine if_t (show inV _ _ = true by rw [inV_str]; exact decide_eq_true h) ?_
        obtain ⟨i1, i2⟩ := idx_at h
        have kk := k _ s1
        unfold numV at kk
        rw [if_pos h] at kk
        refine ⟨_, rfl, .inl ⟨rfl, _, SqL.of g1⟩, _, rfl, D, _, _, figS.idxOf x, .str x, rfl, rfl, SqL.of g1, rfl, strs_flat _, by rw [List.getElem?_map, i1]; rfl, by rw [eqV_str]; exact decide_eq_true rfl, fun m z hm hz => ?_, kk⟩
        rw [List.getElem?_map] at hz
        obtain ⟨y, hy, rfl⟩ := Option.map_eq_some_iff.mp hz
        rw [eqV_str]
        exact decide_eq_false (i2 m y hm hy)
      · refine if_f (show inV _ _ = false by rw [inV_str]; exact decide_eq_false h) ?_
        have kk := k _ s1
        unfold numV at kk
        rw [if_neg h] at kk
        exact ⟨_, rfl, kk⟩
def spPartOf : Sp := fun vs H Q _ => ∃ (sh x : Str), vs = [.str sh, .str x] ∧ ∀ H', Same H H' → Q (partV sh x) H'
theorem ok_part_of (T : Tx w K mg) : DefOk ⟨P, w, K, mg, base⟩ 2 (ga K "part_of") ["shape", "word"] spPartOf := by
  refine DefOk.mk' (f_part_of T) sc_part_of (fun _ _ _ _ _ _ us hl => match us, hl with | [_, _], _ => rfl) (fun vs H Q E h => ?_) (fun cdv A outer s H vs Q E hr h => ?_)
  · obtain ⟨sh, x, rfl, _⟩ := h
    rfl
  · obtain ⟨sh, x, rfl, k⟩ := h
    have hu := hu_of hr
    refine ⟨_, (pss_cons (ps_if (PW.pt (pw_and (pt_cmpR op_eq (pv 0) pe_str (nomark _)) (pw_and1 (pt_cmpR op_eq (pv 1) (pe_glob (v := .str "-") rfl (i_NO_GOAL T).choose_spec ⟨_, rfl⟩) (nomark _))))) (pss_one (ps_ret pe_non)) pss_nil) (pss_cons (ps_if (pt_cmpR op_in_seq (pv 0) (pe_tup (pa_cons pe_str (pa_cons pe_str pa_nil))) (by rfl)) (pss_one (ps_ret (pe_cg (M := ⟨P, w, K, mg, base⟩) rfl hr rfl (pa_cons (pv 1) pa_nil)))) pss_nil) (pss_one (ps_ret (pv 1))))), ?_⟩
    have two : ∀ {y z : Str}, y ≠ z → decide (V.str y = V.str z) = false := fun h => decide_eq_false fun q => h (V.str.inj q)
    by_cases hg : sh = "goal" ∧ x = "-"
    · obtain ⟨rfl, rfl⟩ := hg
      have kk := k _ (Same.refl H)
      unfold partV at kk
      rw [if_pos ⟨rfl, rfl⟩] at kk
      exact ⟨_, rfl, rfl, _, rfl, if_t (decide_eq_true rfl) ⟨_, rfl, rfl, _, rfl, if_t (decide_eq_true rfl) kk⟩⟩
    · have first : ∀ (Y : Prop), Y → (∀ (p : Prop) [Decidable p], True) → Y := fun _ y _ => y
      have kp : ∀ H', Same H H' → Q (if sh = "number" ∨ sh = "part" then numV x else .str x) H' := fun H' s => by
        have := k H' s
        unfold partV at this
        rw [if_neg hg] at this
        exact this
      have rest : ∀ {Y : Bool → Prop}, (Y false) → (sh = "goal" → Y (decide (V.str x = V.str "-"))) := fun {Y} h e => by
        rw [two fun q => hg ⟨e, q⟩]; exact h
      refine ⟨_, rfl, rfl, _, rfl, ?_⟩
      by_cases hs : sh = "goal"
      · refine if_t (decide_eq_true (by rw [hs])) ⟨_, rfl, rfl, _, rfl, if_f (two fun q => hg ⟨hs, q⟩) ?_⟩
        subst hs
        refine ⟨_, rfl, by show 2 ≤ sizeLine; decide, fun t ht => ⟨t, [.str "number", .str "part"], rfl, .inr (SqT.of upd_same), rfl, rfl, _, rfl, if_f (by decide +kernel) ⟨_, rfl, ?_⟩⟩⟩
        have kk := kp _ (same_new (o := .tup [.str "number", .str "part"]) ht)
        rw [if_neg (by decide +kernel)] at kk
        exact kk
      · refine if_f (two hs) (if_f rfl ?_)
        refine ⟨_, rfl, by show 2 ≤ sizeLine; decide, fun t ht => ⟨t, (["number", "part"] : List Str).map V.str, rfl, .inr (SqT.of upd_same), rfl, rfl, _, rfl, ?_⟩⟩
        have st := same_new (o := .tup [.str "number", .str "part"]) ht
        have em : sh ∈ (["number", "part"] : List Str) ↔ sh = "number" ∨ sh = "part" := by simp
        by_cases hn : sh = "number" ∨ sh = "part"
        · refine if_t (show inV _ _ = true by rw [inV_str]; exact decide_eq_true (em.mpr hn)) ?_
          refine ⟨_, _, _, _, g_number_of T, ok_number_of T, by decide, _, rfl, x, rfl, fun H2 s2 => ?_⟩
          have kk := kp _ (st.trans s2)
          rw [if_pos hn] at kk
          exact kk
        · refine if_f (show inV _ _ = false by rw [inV_str]; exact decide_eq_false fun z => hn (em.mp z)) ?_
          have kk := kp _ st
          rw [if_neg hn] at kk
          exact ⟨_, rfl, kk⟩
/-- the shapes of a word -/
def ShW (K : PySem.W.Frag) (x : Str) (sh : List Str) : Prop := (∃ p, PySem.W.nsIn K (ga K "SHAPES") x = some (some (.ref p)) ∧ ∀ H, SqT K H p (sh.map V.str)) ∨ (PySem.W.nsIn K (ga K "SHAPES") x = some none ∧ sh = [])
theorem shW_of (T : Tx w K mg) (d : Deed) : ShW K d.word (shapesOf d) := by
  obtain ⟨p, a, _, b⟩ := shapes_at T d
  exact .inl ⟨p, a, b⟩
def spDeedOf (K : PySem.W.Frag) : Sp := fun vs H Q _ => ∃ (x w : Str) (ps sh : List Str), vs = [.str x] ∧ x.length + 2 ≤ sizeLine ∧ Txt.split x " " = w :: ps ∧ ps.length ≤ 1000 ∧ sh.length ≤ 1000 ∧ ShW K w sh ∧ ∀ q H', Same H H' → H q = none → H' q = some (.tup (rowV sh (w :: ps))) → Q (.ref q) H'
theorem ok_deed_of (T : Tx w K mg) : DefOk ⟨P, w, K, mg, base⟩ 3 (ga K "deed_of") ["row"] (spDeedOf K) := by
  refine DefOk.mk' (f_deed_of T) sc_deed_of (fun _ _ _ _ _ _ us hl => match us, hl with | [_], _ => rfl) (fun vs H Q E h => ?_) (fun cdv A outer s H vs Q E hr h => ?_)
  · obtain ⟨x, w, ps, sh, rfl, _⟩ := h
    rfl
  · obtain ⟨x, wd, ps, sh, rfl, lx, ex, lp, ls, sw, k⟩ := h
    have hu := hu_of hr
    refine ⟨_, (pss_cons (ps_asg (pe_split (pv 0) pe_str) (pg_starL rfl (pgs_cons (pg_name (i := 1) sc_deed_of.nd rfl (Or.inl rfl)) (pgs_cons (pg_name (i := 2) sc_deed_of.nd rfl (Or.inl rfl)) pgs_nil)))) (pss_cons (ps_set (i := 3) sc_deed_of.nd rfl (Or.inl rfl) (pe_kget2 (pe_glob (v := .ref (ga K "SHAPES")) rfl (g_SHAPES T) rfl) (pv 1) (pe_tup pa_nil) (by exact ⟨rfl, rfl, rfl, rfl⟩))) (pss_cons (ps_if (pt_cmpR op_ne (pe_callB call_len_seq (by rfl) (z_len T) PySem.boot_len (pa_cons (pv 2) pa_nil)) (pe_callB call_len_seq (by rfl) (z_len T) PySem.boot_len (pa_cons (pv 3) pa_nil)) (nomark _)) (pss_one (ps_ret (pe_tup (pa_cons (pv 1) (StX.pa_star (pv 2) pa_nil))))) pss_nil) (pss_one (ps_ret (pe_tup (pa_cons (pv 1) (StX.pa_star (pe_lc (own := [("shape", 4), ("part", 5)]) (g := (gTup K 2 (gCons (gName 4) (gCons (gName 5) gNil)))) rfl sc_deed_of.nd (pi_zipM (by rfl) (z_zip T) (pa_cons (pv 3) (pa_cons (pv 2) pa_nil))) (blkOk_by (own := [("shape", 4), ("part", 5)]) (N := ["row", "word", "parts", "shapes", "shape", "part"]) (sc := defScope s_deed_of) (by decide +kernel)) (fun _ _ _ _ _ => (pg_tupK (K := K) rfl rfl (pgs_cons (pg_name (i := 4) sc_deed_of.nd rfl (Or.inl rfl)) (pgs_cons (pg_name (i := 5) sc_deed_of.nd rfl (Or.inl rfl)) pgs_nil)))) (fun _ _ _ _ _ => by exact pts_nil) (fun _ _ _ _ _ => by exact (pe_cg (M := ⟨P, w, K, mg, base⟩) rfl hr rfl (pa_cons (pv 4) (pa_cons (pv 5) pa_nil))))) pa_nil)))))))), ?_⟩
    refine ⟨_, rfl, ⟨_, rfl⟩, x, " ", rfl, rfl, by decide, lx, fun L hL => ?_⟩
    have s1 := same_new (o := .lst ((Txt.split x " ").map V.str)) hL
    have gL : upd H L (.lst ((Txt.split x " ").map V.str)) L = some (.lst (.str wd :: ps.map V.str)) := by rw [upd_same, ex]; rfl
    refine ⟨L, .str wd, ps.map V.str, rfl, SqL.of gL, by rw [List.length_map]; exact lp, fun D hD => ⟨_, _, rfl, _, _, rfl, rfl, ?_⟩⟩
    have s2 := s1.trans (same_new (o := .lst (ps.map V.str)) hD)
    have gD : upd (upd H L (.lst ((Txt.split x " ").map V.str))) D (.lst (ps.map V.str)) D = some (.lst (ps.map V.str)) := upd_same
    generalize upd (upd H L (.lst ((Txt.split x " ").map V.str))) D (.lst (ps.map V.str)) = H2 at s2 gD ⊢
    clear s1 gL hD hL
    have Ds := (k_SHAPES T).choose_spec.choose_spec
    refine ⟨ga K "SHAPES", _, _, rfl, Ds.at_, Ds.lit, Ds.low, _, rfl, by show 0 ≤ sizeLine; decide, fun t0 ht0 => ?_⟩
    have s3 := s2.trans (same_new (o := .tup []) ht0)
    have gD3 := same_new (o := .tup []) ht0 _ _ gD
    have gt : upd H2 t0 (.tup []) t0 = some (.tup []) := upd_same
    generalize upd H2 t0 (.tup []) = H3 at s3 gD3 gt ⊢
    clear s2 gD ht0
    obtain ⟨sp, hsp, go⟩ : ∃ sp, SqT K H3 sp (sh.map V.str) ∧ ∃ r, PySem.W.nsIn K (ga K "SHAPES") wd = some r ∧ ((r = some (.ref sp)) ∨ (r = none ∧ sp = t0)) := by
      rcases sw with ⟨sp, e1, e2⟩ | ⟨e1, rfl⟩
      · exact ⟨sp, e2 H3, _, e1, .inl rfl⟩
      · exact ⟨t0, SqT.of gt, _, e1, .inr ⟨rfl, rfl⟩⟩
    obtain ⟨r, er, go⟩ := go
    have enter : ∀ {Y : V → Hp → Prop}, Y (.ref sp) H3 → (∃ v u, r = some u ∧ RelV v u ∧ Y v H3) ∨ (r = none ∧ Y (.ref t0) H3) := fun {Y} y => by
      rcases go with rfl | ⟨rfl, rfl⟩
      · exact .inl ⟨.ref sp, .ref sp, rfl, rfl, y⟩
      · exact .inr ⟨rfl, y⟩
    refine ⟨wd, r, rfl, er, enter ?_⟩
    refine ⟨_, rfl, D, _, rfl, .inl (SqL.of gD3), _, rfl, sp, _, rfl, .inr hsp, rfl, _, rfl, ?_⟩
    have lps : (ps.map V.str).length = ps.length := List.length_map _
    have lsh : (sh.map V.str).length = sh.length := List.length_map _
    rw [lps, lsh]
    by_cases hl : ps.length = sh.length
    · refine if_f (by rw [hl]; simp) ?_
      refine ⟨_, rfl, _, rfl, _, rfl, sp, D, _, _, rfl, hsp, SqL.of gD3, fun L2 hL2 => ?_⟩
      have nD2 : D ≠ L2 := ne_of_none gD3 hL2
      have zl : (List.zipWith partV sh ps).length = sh.length := by rw [List.length_zipWith]; omega
      refine lc_it (walk_mix (xs := sh.map V.str) (ys := ps.map V.str) (by rw [lsh, lps, hl])) (fun i H' => Same H3 H' ∧ H' L2 = some (.lst ((List.zipWith partV sh ps).take i))) ⟨same_new hL2, upd_same⟩ (fun i H' _ h => ⟨Same.sqT h.1 hsp, SqL.of (h.1 _ _ gD3)⟩) ?_ ?_
      · rintro i v H4 H5 hi ⟨s4, g4⟩ ⟨X0, a0, b0, rfl, hX, rfl, ha, hb⟩
        have ha' : (sh.map V.str)[i]? = some a0 := ha
        have hb' : (ps.map V.str)[i]? = some b0 := hb
        rw [List.getElem?_map] at ha' hb'
        obtain ⟨sa, hsa, rfl⟩ := Option.map_eq_some_iff.mp ha'
        obtain ⟨pb, hpb, rfl⟩ := Option.map_eq_some_iff.mp hb'
        have s5 : Same H3 (upd H4 X0 (.tup [.str sa, .str pb])) := s4.trans (same_new hX)
        have nLX : L2 ≠ X0 := ne_of_none g4 hX
        refine ⟨X0, _, rfl, SqT.of upd_same, rfl, _, _, rfl, _, _, rfl, rfl, rfl, ?_⟩
        refine ⟨_, _, _, _, g_part_of T, ok_part_of T, by decide, _, rfl, _, rfl, sa, pb, rfl, fun H6 s6 => ?_⟩
        refine ⟨_, s6 _ _ (by rw [upd_ne nLX]; exact g4), szl (by rw [List.length_take]; rw [lsh] at hi; omega), same_mut (s5.trans s6) hL2, ?_⟩
        rw [upd_same, WB.take_snoc (by rw [List.getElem?_zipWith, hsa, hpb])]
      · rintro H4 ⟨s4, g4⟩
        rw [lsh, ← zl, List.take_length] at g4
        have kk : rowV sh (wd :: ps) = .str wd :: List.zipWith partV sh ps := by
          show V.str wd :: (if ps.length = sh.length then _ else _) = _
          rw [if_pos hl]
        have s34 := s3.trans s4
        refine ⟨L2, _, rfl, .inr (SqL.of g4), ?_, fun q hq => ?_⟩
        · rw [List.append_nil, List.length_cons, zl]
          exact szl (by omega)
        · exact k q _ (s34.trans (same_new hq)) (s34.free hq) (by rw [kk, upd_same, List.append_nil])
    · refine if_t (by simp; omega) ?_
      have kk : rowV sh (wd :: ps) = .str wd :: ps.map V.str := by
        show V.str wd :: (if ps.length = sh.length then _ else _) = _
        rw [if_neg hl]
      refine ⟨_, rfl, _, rfl, D, _, rfl, .inr (SqL.of gD3), ?_, fun q hq => ?_⟩
      · rw [List.append_nil, List.length_cons, List.length_map]
        exact szl (by omega)
      · exact k q _ (s3.trans (same_new hq)) (s3.free hq) (by rw [kk, upd_same, List.append_nil])
end
end WK
namespace WK
open PySem PySem.Spec PyProof.Rows L2 He WB PySem.W
section
variable {P : Program} {w : World} {K : PySem.W.Frag} {mg : Str → Option Value} {base : Heap}
theorem okT_no : okT (toldT noT) = true := by
  show PyData.strOk "no" = true
  decide +kernel
theorem Ok.at_v {S : Sta} {j : Nat} {k : Key} (o : WB.Ok S) (hj : j < S.made) : VOk S.made ((S.th j).body.at k) := by
  rcases at_vals (b := (S.th j).body) (k := k) with h | h
  · exact o.bv j hj _ h
  · rw [h]; exact trivial
theorem step_okT {S : Sta} {d : Deed} (o : WB.Ok S) : okT (toldT (stepF S d).2.1) = true := by
  have rf : ∀ k : Nat, okT (toldT (.val (.ref k))) = true := fun k => okT_v (m := k + 1) (v := .ref k) (Nat.lt_succ_self k)
  have nn : okT (toldT (.val .non)) = true := rfl
  have lk : ∀ x, okT (toldT (.val (S.look x))) = true := fun x => okT_v (o.look_ok x)
  cases d with
  | make x k => exact rf _
  | num x n => exact nn
  | copy x y => exact nn
  | drop x => exact nn
  | settle => exact okT_no
  | say x => exact lk x
  | put x k y => simp only [stepF]; split <;> (try split) <;> first | exact nn | exact okT_no
  | take x y k =>
    simp only [stepF]
    split
    · rename_i j e
      have hj : j < S.made := by have := o.look_ok y; rw [e] at this; exact this
      split
      · exact okT_v (Ok.at_v o hj)
      · exact okT_no
    · exact okT_no
  | cut x k => simp only [stepF]; split <;> (try split) <;> first | exact nn | exact okT_no
  | watch x y => simp only [stepF]; split <;> first | exact rf _ | exact okT_no
  | last x g => simp only [stepF]; split <;> (try split) <;> first | exact nn | exact okT_no
  | ask x y =>
    simp only [stepF]
    split
    · split
      · rename_i s g _
        cases g
        · exact rf _
        · exact nn
      · exact okT_no
    · exact okT_no
theorem told_okT {S S' : Sta} {d : Deed} {t : Told} {c : Chg} (o : WB.Ok S) (h : StepR S d S' t c) : okT (toldT t) = true := by
  cases h with
  | settle _ =>
    show okTs _ = true
    exact okTs_iff.mpr fun x hx => by obtain ⟨k, _, rfl⟩ := List.mem_map.mp hx; rfl
  | other _ => exact step_okT o
theorem Runs.okT {S S1 : Sta} {ds : List Deed} {ts : List Told} (a : Runs S ds ts S1) (o : WB.Ok S) (hd : ∀ d ∈ ds, d.ok) : ∀ t ∈ ts, okT (toldT t) = true := by
  induction a with
  | nil => intro t h; cases h
  | @snoc ds ts S1 S2 d t c r st ih =>
    have hd' : ∀ d ∈ ds, d.ok := fun d h => hd d (List.mem_append_left _ h)
    intro u hu
    rcases List.mem_append.mp hu with hu | hu
    · exact ih hd' u hu
    · rw [List.mem_singleton.mp hu]
      exact told_okT (r.ok o hd').1 st
def argT : V → Tr
  | .int i => .int i
  | .str x => .str x
  | _ => .non
def deedT (d : Deed) : Tr := .tup ((V.str d.word :: d.args).map argT)
theorem rep_args {H : Hp} : ∀ {vs : List V}, (∀ v ∈ vs, v = .non ∨ (∃ i : Int, v = .int i ∧ 0 ≤ i ∧ i ≤ 99) ∨ ∃ x, v = .str x) → Paired (RepN H 1) vs (vs.map argT)
  | [], _ => .nil
  | v :: r, h => by
    refine .cons ?_ (rep_args fun u hu => h u (List.mem_cons_of_mem _ hu))
    rcases h v List.mem_cons_self with rfl | ⟨i, rfl, _⟩ | ⟨x, rfl⟩ <;> exact rfl
theorem rep_deed {H : Hp} {p : Addr} {d : Deed} (h : DeedAt H p d) : RepN H 2 (.ref p) (deedT d) :=
  ⟨p, _, rfl, h.2, by have := args_few d; rw [List.length_map, List.length_cons]; omega, rep_args (args_forms d h.1)⟩
theorem rep_deedsP {H : Hp} : ∀ {ps : List Addr} {ds : List Deed}, Paired (DeedAt H) ps ds → Paired (RepN H 2) (ps.map V.ref) (ds.map deedT)
  | _, _, .nil => .nil
  | _, _, .cons h t => .cons (rep_deed h) (rep_deedsP t)
theorem rep_deeds {H : Hp} {a : Addr} {ps : List Addr} {ds : List Deed} (e : H a = some (.lst (ps.map V.ref))) (hp : Paired (DeedAt H) ps ds) (l : ds.length ≤ 1000) : RepN H 3 (.ref a) (.lst (ds.map deedT)) :=
  ⟨a, _, rfl, e, by rw [List.length_map]; exact l, rep_deedsP hp⟩
/-- the rows of a text -/
def rowsT (x : Str) : List Str := if x.length = 0 then [] else Txt.split x "\n"
/-- each row of the text tells a deed -/
def TellsP (x : Str) (ds : List Deed) : Prop := Paired (fun r (d : Deed) => d.ok ∧ r.length + 2 ≤ sizeLine ∧ Txt.split r " " = (V.str d.word :: d.args).map textV) (rowsT x) ds
theorem tells_prog {ds : List Deed} (hd : ∀ d ∈ ds, d.ok) (ne : ds ≠ []) : TellsP (progS ds) ds := by
  unfold TellsP rowsT
  rw [if_neg (prog_pos hd ne), prog_split hd ne]
  clear ne
  induction ds with
  | nil => exact .nil
  | cons d r ih =>
    have h1 := hd d List.mem_cons_self
    refine .cons ⟨h1, ?_, row_split d h1⟩ (ih fun x hx => hd x (List.mem_cons_of_mem _ hx))
    have := (row_facts d h1).1
    exact Nat.le_trans (show _ ≤ 30 by omega) (by decide)
theorem asgRE {te : TE} {g : TG} {u : TS} {D : Ends} {σ : L2.St} {H : Hp} (Z : V → Hp → Prop) (h1 : ∀ Y : V → Hp → Prop, (∀ v H1, Z v H1 → Y v H1) → te σ H Y) (h2 : ∀ v H1, Z v H1 → g v σ H1 (u D)) : tSeq (tAsg te g) u D σ H := h1 _ h2
def spRead : Sp := fun vs H Q _ => ∃ (x : Str) (ds : List Deed), vs = [.str x] ∧ x.length + 2 ≤ sizeLine ∧ TellsP x ds ∧ ds.length ≤ 120 ∧ ∀ r ps H', Same H H' → H r = none → H' r = some (.lst (ps.map V.ref)) → Paired (DeedAt H') ps ds → Q (.ref r) H'
theorem ok_read (T : Tx w K mg) : DefOk ⟨P, w, K, mg, base⟩ 5 (ga K "read") ["text"] spRead := by
  refine DefOk.mk' (f_read T) sc_read (fun _ _ _ _ _ _ us hl => match us, hl with | [_], _ => rfl) (fun vs H Q E h => ?_) (fun cdv A outer s H vs Q E hr h => ?_)
  · obtain ⟨x, ds, rfl, _⟩ := h
    rfl
  · obtain ⟨x, ds, rfl, lx, tp, ld, k⟩ := h
    have hu := hu_of hr
    refine ⟨_, (pss_cons (ps_set (i := 1) sc_read.nd rfl (Or.inl rfl) (pe_ifExp (pt_truth (pv 0) (by intro _; rfl)) (pe_split (pv 0) pe_str) (pe_lst pa_nil))) (pss_cons (ps_setLc (i := 3) (own := [("row", 2)]) (g := (gName 2)) rfl sc_read.nd rfl rfl (sw_true rfl rfl rfl (by decide +kernel)) (pi_list (pv 1)) (blkOk_by (own := [("row", 2)]) (N := ["text", "rows", "row", "program", "found"]) (sc := defScope s_read) (by decide +kernel)) (fun _ _ _ _ _ => (pg_name (i := 2) sc_read.nd rfl (Or.inl rfl))) (fun _ _ _ _ _ => by exact pts_nil) (fun _ _ _ _ _ => by exact (pe_cg (M := ⟨P, w, K, mg, base⟩) rfl hr rfl (pa_cons (pv 2) pa_nil)))) (pss_cons (ps_try_thru0 (pss_one (ps_expr (pe_cg (M := ⟨P, w, K, mg, base⟩) rfl hr rfl (pa_cons (pv 3) pa_nil))))) (pss_one (ps_ret (pv 3)))))), ?_⟩
    have lr := Paired.length tp
    refine asgRE (fun v H' => ∃ R, v = .ref R ∧ Same H H' ∧ H' R = some (.lst ((rowsT x).map V.str))) (fun Y kY => ?_) ?_
    · refine ⟨_, rfl, _, ⟨by omega, rfl⟩, ?_⟩
      by_cases z : x.length = 0
      · refine if_f (by simp [z]) ⟨by show 0 ≤ sizeLine; decide, fun R hR => kY _ _ ⟨R, rfl, same_new hR, by rw [upd_same]; unfold rowsT; rw [if_pos z]; rfl⟩⟩
      · refine if_t (by simpa using z) ⟨_, rfl, ⟨_, rfl⟩, x, "\n", rfl, rfl, by decide, lx, fun R hR => kY _ _ ⟨R, rfl, same_new hR, by rw [upd_same]; unfold rowsT; rw [if_neg z]⟩⟩
    rintro v H1 ⟨R, rfl, s1, gR⟩
    refine ⟨_, rfl, R, rfl, ⟨_, SqL.of gR⟩, fun D hD => ?_⟩
    refine lc_list (K := K) (a := R) (xs := (rowsT x).map V.str) (fun i H' => Same H1 H' ∧ ∃ ps : List Addr, H' D = some (.lst (ps.map V.ref)) ∧ Paired (DeedAt H') ps (ds.take i)) ⟨same_new hD, [], upd_same, .nil⟩ (fun i H' _ h => SqL.of (h.1 _ _ gR)) ?_ ?_
    · rintro i v H2 hi ⟨s2, ps, g2, p2⟩
      rw [List.getElem?_map] at hi
      obtain ⟨rw', hri, rfl⟩ := Option.map_eq_some_iff.mp hi
      obtain ⟨d, hdi, hd, lrw, spl⟩ : ∃ d, ds[i]? = some d ∧ d.ok ∧ rw'.length + 2 ≤ sizeLine ∧ Txt.split rw' " " = (V.str d.word :: d.args).map textV := by
        rcases Paired.at i tp with ⟨z, _⟩ | ⟨u, v, z1, z2, z3⟩
        · rw [hri] at z; cases z
        · rw [hri] at z1; cases z1; exact ⟨v, z2, z3⟩
      have il := (List.getElem?_eq_some_iff.mp hdi).1
      have lp := Paired.length p2
      rw [List.length_take] at lp
      have la := args_few d
      have wl := Paired.length (words_ok d hd)
      refine ⟨rfl, _, _, _, _, g_deed_of T, ok_deed_of T, by decide, _, rfl, rw', d.word, d.args.map textV, shapesOf d, rfl, lrw, spl, by rw [List.length_map]; omega, by omega, shW_of T d, fun q H3 s3 nq gq => ?_⟩
      have gq : H3 q = some (.tup (.str d.word :: d.args)) := by rw [gq]; exact congrArg (fun z => some (HO.tup z)) (row_back d hd)
      have s4 : Same H3 (upd H3 D (.lst (ps.map V.ref ++ [V.ref q]))) ∨ True := .inr trivial
      have s5 : Same H1 (upd H3 D (.lst (ps.map V.ref ++ [V.ref q]))) := same_mut (s2.trans s3) hD
      have g3 := s3 _ _ g2
      have tpD : Tup H3 (upd H3 D (.lst (ps.map V.ref ++ [V.ref q]))) := tup_upd (by rw [g3]; intro xs z; cases z; rfl)
      refine ⟨_, g3, szl (by rw [List.length_map]; omega), s5, ps ++ [q], by rw [upd_same, List.map_append]; rfl, ?_⟩
      rw [WB.take_snoc hdi]
      exact Paired.app (Paired.imp (fun _ _ z => (z.same s3).tup tpD) p2) (.cons ⟨hd, tpD _ _ gq⟩ .nil)
    · rintro H2 ⟨s2, ps, g2, p2⟩
      rw [List.length_map, lr, List.take_length] at p2
      have lp := Paired.length p2
      refine ⟨_, _, _, _, g_check_program T, ok_check_program T, by decide, _, rfl, D, ps, ds, rfl, SqL.of g2, p2, by omega, fun H3 s3 => ?_⟩
      have s13 := s2.trans s3
      exact ⟨_, rfl, k D ps H3 (s1.trans s13) (s1.free hD) (s3 _ _ g2) (Paired.imp (fun _ _ z => z.same s3) p2)⟩
def spLText (K : PySem.W.Frag) : Sp := fun vs H Q _ => ∃ (l : Addr) (ps : List Addr) (ds : List Deed), vs = [.ref l] ∧ SqL K H l (ps.map V.ref) ∧ Paired (DeedAt H) ps ds ∧ ps.length ≤ 120 ∧ ∀ H', Same H H' → Q (.str (progS ds)) H'
theorem ok__law_text (T : Tx w K mg) : DefOk ⟨P, w, K, mg, base⟩ 2 (ga K "_law_text") ["_law_program_here"] (spLText K) := by
  refine DefOk.mk' (f__law_text T) sc__law_text (fun _ _ _ _ _ _ us hl => match us, hl with | [_], _ => rfl) (fun vs H Q E h => ?_) (fun cdv A outer s H vs Q E hr h => ?_)
  · obtain ⟨l, ps, ds, rfl, _⟩ := h
    rfl
  · obtain ⟨l, ps, ds, rfl, hl, hp, l1, k⟩ := h
    have hu := hu_of hr
    refine ⟨_, (pss_cons (ps_set (i := 1) sc__law_text.nd rfl (Or.inl rfl) (pe_lst pa_nil)) (pss_cons (ps_for PassesOwn.never rfl (pi_list (pv 0)) (pg_name (i := 2) sc__law_text.nd rfl (Or.inl rfl)) (pss_one (ps_expr (pe_bm PySem.F.plainAttrs_list PySem.F.slot_list_append PySem.F.type_list_append mt_append (pv 1) (pa_cons (pe_join pe_str (pe_lc (own := [("_law_part_here", 3)]) (g := (gName 3)) rfl sc__law_text.nd (pi_tup (pv 2)) (blkOk_by (own := [("_law_part_here", 3)]) (N := ["_law_program_here", "_law_rows", "_law_deed_here", "_law_part_here"]) (sc := defScope s__law_text) (by decide +kernel)) (fun _ _ _ _ _ => (pg_name (i := 3) sc__law_text.nd rfl (Or.inl rfl))) (fun _ _ _ _ _ => by exact pts_nil) (fun _ _ _ _ _ => by exact (pe_ifExp (pt_cmpR op_isN (pv 3) pe_non (nomark _)) pe_str (pe_or2 (pe_callTy call_str_int (by rfl) (z_str T) (by decide +kernel) (pa_cons (pv 3) pa_nil)) (pe_callTy SkE.call_str_str (by rfl) (z_str T) (by decide +kernel) (pa_cons (pv 3) pa_nil))))))) pa_nil))))) (pss_one (ps_ret (pe_join pe_str (pv 1)))))), ?_⟩
    have ld := Paired.length hp
    have dok : ∀ d ∈ ds, d.ok := fun d hd => by
      obtain ⟨x, _, y⟩ := pair_right hp hd
      exact y.1
    refine ⟨by show 0 ≤ sizeLine; decide, fun R hR => ?_⟩
    refine ⟨_, rfl, l, rfl, ⟨_, (same_new (o := .lst []) hR).seq hl⟩, ?_⟩
    refine for_list (K := K) (a := l) (xs := ps.map V.ref) (fun i σ H' => ∃ (x2 x3 : Option V), σ = [some (.ref l), some (.ref R), x2, x3] ∧ Same H H' ∧ H' R = some (.lst (((ds.take i).map rowS).map V.str))) ⟨_, _, rfl, same_new hR, upd_same⟩ (fun i σ H' _ ⟨_, _, _, s, _⟩ => s.seq hl) ?_ ?_
    · rintro i y σ H1 hi ⟨x2, x3, rfl, s1, g1⟩
      rw [List.getElem?_map] at hi
      obtain ⟨p, hpi, rfl⟩ := Option.map_eq_some_iff.mp hi
      obtain ⟨d, hdi, hd, hp1⟩ : ∃ d, ds[i]? = some d ∧ d.ok ∧ H1 p = some (.tup (.str d.word :: d.args)) := by
        rcases Paired.at i hp with ⟨z, _⟩ | ⟨u, v, z1, z2, z3⟩
        · rw [hpi] at z; cases z
        · rw [hpi] at z1; cases z1; exact ⟨v, z2, z3.1, s1 _ _ z3.2⟩
      have il := (List.getElem?_eq_some_iff.mp hpi).1
      have af := args_forms d hd
      have la := args_few d
      have wl : ∀ y ∈ (V.str d.word :: d.args).map textV, y.length ≤ 6 := fun y hy => by
        obtain ⟨v, hv, rfl⟩ := List.mem_map.mp hy
        exact (wordB_of (word_args d hd v hv)).1
      refine ⟨_, rfl, .inl ⟨rfl, _, SqL.of g1⟩, ⟨_, rfl⟩, ?_⟩
      refine ⟨_, rfl, p, rfl, ⟨_, SqT.of hp1⟩, fun D hD => ?_⟩
      have nRD : R ≠ D := ne_of_none g1 hD
      refine lc_tup (K := K) (a := p) (xs := V.str d.word :: d.args) (fun i H' => Same H1 H' ∧ H' D = some (.lst ((((V.str d.word :: d.args).take i).map textV).map V.str))) ⟨same_new hD, upd_same⟩ (fun i H' _ h => SqT.of (h.1 _ _ hp1)) ?_ ?_
      · rintro j x H2 hj ⟨s2, g2⟩
        have hx := List.mem_of_getElem? hj
        have sn : ((((V.str d.word :: d.args).take j).map textV).map V.str) ++ [V.str (textV x)] = (((V.str d.word :: d.args).take (j + 1)).map textV).map V.str := by rw [WB.take_snoc hj, List.map_append, List.map_append]; rfl
        have fin : Same H1 (upd H2 D (.lst (((((V.str d.word :: d.args).take j).map textV).map V.str) ++ [V.str (textV x)]))) ∧ (upd H2 D (.lst (((((V.str d.word :: d.args).take j).map textV).map V.str) ++ [V.str (textV x)]))) D = some (.lst ((((V.str d.word :: d.args).take (j + 1)).map textV).map V.str)) := ⟨same_mut s2 hD, by rw [upd_same, sn]⟩
        have sz : ((((V.str d.word :: d.args).take j).map textV).map V.str).length < sizeLine := szl (by rw [List.length_map, List.length_map, List.length_take, List.length_cons]; omega)
        refine ⟨rfl, ?_⟩
        rcases af x hx with rfl | ⟨j, rfl, h0, h1⟩ | ⟨z, rfl⟩
        · exact ⟨_, rfl, rfl, _, rfl, if_t rfl ⟨_, g2, sz, fin⟩⟩
        · exact ⟨_, rfl, rfl, _, rfl, if_f rfl (.inl ⟨_, rfl, j, rfl, log_small h0 h1, _, g2, sz, fin⟩)⟩
        · exact ⟨_, rfl, rfl, _, rfl, if_f rfl (.inr ⟨_, rfl, z, rfl, _, g2, sz, fin⟩)⟩
      · rintro H2 ⟨s2, g2⟩
        rw [List.take_length] at g2
        have z1 := sum_len wl
        have z2 : ((V.str d.word :: d.args).map textV).length ≤ 4 := by rw [List.length_map, List.length_cons]; omega
        have e1 : ((" " : Str)).length = 1 := rfl
        refine ⟨_, D, _, rfl, rfl, .inl (SqL.of g2), by rw [e1]; omega, ?_⟩
        have s12 := s1.trans s2
        refine ⟨R, _, _, rfl, rfl, s2 _ _ g1, szl (by rw [List.length_map, List.length_map, List.length_take]; omega), _, _, rfl, same_mut s12 hR, ?_⟩
        rw [upd_same, WB.take_snoc hdi, List.map_append, List.map_append]; rfl
    · rintro σ H1 ⟨x2, x3, rfl, s1, g1⟩
      rw [List.length_map, ld, List.take_length] at g1
      refine ⟨⟨_, rfl⟩, _, rfl, _, R, _, rfl, rfl, .inl (SqL.of g1), ?_, k _ s1⟩
      have := sum_len (b := 28) (ps := ds.map rowS) fun y hy => by
        obtain ⟨d, hd, rfl⟩ := List.mem_map.mp hy
        exact (row_facts d (dok d hd)).1
      have e1 : (("\n" : Str)).length = 1 := rfl
      rw [List.length_map] at *
      rw [e1]
      omega
end
end WK
/-! Defs that may raise; what follows a raise. -/
namespace WB
open PySem PySem.Spec PyProof.Rows L2 He
/-- the def at f: an exception may leave it, as its promise's fourth letter says -/
structure DefOkX (M : C5) (k : Nat) (f : Addr) (ps : List Str) (sp : Sp) : Prop where
  ex : ∃ fd, FnOk M.P M.w M.K M.mg M.base (L2.CX M.P M.w) k f fd ps sp ∧ Binds M.K fd ps []
  kp : PySem.W.keepIn M.K (.ref f) = true
theorem DefOkX.mk' {P : Program} {w : World} {K : PySem.W.Frag} {mg : Str → Option Value} {base : Heap} {x qual : Str} {pa : Arguments} {body : List Stmt} {sc : Scope} {f : Addr} {N ps : List Str} {k : Nat} {sp : Sp}
    (F : ∃ fd, FunD K x qual pa body sc [] [] f fd) (S : FnScope N ps sc)
    (hb : ∀ (kV doc pm : Value) (an : Option Addr) (cdv ct : Value) (us : List Value), us.length = ps.length → bindArgs (PySem.W.fnOf x qual pa body sc .none kV doc pm an cdv ct) ⟨us, []⟩ = pure (ps.zip us))
    (len : ∀ vs H Q E, sp vs H Q E → vs.length = ps.length)
    (hbody : ∀ (cdv : Value) (A : Around) (outer : List Env) (s : Shared) (H : Hp) (vs : List V) (Q : VK) (E : XK), Room k (A.deeper (envOfC qual sc s.heap.objs.size f cdv)) → sp vs H Q E →
      ∃ t, PSs (cxOf (L2.CX P w) P w K mg base N qual sc f cdv A outer s H E) body t ∧ t { nx := fun _ H' => Q .non H', rt := Q } (start N vs) H) : DefOkX ⟨P, w, K, mg, base⟩ (k + 1) f ps sp := by
  obtain ⟨fd, F⟩ := F
  exact ⟨⟨fd, F.ok S len fun cdv A outer s H vs Q E hr h => hbody cdv A outer s H vs Q E hr h, F.bindsN hb⟩, F.kp⟩
/-- a reading behind a condition of plain words -/
theorem pss_guard {X : Cx} {ss : List Stmt} {C : Prop} {t : TS} (h : C → PSs X ss t) : PSs X ss (fun D σ H => C ∧ t D σ H) := ⟨fun pins s σ H D I q => (h q.1).run pins s σ H D I q.2⟩
section
variable {X : Cx} {M : C5} {k0 : Nat} {x m : Str} {p pos apos : Pos} {e o : Expr} {es : List Expr} {ta : TE} {t : TA} {W : WX}
/-- f(..), which may raise -/
def tCGX (M : C5) (k0 : Nat) (x : Str) (W : WX) (t : TA) : TE := fun σ H Q => ∃ (f : Addr) (ps : List Str) (sp : Sp) (k : Nat), M.mg x = some (.ref f) ∧ DefOkX M k f ps sp ∧ k ≤ k0 ∧ t σ H fun vs H1 => sp vs H1 Q (WE W σ)
theorem pe_cgX (hM : five X = M) (hr : Room k0 X.A) (tk : L2.Takes X W) (hg : Gl X x) (ha : PA X (e :: es) t) (hdb : (x == ("__debug__" : Str)) = false := by decide) (he : starEach (e :: es) X.env = (false, eval e X.env) :: starEach es X.env := by rfl) (hpl : (backTo pos (starEach es X.env)).any (·.1) = false := by rfl) :
    PE X (.Call (.Name x p) (e :: es) [] pos) (tCGX M k0 x W t) := by
  subst hM
  refine ⟨fun pins s σ H Q I ⟨f, ps, sp, k, hm, D, hk, h⟩ => ?_⟩
  obtain ⟨fd, F, b⟩ := D.ex
  exact (pe_callS F (hr.mono hk) hg hm D.kp b (fun σ => passAt tk σ) ha hdb he hpl).run pins s σ H Q I h
/-- o.m(..), which may raise -/
def tMDX (M : C5) (k0 : Nat) (m : Str) (W : WX) (ta : TE) (t : TA) : TE := fun σ H Q => ta σ H fun x H1 => ∃ (a C dx : Addr) (fs : List (Str × V)) (f : Addr) (ps : List Str) (sp : Sp) (k : Nat), x = .ref a ∧ H1 a = some (.ins C dx fs) ∧ fs.lookup m = none ∧
  Cls M.K C ∧ Meth M.K C m f ∧ DefOkX M k f ps sp ∧ k ≤ k0 ∧ t σ H1 fun vs H2 => sp (x :: vs) H2 Q (WE W σ)
theorem pe_mdX {pl : Sem Bool} (hM : five X = M) (hr : Room k0 X.A) (tk : L2.Takes X W) (he : PE X o ta) (ha : PA X (e :: es) t)
    (hst : starEach (e :: es) X.env = (false, eval e X.env) :: starEach es X.env := by rfl) (hpl : (backTo pos (starEach es X.env)).any (·.1) = false := by rfl)
    (ht : eval (.Call (.Attribute o m apos) (e :: es) [] pos) X.env = (do
      let ov ← eval o X.env
      standAt apos.atName
      let (f, first) ← holding [ov] (getMethod ov m pl)
      callWith pos f first (backTo pos (starEach (e :: es) X.env)) (backToKw pos (keywordEach [] X.env))) := by rfl) :
    PE X (.Call (.Attribute o m apos) (e :: es) [] pos) (tMDX M k0 m W ta t) := by
  subst hM
  refine ⟨fun pins s σ H Q I h => ?_⟩
  refine PySem.W.methodCall_KW (pl := pl) (thn (he.run pins s σ H _ I h) fun u s1 ⟨x, H1, I1, rx, a, C, dx, fs, f, ps, sp, k, ex, ea, l, c, hm, D, hk, q⟩ => ?_) ht
  subst ex
  obtain rfl : u = Value.ref a := rx
  obtain ⟨fd, F, b⟩ := D.ex
  refine getmeth_ok I1 ea c hm l ?_
  refine PySem.W.callWith_K (first := [.ref a]) (h₀ := X.base) I.ok.mod.kin hm.kp (thn (ha.run pos pins s1 σ H1 _ I1 q) fun us s2 ⟨vs, H2, I2, r, q2⟩ => ⟨I2.kIn, ?_⟩) hst hpl
  exact run_fnS (us := .ref a :: us) (vs := .ref a :: vs) F (hr.mono hk) b (passAt tk σ) I2 (.cons rfl r) q2
end
end WB
/-! Errors that have a dict: isinstance, and the __init__ of their base by its class. -/
namespace WB
open PySem PySem.Spec PySem.Calls PyProof.Rows PySem.W L2 He
theorem ofStr_inj {s t : String} (h : Str.ofString s = Str.ofString t) : s = t := by
  rw [PySem.Str.ofString_eq_toList, PySem.Str.ofString_eq_toList] at h
  have h1 : (s.toList.map Char.toNat).toArray = (t.toList.map Char.toNat).toArray := congrArg Str.cps h
  have h2 : s.toList.map Char.toNat = t.toList.map Char.toNat := by have := congrArg Array.toList h1; simpa using this
  have inj : ∀ a b : Char, a.toNat = b.toNat → a = b := fun a b e => Char.ext (UInt32.toNat_inj.mp e)
  have h3 : ∀ l m : List Char, l.map Char.toNat = m.map Char.toNat → l = m := by
    intro l
    induction l with
    | nil => intro m e; cases m with
      | nil => rfl
      | cons => cases e
    | cons x l ih => intro m e; cases m with
      | nil => cases e
      | cons y m =>
        rw [List.map_cons, List.map_cons] at e
        injection e with e1 e2
        rw [inj x y e1, ih m e2]
  exact String.toList_inj.mp (h3 _ _ h2)
/-- isinstance(e, c), e the exception that the suite holds, its dict at d -/
def rIsED (K : PySem.W.Frag) (D a d : Addr) : List V → Hp → VK → Prop := fun xs H Q => ∃ (c : V) (cv : Value) (b : Bool) (fs : List (Str × V)), xs = [.ref a, c] ∧ (∀ u, RelV c u → u = cv) ∧ PySem.W.kitOne K (.ref D) cv = some b ∧ H d = some (.xd fs) ∧ Q (.bl b) H
theorem call_isED {X : Cx} {a D d : Addr} {oe : Obj} {pn : List (Addr × Obj)} (C : ExcC X.K D) (hz : Zc (.ref D) (some d) oe) (hf : ∃ vs, oe.data = .fields vs) : CallR (X.suite a ((a, oe) :: pn)) (.builtin "isinstance") (rIsED X.K D a d) := by
  intro pins s σ H xs us Q I r h
  obtain ⟨c, cv, b, fs, rfl, hcv, e, hx, q⟩ := h
  cases r with
  | cons rx rr =>
    cases rr with
    | cons rt rr =>
      cases rr
      cases rx
      have ec := hcv _ rt
      subst ec
      obtain ⟨hget, _⟩ := I.pin (a, oe) (List.mem_append.mpr (.inl List.mem_cons_self))
      obtain ⟨vs, hv⟩ := hf
      have ox : ObjOk X.prog X.w H s.heap d (.xd fs) := I.hok d _ hx
      obtain ⟨mA, hns, hr⟩ := ox
      obtain ⟨od, ho, hl⟩ := lookIn_ns hns
      have J : PySem.W.InstAt s.heap a oe D (some od) := ⟨hget, hz.1, by unfold PySem.W.notCls; rw [hv] <;> rfl, by rw [hz.2]; exact ho⟩
      obtain ⟨cd, hc, _⟩ := any_some C.hd
      exact PySem.W.kia_one (PySem.W.kitx_exc (by rw [hc]; rfl) C.hg C.hk C.hs C.ha C.hn C.ht C.hm) I.kIn J e (fun z => nomatch z) fun tk => ⟨.bl b, H, I.kept (t' := tk) fun _ _ z => z, rfl, q⟩
section
variable {X : Cx} {e : Expr} {es : List Expr} {ta : TA} {apos pos : Pos}
/-- C.__init__(self, ..), C's own being ValueError's -/
theorem pe_winit {pl : Sem Bool} {c : Str} {q : Pos} (hg : Gl X c) (hm : X.mg c = some (.ref (ga X.K c))) (hx : (Fx.cblt c "__init__" "ValueError.__init__").ok X.K = true) (ha : PA X (e :: es) ta)
    (he : starEach (e :: es) X.env = (false, eval e X.env) :: starEach es X.env := by rfl) (hpl : (backTo pos (starEach es X.env)).any (·.1) = false := by rfl) (hdb : (c == ("__debug__" : Str)) = false := by decide)
    (ht : eval (.Call (.Attribute (.Name c q) "__init__" apos) (e :: es) [] pos) X.env = (do
      let ov ← eval (.Name c q) X.env
      standAt apos.atName
      let (f, first) ← holding [ov] (getMethod ov "__init__" pl)
      callWith pos f first (backTo pos (starEach (e :: es) X.env)) (backToKw pos (keywordEach [] X.env))) := by rfl) :
    PE X (.Call (.Attribute (.Name c q) "__init__" apos) (e :: es) [] pos) (tVeI X.K ta) := by
  refine ⟨fun pins s σ H Q I h => ?_⟩
  obtain ⟨x1, x2⟩ := ba (show (PySem.W.readsIn X.K (ga X.K c) (.type "type") && (eqO (PySem.W.specialIn X.K (.ref (ga X.K c)) "__getattribute__") (some (some (.builtin "type.__getattribute__"))) && (match PySem.W.findCls X.K (.ref (ga X.K c)) (.type "type") "__init__" with
      | some (.val (.builtin n)) => decide ((n : Str) = "ValueError.__init__")
      | _ => false))) = true from hx)
  obtain ⟨x2, x3⟩ := ba x2
  have x4 : PySem.W.findCls X.K (.ref (ga X.K c)) (.type "type") "__init__" = some (.val (.builtin "ValueError.__init__")) := by
    split at x3
    · rename_i n hn
      have en := of_decide_eq_true x3
      rw [hn]
      have : n = "ValueError.__init__" := by
        exact ofStr_inj en
      rw [this]
    · cases x3
  have he0 : PE X (.Name c q) (tC (.ref (ga X.K c))) := pe_glob hg hm rfl (hd := hdb)
  refine PySem.W.methodCall_KW (pl := pl) (thn (he0.run pins s σ H (fun v H' => v = .ref (ga X.K c) ∧ H' = H) I ⟨rfl, rfl⟩) fun u s1 ⟨x, H1, I1, rx, ex, eh⟩ => ?_) ht
  subst ex
  subst eh
  obtain rfl : u = Value.ref (ga X.K c) := rx
  refine PySem.W.method_cls I1.kIn (eqO_ok x2) (PySem.W.cls_value I1.kIn x1 x4 rfl ?_)
  have I2 := I1.tok (s1.toks + 1)
  show wpAny _ _ (callWith pos (Value.builtin "ValueError.__init__") [] (backTo pos (starEach (e :: es) X.env)) []) _ _ _
  refine PyProof.Rows.callWith_method1 (thn (ha.run pos pins _ σ H1 _ I2 h) fun us s2 ⟨vs, H2, I3, r1, a, C, ws, ev, hl, T, ea, q⟩ => ?_) he hpl
  subst ev
  cases r1 with
  | @cons _ u0 _ ur ra rw' =>
    obtain rfl : u0 = Value.ref a := ra
    have hlen : ur.length ≤ sizeLine := by
      rw [← Paired.length rw', sizeLine_eq]
      omega
    exact oinit_ok T I3 ea hlen fun s' J => ⟨.non, H2, J, rfl, q⟩
end
end WB
/-! try: body / except x as n: a suite that raises out of it. -/
namespace WB
open PySem PySem.Spec PySem.Calls PyProof.Rows PySem.W L2 He HotX L2H
/-- the context of a named except suite that may raise; E: what becomes of its exceptions -/
abbrev sufX (X : Cx) (a : Addr) (pn : List (Addr × Obj)) (E : Value → Shared → Prop) : Cx := { X with A := X.A.mark (some (.ref a)), calm := false, pn := pn, xe := E }
section
variable {X : Cx}
theorem pe_nox {e : Expr} {t : TE} (h : PE X.nox e t) : PE X e t :=
  ⟨fun pins s σ H Q I q => wpAny_mono (h.run pins s σ H Q (I.wish _) q) (fun _ _ ⟨x, H1, I1, r⟩ => ⟨x, H1, I1.unwish, r⟩) fun _ _ z => False.elim z⟩
theorem pa_nox {es : List Expr} {t : TA} (h : PA X.nox es t) : PA X es t :=
  ⟨fun pos pins s σ H Q I q => wpAny_mono (h.run pos pins s σ H Q (I.wish _) q) (fun _ _ ⟨x, H1, I1, r⟩ => ⟨x, H1, I1.unwish, r⟩) fun _ _ z => False.elim z⟩
/-- an exception out of the suite: noted, the name goes, on it flies -/
theorem as_exc {W : WX} {n : Str} {i : Nat} {pos : Pos} {a0 : Addr} {o0 : Obj} {pins : List (Addr × Obj)} {N Y : Value → Shared → Prop} {u : Value} {s' : Shared} (hs : X.stack = X.env :: X.outer) (hf : X.env.frame = some X.env.locals) (hex : X.ex = []) (ok : X.Ok)
    (hN : X.N.Nodup) (hi : X.N[i]? = some n) (hl : X.env.kindOf n = some .local) (hNx : ∀ e s, XE X W e s → N e s) (xx : XE (sufX X a0 ((a0, o0) :: (X.pn ++ pins)) Y) (fun cls d σ H => W cls d (σ.set i none) H) u s') :
    AsSuiteRaised (model X.prog X.w) (X.A.mark (some (.ref a0))) X.env n pos N u s' := by
  obtain ⟨a, B, sI, pn2, σ1, H1, cls, d, eu, J', nb, up, sky, na, os, ag, hw⟩ := xx
  subst eu
  have frm : (X.A.mark (some (.ref a0))).frames = some (X.env :: X.outer) := by
    rw [← hs]
    exact J'.ok.frames
  have J : Inv X pins σ1 H1 sI := ⟨ok, J'.os, J'.bare, J'.base, J'.loc, J'.cell, J'.free, J'.freeC, fun p hp => J'.pin p (List.mem_append_left _ (List.mem_cons_of_mem _ hp)), J'.hok, J'.len⟩
  have sk : Sky B (X.env :: X.outer) a (Zc cls d) X.env.locals s'.heap := by
    rw [← hs]
    exact sky
  have held : ∀ h1, HandSPX.HeldZ B (X.env :: X.outer) a (Zc cls d) X.env.locals h1 → s'.heap.UpToSlots h1 →
      wpAny (model X.prog X.w) (X.A.mark (some (.ref a0))) (do bindName X.env n .none; unbindBehindTheSuite X.env n pos) (fun _ s2 => wpAny (model X.prog X.w) (X.A.mark (some (.ref a0))) (passOn "try.except-as" (.ref a) X.env : Sem Flow) (fun _ _ => False) N s2)
        (fun y s2 => wpAny (model X.prog X.w) (X.A.mark (some (.ref a0))) (setFlight (.ref a) none) (fun _ s3 => N y s3) N s2) { s' with heap := h1 } := fun h1 hh up1 => by
    obtain ⟨k1, k2, k3, oe, vs, T, oT, tv, he, hz, hd, hv1, hnT, hTe, hT, hdT, ht3⟩ := id hh
    have J3 : Inv X pins σ1 H1 { s' with heap := h1 } := J.landed nb k1 (up.trans up1) os ag
    have nT : H1 T = none := (J.inGround nb).gone hnT
    have outF : ∀ (b : Addr) (o : Obj) (fv : Array Value), h1.get? b = some o → o.data = .fields fv → b ∉ frs (X.env :: X.outer) := fun b o fv e dd hm => by
      obtain ⟨_, o2, e2, hnf⟩ := k3.mem hm
      rw [Option.some.inj (e2.symm.trans e)] at hnf
      exact hnf _ dd
    have pinOf : ∀ (b : Addr) (o : Obj) (fv : Array Value), h1.get? b = some o → o.data = .fields fv → H1 b = none → h1.get? b = some o ∧ H1 b = none ∧ b ≠ X.env.locals ∧ b ∉ X.fs ∧ ∀ v, o.data ≠ .cell v := fun b o fv e dd nn => by
      have nf := outF b o fv e dd
      refine ⟨e, nn, fun z => nf ?_, fun z => nf ?_, fun v z => ?_⟩
      · rw [z]
        exact List.mem_filterMap.mpr ⟨X.env, List.mem_cons_self, hf⟩
      · obtain ⟨e2, m2, q2⟩ := List.mem_filterMap.mp z
        exact List.mem_filterMap.mpr ⟨e2, List.mem_cons_of_mem _ m2, q2⟩
      · rw [dd] at z
        cases z
    have PA := pinOf a oe vs he hd na
    have PT := pinOf T oT tv hT hdT nT
    have S3 : Inv X ((a, oe) :: (T, oT) :: pins) σ1 H1 { s' with heap := h1 } := ⟨ok, J3.os, J3.bare, J3.base, J3.loc, J3.cell, J3.free, J3.freeC, fun p hp => by
      rcases List.mem_append.mp hp with m | m
      · exact J3.pin p (List.mem_append_left _ m)
      · rcases List.mem_cons.mp m with e | m
        · subst e
          exact PA
        · rcases List.mem_cons.mp m with e | m
          · subst e
            exact PT
          · exact J3.pin p (List.mem_append_right _ m), J3.hok, J3.len⟩
    refine gone_ok S3 hN hi hl fun s6 J6 => ?_
    have L6 : Inv X pins (σ1.set i none) H1 s6 := ⟨ok, J6.os, J6.bare, J6.base, J6.loc, J6.cell, J6.free, J6.freeC, fun p hp => J6.pin p (by
      rcases List.mem_append.mp hp with m | m
      · exact List.mem_append_left _ m
      · exact List.mem_append_right _ (List.mem_cons_of_mem _ (List.mem_cons_of_mem _ m))), J6.hok, J6.len⟩
    obtain ⟨gA, _⟩ := J6.pin (a, oe) (List.mem_append_right _ List.mem_cons_self)
    obtain ⟨gT, _⟩ := J6.pin (T, oT) (List.mem_append_right _ (List.mem_cons_of_mem _ List.mem_cons_self))
    have gA : s6.heap.get? a = some oe := gA
    have gT : s6.heap.get? T = some oT := gT
    have apart : ∀ b o, sI.heap.get? b = some o → b ≠ a ∧ b ≠ T := fun b o e => by
      by_cases hb : b ∈ frs X.stack
      · rw [hs] at hb
        exact ⟨fun z => outF a oe vs he hd (z ▸ hb), fun z => outF T oT tv hT hdT (z ▸ hb)⟩
      · have q := nb b o e hb
        exact ⟨fun z => (by rw [z, k2] at q; cases q), fun z => (by rw [z, hnT] at q; cases q)⟩
    have apart0 : ∀ b o, X.s_0.heap.get? b = some o → b ≠ a ∧ b ≠ T := fun b o e => by
      obtain ⟨o2, q2⟩ := J.base.there b o e (by rw [hex]; exact List.not_mem_nil)
      exact apart b o2 q2
    obtain ⟨G, g1, g2⟩ := restrict s6.heap fun b => !(decide (b = a) || decide (b = T))
    have inG : ∀ b o, G.get? b = some o → s6.heap.get? b = some o ∧ b ≠ a ∧ b ≠ T := fun b o e => by
      by_cases c1 : b = a
      · rw [g2 b (by simp [c1])] at e
        cases e
      · by_cases c2 : b = T
        · rw [g2 b (by simp [c2])] at e
          cases e
        · rw [g1 b (by simp [c1, c2])] at e
          exact ⟨e, c1, c2⟩
    have ofG : ∀ b o, b ≠ a → b ≠ T → s6.heap.get? b = some o → G.get? b = some o := fun b o c1 c2 e => (g1 b (by simp [c1, c2])).trans e
    have I6 : Inv X pins (σ1.set i none) H1 { s6 with heap := G } := L6.less (fun b o e => (inG b o e).1) ofG ⟨oe, vs, gA, hd⟩ ⟨oT, tv, gT, hdT⟩ na nT apart0 fun p hp => apart p.1 p.2 (J.pin p hp).1
    have gone : ∀ b, (b = a ∨ b = T) → (PySem.W.hideAll G (frs X.stack)).get? b = none := fun b hb => by
      cases q : (PySem.W.hideAll G (frs X.stack)).get? b with
      | none => rfl
      | some o =>
        obtain ⟨_, n1, n2⟩ := inG b o (PySem.W.of_hideAll _ q)
        exact (hb.elim n1 n2).elim
    have H6 : HandSPX.HeldZ (PySem.W.hideAll G (frs X.stack)) (X.env :: X.outer) a (Zc cls d) X.env.locals s6.heap := by
      have ff := funFrames_none (B := PySem.W.hideAll G (frs X.stack)) L6.stack fun b hb => PySem.W.hideAll_none _ hb
      rw [hs] at ff
      exact ⟨fun b o e => (inG b o (PySem.W.of_hideAll _ e)).1, gone a (.inl rfl), by rw [hs]; exact ff, oe, vs, T, oT, tv, gA, hz, hd, hv1, gone T (.inr rfl), hTe, gT, hdT, ht3⟩
    unfold PySem.passOn
    refine wpAny_bind (wpAny_field gA hd hv1 ?_)
    rw [if_neg (by simp : ¬ ((Value.ref T == Value.none) = true))]
    have fly : wpAny (model X.prog X.w) (X.A.mark (some (.ref a0))) (setFlight (.ref a) X.env.frame) (fun _ s7 => wpAny (model X.prog X.w) (X.A.mark (some (.ref a0))) (throw (.ref a) : Sem Flow) (fun _ _ => False) N s7) N s6 := by
      rw [hf]
      refine HandSPX.setFlight_onZ H6 fun h7 hh7 up7 => wpAny_throw (hNx _ _ ?_)
      refine ⟨a, PySem.W.hideAll G (frs X.stack), { s6 with heap := G }, pins, _, H1, cls, d, rfl, I6, fun b o e hb => PySem.W.hideAll_get _ e hb, Heap.UpToSlots.trans (Heap.UpToSlots.of_keeps fun b o e => (inG b o e).1) up7, ?_, na, rfl, L6.bare, hw⟩
      refine .inr (.inr ?_)
      rw [hs]
      rw [hs] at hh7
      exact hh7
    first
      | exact wpAny_bind (wpAny_pure (wpAny_bind fly))
      | exact wpAny_bind fly
  show wpAny (model X.prog X.w) (X.A.mark (some (.ref a0))) (noteFrame (.ref a) X.env) _ _ _
  rcases sk with ⟨hB, hn, hl2, oe, vs, he, hz, hd, hv⟩ | fl | hh
  · exact HandSPX.look_newZ Zc.steady frm hl2 hf he hB hn hd hv hz held
  · exact HandSPX.looks_onZ Zc.steady frm hf fl held
  · exact HandSPX.againZ hf hh.2.2.2 (held s'.heap hh (Heap.UpToSlots.refl _))
end
/-- what is wished of an exception that the clause names -/
def wAsT (K : PySem.W.Frag) (c : Value) (i : Nat) (ts : Addr → Value → Option Addr → TS) (D : Ends) : WX := fun cls d σ H => PySem.W.exmOne K cls c = some true ∧ ∀ a, H a = none →
  ts a cls d { nx := fun σ' H' => D.nx (σ'.set i none) H', rt := D.rt, bk := fun σ' H' => D.bk (σ'.set i none) H', ct := fun σ' H' => D.ct (σ'.set i none) H' } (σ.set i (some (.ref a))) H
section
variable {X : Cx} {x n : Str} {c : Value} {i : Nat} {body suite : List Stmt} {b₀ : Stmt} {np pos pos' : Pos} {tb : WX → TS} {ts : Addr → Value → Option Addr → TS} {Wout : WX}
theorem ps_try_asX (hs : X.stack = X.env :: X.outer) (hf : X.env.frame = some X.env.locals) (hex : X.ex = []) (hN : X.N.Nodup) (hi : X.N[i]? = some n) (hln : X.env.kindOf n = some .local) (hc : Names X x c)
    (hpa : ∀ hd : Option Value, PassesOwnAt (model X.prog X.w) (X.A.mark hd) X.A X.env X.xe) (tk : L2.Takes X Wout)
    (hb : ∀ (W : WX) (pn : List (Addr × Obj)) (xe : Value → Shared → Prop), L2N.Takes (X.tr pn xe) W → PassesOwn (model X.prog X.w) X.A X.env xe → PSs (X.tr pn xe) body (tb W))
    (hsu : ∀ (a : Addr) (oe : Obj) (cls : Value) (d : Option Addr) (pn : List (Addr × Obj)) (E : Value → Shared → Prop), L2N.Zn cls d oe → (∃ vs, oe.data = .fields vs) → L2.Takes (sufX X a ((a, oe) :: pn) E) (fun cls d σ H => Wout cls d (σ.set i none) H) → HotC (sufX X a ((a, oe) :: pn) E) →
      PSs (sufX X a ((a, oe) :: pn) E) (b₀ :: suite) (ts a cls d)) :
    PS X (.Try body [.ExceptHandler (some (.Name x np)) (some n) (b₀ :: suite) pos'] [] [] pos) (fun D σ H => tb (wAsT X.K c i ts D) D σ H) := by
  refine ⟨fun pins s σ H D I h => ?_⟩
  have ok := I.ok
  have frm : X.A.frames = some (X.env :: X.outer) := by rw [ok.frames, hs]
  refine wpAny_Try_except ?_
  refine wpAny_mono ((hb (wAsT X.K c i ts D) (X.pn ++ pins) _ (fun u s' xx => ?_) PassesOwn.looking).run [] s σ H D (I.toTry _) h) (fun f s1 hsp => ?_) fun _ _ q => q
  · obtain ⟨a, B, sI, pn2, σ1, H1, cls, d, eu, J', nb, up, sky, na, os, ag, hb1, hyes⟩ := xx
    subst eu
    have J : Inv X pins σ1 H1 sI := J'.ofTry ok
    have sk : Sky B (X.env :: X.outer) a (L2N.Zn cls d) X.env.locals s'.heap := by
      rw [← hs]
      exact sky
    show wpAny (model X.prog X.w) X.A (noteFrame (.ref a) X.env) _ _ _
    refine L2N.Sky.land L2N.Zn.steady frm hf sk fun h3 fl3 up3 => ?_
    have J3 : Inv X pins σ1 H1 { s' with heap := h3 } := J.landed nb fl3.1 (up.trans up3) os ag
    obtain ⟨oe3, vs3, he3, hz3, hd3⟩ := fl3.there
    have nfr : a ∉ frs (X.env :: X.outer) := fun hm => by
      obtain ⟨_, o2, e2, hnf⟩ := fl3.2.2.1.mem hm
      rw [Option.some.inj (e2.symm.trans he3)] at hnf
      exact hnf _ hd3
    have nL : a ≠ X.env.locals := fun z => nfr (by rw [z]; exact List.mem_filterMap.mpr ⟨X.env, List.mem_cons_self, hf⟩)
    have nF : a ∉ X.fs := fun hm => by
      obtain ⟨e2, m2, q2⟩ := List.mem_filterMap.mp hm
      exact nfr (List.mem_filterMap.mpr ⟨e2, List.mem_cons_of_mem _ m2, q2⟩)
    have S3 := J3.suite he3 hd3 na nL nF
    refine wpAny_handleBy_cons (codeAny_handlers_test ?_) fun q => nomatch q
    have LT : PySem.W.Looks (model X.prog X.w) h3 (typeOf (.ref a)) cls := fun A Q E s k q => wpAny_typeOf_ref (k _ _ he3) ((congrArg (fun z => Q z s) hz3.1).mpr q)
    have LM := PySem.W.exm_one (M := model X.prog X.w) (J3.kIn) LT hb1
    have named : ∀ {Q E : Value → Shared → Prop}, Q c { s' with heap := h3 } → wpAny (model X.prog X.w) (X.A.mark (some (.ref a))) (eval (.Name x np) X.env) Q E { s' with heap := h3 } := fun {Q E} q => by
      obtain ⟨hg, hdb, hm | ⟨hm, hv, hnn⟩⟩ := hc
      · exact ld_glob (X := X.suite a ((a, oe3) :: (X.pn ++ pins))) S3 hg hm q hdb
      · exact ld_blt (X := X.suite a ((a, oe3) :: (X.pn ++ pins))) S3 hg hm hv q hnn hdb
    refine named (LM.here ?_)
    refine codeAny_handlers_suite_as ?_
    refine HandSPX.lands_againZ fl3 fun h4 fl4 up4 => ?_
    have J4 : Inv X pins σ1 H1 { s' with heap := h4 } := J.landed nb fl4.1 ((up.trans up3).trans up4) os ag
    obtain ⟨oe4, vs4, he4, hz4, hd4⟩ := fl4.there
    have S4 := (J4.suite he4 hd4 na nL nF).wish (AsSuiteRaised (model X.prog X.w) (X.A.mark (some (.ref a))) X.env n pos' (notedBy (model X.prog X.w) (X.A.mark (some (.ref a))) X.env (cameBackBy (model X.prog X.w) X.A X.env X.xe)))
    have tkS : L2.Takes (sufX X a ((a, oe4) :: (X.pn ++ pins)) (AsSuiteRaised (model X.prog X.w) (X.A.mark (some (.ref a))) X.env n pos' (notedBy (model X.prog X.w) (X.A.mark (some (.ref a))) X.env (cameBackBy (model X.prog X.w) X.A X.env X.xe)))) (fun cls d σ H => Wout cls d (σ.set i none) H) :=
      fun u2 s2 x2 => as_exc hs hf hex ok hN hi hln (fun e s q => hpa (some (.ref a)) e s (tk e s q)) x2
    have hot : HotC (sufX X a ((a, oe4) :: (X.pn ++ pins)) (AsSuiteRaised (model X.prog X.w) (X.A.mark (some (.ref a))) X.env n pos' (notedBy (model X.prog X.w) (X.A.mark (some (.ref a))) X.env (cameBackBy (model X.prog X.w) X.A X.env X.xe)))) :=
      ⟨(a, oe4), ⟨rfl, vs4, hd4, hz4.2.2 vs4 hd4⟩, List.mem_cons_self⟩
    refine store_ok (X := sufX X a ((a, oe4) :: (X.pn ++ pins)) _) (v := .ref a) S4 hN hi (.inl hln) rfl (fun s5 S5 => ?_) (.inr hln)
    refine wpAny_mono ((hsu a oe4 cls d (X.pn ++ pins) _ hz4 ⟨_, hd4⟩ tkS hot).run [] s5 _ H1 _ S5 (hyes a na)) (fun f s6 hsp => ?_) fun _ _ z => z
    have back : ∀ {σ6 : L2.St} {G6 : Hp} {E : Value → Shared → Prop}, Inv (sufX X a ((a, oe4) :: (X.pn ++ pins)) E) [] σ6 G6 s6 → Inv X pins σ6 G6 s6 := fun S6 => ⟨ok, S6.os, S6.bare, S6.base, S6.loc, S6.cell, S6.free, S6.freeC, fun p hp => S6.pin p (List.mem_append_left _ (List.mem_cons_of_mem _ hp)), S6.hok, S6.len⟩
    cases f with
    | next =>
      obtain ⟨σ6, G6, S6, q6⟩ := hsp
      exact gone_ok (back S6) hN hi hln fun s7 J7 => ⟨_, _, J7, q6⟩
    | brk =>
      obtain ⟨σ6, G6, S6, q6⟩ := hsp
      exact gone_ok (back S6) hN hi hln fun s7 J7 => ⟨_, _, J7, q6⟩
    | cont =>
      obtain ⟨σ6, G6, S6, q6⟩ := hsp
      exact gone_ok (back S6) hN hi hln fun s7 J7 => ⟨_, _, J7, q6⟩
    | ret u =>
      obtain ⟨v6, σ6, G6, S6, r6, q6⟩ := hsp
      exact gone_ok (back S6) hN hi hln fun s7 J7 => ⟨_, _, _, J7, r6, q6⟩
  · have off : ∀ {σ6 : L2.St} {G6 : Hp} {xe : Value → Shared → Prop}, Inv (X.tr (X.pn ++ pins) xe) [] σ6 G6 s1 → Inv X pins σ6 G6 s1 := fun Z => Z.ofTry ok
    cases f with
    | next =>
      obtain ⟨σ6, G6, Z, q⟩ := hsp
      exact wpAny_execs_nil ⟨σ6, G6, off Z, q⟩
    | brk =>
      obtain ⟨σ6, G6, Z, q⟩ := hsp
      exact ⟨σ6, G6, off Z, q⟩
    | cont =>
      obtain ⟨σ6, G6, Z, q⟩ := hsp
      exact ⟨σ6, G6, off Z, q⟩
    | ret u =>
      obtain ⟨v, σ6, G6, Z, r, q⟩ := hsp
      exact ⟨v, σ6, G6, off Z, r, q⟩
end
end WB
/-! Errors without a context: defs that let them out, their making, calls; defs and makings in an except suite. -/
namespace WB
open PySem PySem.Spec PySem.Calls PyProof.Rows PySem.W L2 He HotX L2H
/-- the def at f: an exception without a context may leave it -/
structure DefOkN (M : C5) (k : Nat) (f : Addr) (ps : List Str) (sp : Sp) : Prop where
  ex : ∃ fd, FnOk M.P M.w M.K M.mg M.base (L2N.CX M.P M.w) k f fd ps sp ∧ Binds M.K fd ps []
  kp : PySem.W.keepIn M.K (.ref f) = true
theorem DefOkN.mk' {P : Program} {w : World} {K : PySem.W.Frag} {mg : Str → Option Value} {base : Heap} {x qual : Str} {pa : Arguments} {body : List Stmt} {sc : Scope} {f : Addr} {N ps : List Str} {k : Nat} {sp : Sp}
    (F : ∃ fd, FunD K x qual pa body sc [] [] f fd) (S : FnScope N ps sc)
    (hb : ∀ (kV doc pm : Value) (an : Option Addr) (cdv ct : Value) (us : List Value), us.length = ps.length → bindArgs (PySem.W.fnOf x qual pa body sc .none kV doc pm an cdv ct) ⟨us, []⟩ = pure (ps.zip us))
    (len : ∀ vs H Q E, sp vs H Q E → vs.length = ps.length)
    (hbody : ∀ (cdv : Value) (A : Around) (outer : List Env) (s : Shared) (H : Hp) (vs : List V) (Q : VK) (E : XK), Room k (A.deeper (envOfC qual sc s.heap.objs.size f cdv)) → sp vs H Q E →
      ∃ t, PSs (cxOf (L2N.CX P w) P w K mg base N qual sc f cdv A outer s H E) body t ∧ t { nx := fun _ H' => Q .non H', rt := Q } (start N vs) H) : DefOkN ⟨P, w, K, mg, base⟩ (k + 1) f ps sp := by
  obtain ⟨fd, F⟩ := F
  exact ⟨⟨fd, F.ok S len fun cdv A outer s H vs Q E hr h => hbody cdv A outer s H vs Q E hr h, F.bindsN hb⟩, F.kp⟩
/-- the def at f, called in an except suite -/
structure DefOkH (M : C5) (k : Nat) (f : Addr) (ps : List Str) (sp : Sp) : Prop where
  ex : ∃ fd, FnH M.P M.w M.K M.mg M.base CX0 k f fd ps sp ∧ Binds M.K fd ps []
  kp : PySem.W.keepIn M.K (.ref f) = true
theorem DefOkH.mk' {P : Program} {w : World} {K : PySem.W.Frag} {mg : Str → Option Value} {base : Heap} {x qual : Str} {pa : Arguments} {body : List Stmt} {sc : Scope} {f : Addr} {N ps : List Str} {k : Nat} {sp : Sp}
    (F : ∃ fd, FunD K x qual pa body sc [] [] f fd) (S : FnScope N ps sc)
    (hb : ∀ (kV doc pm : Value) (an : Option Addr) (cdv ct : Value) (us : List Value), us.length = ps.length → bindArgs (PySem.W.fnOf x qual pa body sc .none kV doc pm an cdv ct) ⟨us, []⟩ = pure (ps.zip us))
    (len : ∀ vs H Q E, sp vs H Q E → vs.length = ps.length)
    (hbody : ∀ (cdv : Value) (A : Around) (outer : List Env) (s : Shared) (H : Hp) (vs : List V) (Q : VK) (E : XK) (p : Addr × Obj), RoomH k (A.deeper (envOfC qual sc s.heap.objs.size f cdv)) → sp vs H Q E →
      ∃ t, PSs (cxH CX0 P w K mg base N qual sc f cdv A outer s H E p) body t ∧ t { nx := fun _ H' => Q .non H', rt := Q } (start N vs) H) : DefOkH ⟨P, w, K, mg, base⟩ (k + 1) f ps sp := by
  obtain ⟨fd, F⟩ := F
  obtain ⟨oc, od, dV, kV, doc, pm, an, cdv, ct, osl, e, lk, hcd, _, _⟩ := F.ex
  subst e
  exact ⟨⟨_, fn_ofH lk hcd S len fun A outer s H vs Q E p _ hr h => hbody cdv A outer s H vs Q E p hr h, F.bindsN hb⟩, F.kp⟩
section
variable {X : Cx} {M : C5} {k0 k : Nat} {x : Str} {p pos : Pos} {e : Expr} {es : List Expr} {t ta : TA} {W : WX} {C fI : Addr} {ps : List Str} {sp : Sp}
/-- f(..), which may let out an exception without a context -/
def tCGN (M : C5) (k0 : Nat) (x : Str) (W : WX) (t : TA) : TE := fun σ H Q => ∃ (f : Addr) (ps : List Str) (sp : Sp) (k : Nat), M.mg x = some (.ref f) ∧ DefOkN M k f ps sp ∧ k ≤ k0 ∧ t σ H fun vs H1 => sp vs H1 Q (WE W σ)
theorem pe_cgN (hM : five X = M) (hr : Room k0 X.A) (tk : L2N.Takes X W) (hg : Gl X x) (ha : PA X (e :: es) t) (hdb : (x == ("__debug__" : Str)) = false := by decide) (he : starEach (e :: es) X.env = (false, eval e X.env) :: starEach es X.env := by rfl) (hpl : (backTo pos (starEach es X.env)).any (·.1) = false := by rfl) :
    PE X (.Call (.Name x p) (e :: es) [] pos) (tCGN M k0 x W t) := by
  subst hM
  refine ⟨fun pins s σ H Q I ⟨f, ps, sp, k, hm, D, hk, h⟩ => ?_⟩
  obtain ⟨fd, F, b⟩ := D.ex
  exact (pe_callS F (hr.mono hk) hg hm D.kp b (fun σ => L2N.passAt tk σ) ha hdb he hpl).run pins s σ H Q I h
/-- C(e, ..), its exception without a context -/
theorem pmkN_oexD (hM : five X = M) (T : OexC X.K C) (iC : PySem.W.findIn X.K (.ref C) "__init__" = some (some (.ref fI))) (tI : PySem.W.typeIn X.K (.ref fI) = some (.type "function")) (D : DefOk M k fI ps sp)
    (hr : Room (k + 1) X.A) (hg : Gl X x) (hm : X.mg x = some (.ref C)) (ha : PA X (e :: es) ta) (hdb : (x == ("__debug__" : Str)) = false := by decide) (he : starEach (e :: es) X.env = (false, eval e X.env) :: starEach es X.env := by rfl) (hpl : (backTo pos (starEach es X.env)).any (·.1) = false := by rfl) :
    L2N.PMk X (.Call (.Name x p) (e :: es) [] pos) (tMkO C sp [] ta) := by
  subst hM
  obtain ⟨fd, F1, hb⟩ := D.ex
  intro pins s σ H Q I h
  obtain ⟨nm, qn, N, bs, bm, sn, sub, ab, col, dd, k0, k1, k2, k3, k5, hC, hbm⟩ := T.cls
  refine wpAny_Call_Name_kw (ld_glob I hg hm ?_ hdb)
  refine PySem.W.callWith_K (h₀ := X.base) I.ok.mod.kin T.kC (thn (ha.run pos pins s σ H _ I h) fun us s1 hh => ?_) he hpl
  obtain ⟨vs, H1, I1, r1, few, q1⟩ := hh
  refine ⟨I1.kIn, ?_⟩
  obtain ⟨hp, g, dr, tk, os⟩ := s1
  show wpAny _ _ (call (.ref C) us) _ _ _
  have up1 : hp.objs.size ≤ hp.objs.size + 1 := Nat.le_succ _
  have q2 := q1 (hp.objs.size + 1) (I1.hok.fresh up1)
  rw [List.append_nil] at q2
  have stay : ∀ b o, hp.get? b = some o → ((hp.push (PySem.W.kdv_tup us)).push (PySem.HandSPX.excO C hp.objs.size)).get? b = some o := fun b o e => Heap.get?_push_of_some _ (Heap.get?_push_of_some _ e)
  have made : ((hp.push (PySem.W.kdv_tup us)).push (PySem.HandSPX.excO C hp.objs.size)).get? (hp.objs.size + 1) = some (PySem.HandSPX.excO C hp.objs.size) := by heap_get
  have J : Inv X pins σ (upd H1 (hp.objs.size + 1) (exo (hp.objs.size + 1) C none)) ⟨(hp.push (PySem.W.kdv_tup us)).push (PySem.HandSPX.excO C hp.objs.size), g, dr, tk, os⟩ :=
    I1.laid (t' := tk) (o := exo (hp.objs.size + 1) C none) stay up1 (exo_ok made)
  have rv : Vals (V.ref (hp.objs.size + 1) :: vs) (Value.ref (hp.objs.size + 1) :: us) := .cons rfl r1
  have hl : (Value.ref (hp.objs.size + 1) :: us ++ []).length = ps.length := by
    rw [List.append_nil, ← rv.length]
    exact F1.len _ _ _ _ q2
  have lus : us.length ≤ sizeLine := by
    have z := Paired.length r1
    rw [sizeLine_eq]
    omega
  have bd := hb _ (Value.ref (hp.objs.size + 1) :: us) J.kIn hl
  rw [List.append_nil] at bd
  refine wpAny_call (PySem.HandSPX.call_own F.excBase_ValueError (fun Y => PySem.HandSPX.refsVE_contains Y bm hbm) (I1.kIn _ _ hC) (PySem.W.looks_findIn I1.kIn iC) (fun self => PySem.W.bind_fn I1.kIn self tI) lus
    (codeAny_mono (F1.run _ X.stack _ _ ⟨Value.ref (hp.objs.size + 1) :: us, []⟩ (Value.ref (hp.objs.size + 1) :: us) _ _ (fun _ _ _ => False) (hr.make C us []) (J.env0.make C us []) bd rv q2) fun r s' hq => ?_))
  cases r with
  | error er => exact pass0 pins σ _ _ er s' J hq
  | ok fl =>
    cases fl with
    | ret u =>
      obtain ⟨v, H2, os2, bare2, un2, hok2, ru, ev, d, fs, ea, ed, hd1, q3⟩ := hq
      subst ev
      obtain ⟨h2, g2, d2, t2, os'⟩ := s'
      obtain ⟨t0, G, L, kG, ge, hoe, na⟩ := mk_end0 (d2 := d2) (t2 := t2) I1 up1 stay un2 hok2 os2 bare2 ea ed hd1
      refine ⟨ru, hp.objs.size + 1, _, _, ⟨G, g2, d2, t2, os'⟩, _, .ref C, some d, rfl, L, kG, ge, hoe, ⟨rfl, rfl, fun ws hv => ?_⟩, rfl, rfl, na, rfl, bare2, raises_own T.exC T.tyC, q3⟩
      cases hv
      rfl
    | next => exact False.elim hq
    | brk => exact False.elim hq
    | cont => exact False.elim hq
/-- C(e, ..) in an except suite -/
theorem pmkH_oexD (hM : five X = M) (T : OexC X.K C) (iC : PySem.W.findIn X.K (.ref C) "__init__" = some (some (.ref fI))) (tI : PySem.W.typeIn X.K (.ref fI) = some (.type "function")) (D : DefOkH M k fI ps sp)
    (hr : RoomH (k + 1) X.A) (hc : HotC X) (hg : Gl X x) (hm : X.mg x = some (.ref C)) (ha : PA X (e :: es) ta) (hdb : (x == ("__debug__" : Str)) = false := by decide) (he : starEach (e :: es) X.env = (false, eval e X.env) :: starEach es X.env := by rfl) (hpl : (backTo pos (starEach es X.env)).any (·.1) = false := by rfl) :
    PMk5 X (.Call (.Name x p) (e :: es) [] pos) (tMkO C sp [] ta) := by
  subst hM
  obtain ⟨fd, F1, b⟩ := D.ex
  exact pmk5_oexH T iC tI F1 hr hc b pass0 hg hm ha hdb he hpl
end
/-! isinstance(e, (C, ..)) of an error with a dict. -/
end WB
/-! Small numbers, as texts. -/
namespace WK
open PySem PySem.Spec PyProof.Rows L2 He WB PySem.W
def smallZ (i : Int) : Prop := i.natAbs < 100000
theorem small_txt {i : Int} (h : smallZ i) : i.natAbs.log2 < 1920 ∧ (Str.ofString (toString i)).length ≤ 6 := by
  refine ⟨?_, ?_⟩
  · by_cases z : i.natAbs = 0
    · rw [z]; decide
    · exact (Nat.log2_lt z).mpr (Nat.lt_of_lt_of_le h (by decide +kernel))
  · have e := int_text_length_le10 (a := i) (k := 5) (by decide) h
    rw [PySem.ofString_length]; exact e
end WK
/-! BadProgram and BadText: their making. -/
namespace WK
open PySem PySem.Spec PyProof.Rows L2 He WB PySem.W
section
variable {P : Program} {w : World} {K : PySem.W.Frag} {mg : Str → Option Value} {base : Heap}
theorem oex_C {c f : Str} (e : (Fx.oex c f).ok K = true) : OexC K (ga K c) ∧ PySem.W.findIn K (.ref (ga K c)) "__init__" = some (some (.ref (ma K (ga K c) "__init__"))) ∧ PySem.W.typeIn K (.ref (ma K (ga K c) "__init__")) = some (.type "function") ∧ PySem.W.findIn K (.ref (ga K c)) f = some none := by
  obtain ⟨h1, h2⟩ := ba e
  obtain ⟨h2, h3⟩ := ba h2
  obtain ⟨h3, h4⟩ := ba h3
  obtain ⟨h4, h5⟩ := ba h4
  obtain ⟨h5, h6⟩ := ba h5
  obtain ⟨h6, h7⟩ := ba h6
  obtain ⟨h7, h8⟩ := ba h7
  exact ⟨⟨oexB_ok h1, eqO_ok h2, of_decide_eq_true h3, of_decide_eq_true h4, h5⟩, eqO_ok h6, of_decide_eq_true h7, eqO_ok h8⟩
/-- C(i), C with an __init__ of its own that keeps i at f -/
def spInitX (C : Addr) (f : Str) : Sp := fun vs H Q _ => ∃ (a : Addr) (i : Int), vs = [.ref a, .int i] ∧ H a = some (exo a C none) ∧ smallZ i ∧
  ∀ dx, H dx = none → dx ≠ a → Q .non (upd (upd H dx (exd dx [(f, .int i)])) a (exo a C (some dx)))
theorem ok_BadProgram_init (T : Tx w K mg) : DefOk ⟨P, w, K, mg, base⟩ 1 (ma K (ga K "BadProgram") "__init__") ["self", "place"] (spInitX (ga K "BadProgram") "place") := by
  refine DefOk.mk' (f_BadProgram_init T) sc_BadProgram_init (fun _ _ _ _ _ _ us hl => match us, hl with | [_, _], _ => rfl) (fun vs H Q E h => ?_) (fun cdv A outer s H vs Q E hr h => ?_)
  · obtain ⟨a, i, rfl, _⟩ := h
    rfl
  · obtain ⟨a, i, rfl, ha, sm, k⟩ := h
    have hu := hu_of hr
    refine ⟨_, (pss_cons (ps_expr (pe_winit rfl (g_WhoError T) (x_cblt T) (pa_cons (pv 0) (pa_cons (pe_joined (PJ.cons pe_str (PJ.cons (pe_fmt (pv 1)) PJ.nil))) pa_nil)))) (pss_one (ps_ost (pv 0) (pv 1)))), ?_⟩
    obtain ⟨o1, o2, o3, o4⟩ := oex_C (x_oex_BadProgram T)
    obtain ⟨t1, t2⟩ := small_txt sm
    refine ⟨_, rfl, _, rfl, by rw [sizeLine_eq]; decide +kernel, _, rfl, .inr ⟨i, rfl, t1, _, rfl, ?_, ?_⟩⟩
    · rw [PySem.Str.length_append]
      have e0 : (Str.empty ++ ("no deed at place " : Str)).length ≤ 100 := by decide +kernel
      rw [sizeLine_eq]
      omega
    · exact ⟨a, _, _, rfl, (by show 1 ≤ 1000; decide), o1, ha, _, rfl, _, rfl, a, _, rfl, o1, o4, .inl ⟨ha, fun dx hn ne => k dx hn ne⟩⟩
theorem ok_BadText_init (T : Tx w K mg) : DefOk ⟨P, w, K, mg, base⟩ 1 (ma K (ga K "BadText") "__init__") ["self", "row"] (spInitX (ga K "BadText") "row") := by
  refine DefOk.mk' (f_BadText_init T) sc_BadText_init (fun _ _ _ _ _ _ us hl => match us, hl with | [_, _], _ => rfl) (fun vs H Q E h => ?_) (fun cdv A outer s H vs Q E hr h => ?_)
  · obtain ⟨a, i, rfl, _⟩ := h
    rfl
  · obtain ⟨a, i, rfl, ha, sm, k⟩ := h
    have hu := hu_of hr
    refine ⟨_, (pss_cons (ps_expr (pe_winit rfl (g_WhoError T) (x_cblt T) (pa_cons (pv 0) (pa_cons (pe_joined (PJ.cons pe_str (PJ.cons (pe_fmt (pv 1)) PJ.nil))) pa_nil)))) (pss_one (ps_ost (pv 0) (pv 1)))), ?_⟩
    obtain ⟨o1, o2, o3, o4⟩ := oex_C (x_oex_BadText T)
    obtain ⟨t1, t2⟩ := small_txt sm
    refine ⟨_, rfl, _, rfl, by rw [sizeLine_eq]; decide +kernel, _, rfl, .inr ⟨i, rfl, t1, _, rfl, ?_, ?_⟩⟩
    · rw [PySem.Str.length_append]
      have e0 : (Str.empty ++ ("no deed in row " : Str)).length ≤ 100 := by decide +kernel
      rw [sizeLine_eq]
      omega
    · exact ⟨a, _, _, rfl, (by show 1 ≤ 1000; decide), o1, ha, _, rfl, _, rfl, a, _, rfl, o1, o4, .inl ⟨ha, fun dx hn ne => k dx hn ne⟩⟩
theorem pmk_oexD {X : Cx} {M : C5} {C fI : Addr} {k : Nat} {ps : List Str} {sp : Sp} {x : Str} {e : Expr} {es : List Expr} {ta : TA} {p pos : Pos} (hM : five X = M) (T : OexC X.K C) (iC : PySem.W.findIn X.K (.ref C) "__init__" = some (some (.ref fI))) (tI : PySem.W.typeIn X.K (.ref fI) = some (.type "function")) (D : DefOk M k fI ps sp)
    (hr : Room (k + 1) X.A) (hg : Gl X x) (hm : X.mg x = some (.ref C)) (ha : PA X (e :: es) ta) (hdb : (x == ("__debug__" : Str)) = false := by decide) (he : starEach (e :: es) X.env = (false, eval e X.env) :: starEach es X.env := by rfl) (hpl : (backTo pos (starEach es X.env)).any (·.1) = false := by rfl) :
    PMk X (.Call (.Name x p) (e :: es) [] pos) (tMkO C sp [] ta) := by
  subst hM
  obtain ⟨fd, F, b⟩ := D.ex
  exact pmk_oex T iC tI F hr b .nil pass0 hg hm ha hdb he hpl
end
end WK
/-! What is a word of a deed: told of any flat value. -/
namespace WK
open PySem PySem.Spec PyProof.Rows L2 He WB PySem.W
section
variable {P : Program} {w : World} {K : PySem.W.Frag} {mg : Str → Option Value} {base : Heap}
def withinB (v : V) (lo hi : Int) : Bool := match v with
  | .int i => decide (lo ≤ i) && decide (i ≤ hi)
  | _ => false
def spWithinB : Sp := fun vs H Q _ => ∃ (v : V) (lo hi : Int), vs = [v, .int lo, .int hi] ∧ flatV v = true ∧ Q (.bl (withinB v lo hi)) H
theorem okg_within (T : Tx w K mg)  : DefOk ⟨P, w, K, mg, base⟩ (1) (ga K "is_within") ["number", "least", "most"] spWithinB := by
  refine DefOk.mk' (f_is_within T) sc_is_within (fun _ _ _ _ _ _ us hl => match us, hl with | [_, _, _], _ => rfl) (fun vs H Q E h => ?_) (fun cdv A outer s H vs Q E hr h => ?_)
  · obtain ⟨v, lo, hi, rfl, _⟩ := h
    rfl
  · obtain ⟨v, lo, hi, rfl, fv, k⟩ := h
    have hu := hu_of hr
    refine ⟨_, (pss_cons (ps_if (PW.pt (pw_or (pt_not (pt_val (pe_callB call_isi (by rfl) (z_isinstance T) (by decide +kernel) (pa_cons (pv 0) (pa_cons (pe_bltn (v := .ty "int") (by rfl) (z_int T) (by decide +kernel) rfl) pa_nil))))) (pw_or1 (pt_val (pe_callB call_isi (by rfl) (z_isinstance T) (by decide +kernel) (pa_cons (pv 0) (pa_cons (pe_bltn (v := .ty "bool") (by rfl) (z_bool T) (by decide +kernel) rfl) pa_nil))))))) (pss_one (ps_ret pe_bl)) pss_nil) (pss_one (ps_ret (pe_chain op_le op_le (pv 1) (pv 0) (pv 2))))), ?_⟩
    cases v with
    | int i =>
      refine ⟨_, rfl, _, _, _, _, _, rfl, .ty _, .base (.int i), kit_ty (r := true) (by decide +kernel), _, rfl, ?_⟩
      refine ⟨_, rfl, _, _, _, _, _, rfl, .ty _, .base (.int i), kit_ty (r := false) (by decide +kernel), _, rfl, ?_⟩
      refine if_f rfl ⟨_, rfl, _, rfl, _, _, rfl, rfl, _, rfl, ?_⟩
      have k : Q (.bl (decide (lo ≤ i) && decide (i ≤ hi))) H := k
      cases q : decide (lo ≤ i) with
      | true =>
        rw [q, Bool.true_and] at k
        exact if_t rfl ⟨_, rfl, _, _, rfl, rfl, k⟩
      | false =>
        rw [q, Bool.false_and] at k
        exact if_f rfl k
    | bl b =>
      refine ⟨_, rfl, _, _, _, _, _, rfl, .ty _, .base (.bl b), kit_ty (r := true) (by decide +kernel), _, rfl, ?_⟩
      refine ⟨_, rfl, _, _, _, _, _, rfl, .ty _, .base (.bl b), kit_ty (r := true) (by decide +kernel), _, rfl, ?_⟩
      exact if_t rfl k
    | non => exact ⟨_, rfl, _, _, _, _, _, rfl, .ty _, .base .non, kit_ty (r := false) (by decide +kernel), _, rfl, if_t rfl k⟩
    | str x => exact ⟨_, rfl, _, _, _, _, _, rfl, .ty _, .base (.str x), kit_ty (r := false) (by decide +kernel), _, rfl, if_t rfl k⟩
    | _ => cases fv
def wordB (sh : Str) (v : V) : Bool :=
  if sh = "name" then inV v (nmS.map V.str) else if sh = "goal" then (decide (v = .non) || inV v (nmS.map V.str)) else if sh = "kind" then inV v (kindsS.map V.str) else if sh = "number" then withinB v 0 99 else (inV v (lets.map V.str) || withinB v 0 9)
def shapeS : List Str := ["name", "goal", "kind", "number", "part"]
def spWordB : Sp := fun vs H Q _ => ∃ (sh : Str) (v : V), vs = [.str sh, v] ∧ sh ∈ shapeS ∧ flatV v = true ∧ Q (.bl (wordB sh v)) H
theorem okg_word_of (T : Tx w K mg)  : DefOk ⟨P, w, K, mg, base⟩ (2) (ga K "is_word_of") ["shape", "word"] spWordB := by
  refine DefOk.mk' (f_is_word_of T) sc_is_word_of (fun _ _ _ _ _ _ us hl => match us, hl with | [_, _], _ => rfl) (fun vs H Q E h => ?_) (fun cdv A outer s H vs Q E hr h => ?_)
  · obtain ⟨sh, v, rfl, _⟩ := h
    rfl
  · obtain ⟨sh, v, rfl, hs, fv, k⟩ := h
    have hu := hu_of hr
    refine ⟨_, (pss_cons (ps_if (pt_cmpR op_eq (pv 0) pe_str (nomark _)) (pss_one (ps_ret (pe_cmpR op_in_seq (pv 1) (pe_glob (v := .ref (ga K "NAMES")) rfl (g_NAMES T) rfl) (by rfl)))) pss_nil) (pss_cons (ps_if (pt_cmpR op_eq (pv 0) pe_str (nomark _)) (pss_one (ps_ret (pe_or (pe_cmpR op_isN (pv 1) pe_non (nomark _)) (pe_one (pe_cmpR op_in_seq (pv 1) (pe_glob (v := .ref (ga K "NAMES")) rfl (g_NAMES T) rfl) (by rfl)))))) pss_nil) (pss_cons (ps_if (pt_cmpR op_eq (pv 0) pe_str (nomark _)) (pss_one (ps_ret (pe_cmpR op_in_seq (pv 1) (pe_glob (v := .ref (ga K "KINDS")) rfl (g_KINDS T) rfl) (by rfl)))) pss_nil) (pss_cons (ps_if (pt_cmpR op_eq (pv 0) pe_str (nomark _)) (pss_one (ps_ret (pe_cg (M := ⟨P, w, K, mg, base⟩) rfl hr rfl (pa_cons (pv 1) (pa_cons pe_int (pa_cons (pe_glob (v := .int 99) rfl (i_MOST_NUMBER T).choose_spec ⟨_, rfl⟩) pa_nil)))))) pss_nil) (pss_one (ps_ret (pe_or (pe_cmpR op_in_seq (pv 1) (pe_glob (v := .ref (ga K "LETTERS")) rfl (g_LETTERS T) rfl) (by rfl)) (pe_one (pe_cg (M := ⟨P, w, K, mg, base⟩) rfl hr rfl (pa_cons (pv 1) (pa_cons pe_int (pa_cons (pe_glob (v := .int 9) rfl (i_MOST_PART T).choose_spec ⟨_, rfl⟩) pa_nil)))))))))))), ?_⟩
    have hs : sh = "name" ∨ sh = "goal" ∨ sh = "kind" ∨ sh = "number" ∨ sh = "part" := by simpa [shapeS] using hs
    rcases hs with rfl | rfl | rfl | rfl | rfl
    · have k : Q (.bl (inV v (nmS.map V.str))) H := k
      exact ⟨_, rfl, rfl, _, rfl, if_t (by decide +kernel) ⟨_, rfl, ga K "NAMES", nmS.map V.str, rfl, .inr (strsB_ok (x_tup_NAMES T) _), fv, strs_flat _, k⟩⟩
    · have k : Q (.bl (decide (v = .non) || inV v (nmS.map V.str))) H := k
      refine ⟨_, rfl, rfl, _, rfl, if_f (by decide +kernel) ⟨_, rfl, rfl, _, rfl, if_t (by decide +kernel) ?_⟩⟩
      refine ⟨_, rfl, rfl, _, rfl, ?_⟩
      cases z : decide (v = .non) with
      | true =>
        rw [z, Bool.true_or] at k
        exact if_t rfl k
      | false =>
        rw [z, Bool.false_or] at k
        exact if_f rfl ⟨_, rfl, ga K "NAMES", nmS.map V.str, rfl, .inr (strsB_ok (x_tup_NAMES T) _), fv, strs_flat _, k⟩
    · have k : Q (.bl (inV v (kindsS.map V.str))) H := k
      exact ⟨_, rfl, rfl, _, rfl, if_f (by decide +kernel) ⟨_, rfl, rfl, _, rfl, if_f (by decide +kernel) ⟨_, rfl, rfl, _, rfl, if_t (by decide +kernel) ⟨_, rfl, ga K "KINDS", kindsS.map V.str, rfl, .inr (strsB_ok (x_tup_KINDS T) _), fv, strs_flat _, k⟩⟩⟩⟩
    · have k : Q (.bl (withinB v 0 99)) H := k
      refine ⟨_, rfl, rfl, _, rfl, if_f (by decide +kernel) ⟨_, rfl, rfl, _, rfl, if_f (by decide +kernel) ⟨_, rfl, rfl, _, rfl, if_f (by decide +kernel) ⟨_, rfl, rfl, _, rfl, if_t (by decide +kernel) ?_⟩⟩⟩⟩
      exact ⟨_, _, _, _, g_is_within T, okg_within T, by decide, _, rfl, v, 0, 99, rfl, fv, k⟩
    · have k : Q (.bl (inV v (lets.map V.str) || withinB v 0 9)) H := k
      refine ⟨_, rfl, rfl, _, rfl, if_f (by decide +kernel) ⟨_, rfl, rfl, _, rfl, if_f (by decide +kernel) ⟨_, rfl, rfl, _, rfl, if_f (by decide +kernel) ⟨_, rfl, rfl, _, rfl, if_f (by decide +kernel) ?_⟩⟩⟩⟩
      refine ⟨_, rfl, ga K "LETTERS", lets.map V.str, rfl, .inr (strsB_ok (x_tup_LETTERS T) _), fv, strs_flat _, _, rfl, ?_⟩
      show if (inV v (lets.map V.str)) = true then _ else _
      cases z : inV v (lets.map V.str) with
      | true =>
        rw [z, Bool.true_or] at k
        exact if_t rfl k
      | false =>
        rw [z, Bool.false_or] at k
        exact if_f rfl ⟨_, _, _, _, g_is_within T, okg_within T, by decide, _, rfl, v, 0, 9, rfl, fv, k⟩
end
end WK
/-! What is a deed: told of any tuple of flat values. -/
namespace WK
open PySem PySem.Spec PyProof.Rows L2 He WB PySem.W
section
variable {P : Program} {w : World} {K : PySem.W.Frag} {mg : Str → Option Value} {base : Heap}
def shapeT : List (Str × List Str) := [("make", ["name", "kind"]), ("num", ["name", "number"]), ("copy", ["name", "name"]), ("drop", ["name"]), ("put", ["name", "part", "name"]), ("take", ["name", "name", "part"]), ("cut", ["name", "part"]), ("watch", ["name", "name"]), ("last", ["name", "goal"]), ("ask", ["name", "name"]), ("settle", []), ("say", ["name"])]
def shapeOfW (x : Str) : Option (List Str) := shapeT.lookup x
theorem shapesW_at (T : Tx w K mg) {x : Str} {vs : List Str} (h : shapeOfW x = some vs) : ∃ p, PySem.W.nsIn K (ga K "SHAPES") x = some (some (.ref p)) ∧ KDct K w (ga K "SHAPES") x (.ref p) ∧ ∀ H, SqT K H p (vs.map V.str) := by
  have hm : (x, vs) ∈ shapeT := PySem.mem_of_lookup h
  unfold shapeT at hm
  simp only [List.mem_cons, Prod.mk.injEq, List.not_mem_nil, or_false] at hm
  rcases hm with ⟨rfl, rfl⟩ | ⟨rfl, rfl⟩ | ⟨rfl, rfl⟩ | ⟨rfl, rfl⟩ | ⟨rfl, rfl⟩ | ⟨rfl, rfl⟩ | ⟨rfl, rfl⟩ | ⟨rfl, rfl⟩ | ⟨rfl, rfl⟩ | ⟨rfl, rfl⟩ | ⟨rfl, rfl⟩ | ⟨rfl, rfl⟩
  · exact ⟨_, sh_at T (x_SHAPES_make T)⟩
  · exact ⟨_, sh_at T (x_SHAPES_num T)⟩
  · exact ⟨_, sh_at T (x_SHAPES_copy T)⟩
  · exact ⟨_, sh_at T (x_SHAPES_drop T)⟩
  · exact ⟨_, sh_at T (x_SHAPES_put T)⟩
  · exact ⟨_, sh_at T (x_SHAPES_take T)⟩
  · exact ⟨_, sh_at T (x_SHAPES_cut T)⟩
  · exact ⟨_, sh_at T (x_SHAPES_watch T)⟩
  · exact ⟨_, sh_at T (x_SHAPES_last T)⟩
  · exact ⟨_, sh_at T (x_SHAPES_ask T)⟩
  · exact ⟨_, sh_at T (x_SHAPES_settle T)⟩
  · exact ⟨_, sh_at T (x_SHAPES_say T)⟩
theorem shape_in {x : Str} {vs : List Str} (h : shapeOfW x = some vs) : ∀ s ∈ vs, s ∈ shapeS := by
  have hm : (x, vs) ∈ shapeT := PySem.mem_of_lookup h
  have all : ∀ p ∈ shapeT, ∀ s ∈ p.2, s ∈ shapeS := by decide +kernel
  exact all _ hm
def wordsB : List Str → List V → Bool
  | s :: ss, v :: vs => wordB s v && wordsB ss vs
  | _, _ => true
def deedB : List V → Bool
  | .str x :: vs => match shapeOfW x with
    | some ss => decide (vs.length = ss.length) && wordsB ss vs
    | none => false
  | _ => false
theorem deedB_str (x : Str) (vs : List V) : deedB (.str x :: vs) = match shapeOfW x with
    | some ss => decide (vs.length = ss.length) && wordsB ss vs
    | none => false := rfl
theorem wordsB_all : ∀ {ss : List Str} {vs : List V}, vs.length = ss.length → wordsB ss vs = (List.zipWith wordB ss vs).all id
  | [], [], _ => rfl
  | s :: ss, v :: vs, e => by
    show (wordB s v && wordsB ss vs) = (wordB s v && (List.zipWith wordB ss vs).all id)
    rw [wordsB_all (Nat.succ.inj e)]
def spDeedB (K : PySem.W.Frag) : Sp := fun vs H Q _ => ∃ (p : Addr) (xs : List V), vs = [.ref p] ∧ H p = some (.tup xs) ∧ xs.all flatV = true ∧ xs.length ≤ 1000 ∧ (∀ x ys, xs = .str x :: ys → shapeOfW x = none → PySem.W.nsIn K (ga K "SHAPES") x = some none) ∧ ∀ H', Same H H' → Q (.bl (deedB xs)) H'
theorem okg_deed (T : Tx w K mg)  : DefOk ⟨P, w, K, mg, base⟩ (3) (ga K "is_deed") ["deed"] (spDeedB K) := by
  refine DefOk.mk' (f_is_deed T) sc_is_deed (fun _ _ _ _ _ _ us hl => match us, hl with | [_], _ => rfl) (fun vs H Q E h => ?_) (fun cdv A outer s H vs Q E hr h => ?_)
  · obtain ⟨p, xs, rfl, _⟩ := h
    rfl
  · obtain ⟨p, xs, rfl, hp, fx, lx, no, k⟩ := h
    have hu := hu_of hr
    refine ⟨_, (pss_cons (ps_if (PW.pt (pw_or (pt_not (pt_val (pe_callB call_isi (by rfl) (z_isinstance T) (by decide +kernel) (pa_cons (pv 0) (pa_cons (pe_bltn (v := .ty "tuple") (by rfl) (z_tuple T) (by decide +kernel) rfl) pa_nil))))) (pw_or1 (pt_not (pt_truth (pv 0) (by intro _; rfl)))))) (pss_one (ps_ret pe_bl)) pss_nil) (pss_cons (ps_asg (pv 0) (pg_star rfl (pgs_cons (pg_name (i := 1) sc_is_deed.nd rfl (Or.inl rfl)) (pgs_cons (pg_name (i := 2) sc_is_deed.nd rfl (Or.inl rfl)) pgs_nil)))) (pss_cons (ps_if (PW.pt (pw_or (pt_not (pt_val (pe_callB call_isi (by rfl) (z_isinstance T) (by decide +kernel) (pa_cons (pv 1) (pa_cons (pe_bltn (v := .ty "str") (by rfl) (z_str T) (by decide +kernel) rfl) pa_nil))))) (pw_or1 (pt_cmpR (op_notIn_kd (k_SHAPES T).choose_spec.choose_spec) (pv 1) (pe_glob (v := .ref (ga K "SHAPES")) rfl (g_SHAPES T) rfl) (by rfl))))) (pss_one (ps_ret pe_bl)) pss_nil) (pss_cons (ps_set (i := 3) sc_is_deed.nd rfl (Or.inl rfl) (pe_ix ix_kdict (pe_glob (v := .ref (ga K "SHAPES")) rfl (g_SHAPES T) rfl) (pv 1) (fun _ _ => rfl))) (pss_cons (ps_if (pt_cmpR op_ne (pe_callB call_len_seq (by rfl) (z_len T) PySem.boot_len (pa_cons (pv 2) pa_nil)) (pe_callB call_len_seq (by rfl) (z_len T) PySem.boot_len (pa_cons (pv 3) pa_nil)) (nomark _)) (pss_one (ps_ret pe_bl)) pss_nil) (pss_one (ps_ret (pe_callB (cr_all rfl) (by rfl) (z_all T) (by decide +kernel) (pa_cons (pe_lc (own := [("shape", 4), ("part", 5)]) (g := (gTup K 2 (gCons (gName 4) (gCons (gName 5) gNil)))) rfl sc_is_deed.nd (pi_zipM (by rfl) (z_zip T) (pa_cons (pv 3) (pa_cons (pv 2) pa_nil))) (blkOk_by (own := [("shape", 4), ("part", 5)]) (N := ["deed", "word", "parts", "shapes", "shape", "part"]) (sc := defScope s_is_deed) (by decide +kernel)) (fun _ _ _ _ _ => (pg_tupK (K := K) rfl rfl (pgs_cons (pg_name (i := 4) sc_is_deed.nd rfl (Or.inl rfl)) (pgs_cons (pg_name (i := 5) sc_is_deed.nd rfl (Or.inl rfl)) pgs_nil)))) (fun _ _ _ _ _ => by exact pts_nil) (fun _ _ _ _ _ => by exact (pe_cg (M := ⟨P, w, K, mg, base⟩) rfl hr rfl (pa_cons (pv 4) (pa_cons (pv 5) pa_nil))))) pa_nil))))))))), ?_⟩
    refine ⟨_, rfl, _, _, _, _, _, rfl, .ty _, .base (.tup hp), kit_ty (r := true) (by decide +kernel), _, rfl, ?_⟩
    cases xs with
    | nil =>
      refine ⟨_, rfl, _, .inr (.inl ⟨_, SqT.of hp, rfl⟩), if_t rfl ?_⟩
      exact k H (Same.refl _)
    | cons x0 vs =>
      refine ⟨_, rfl, _, .inr (.inl ⟨_, SqT.of hp, rfl⟩), if_f rfl ?_⟩
      rw [List.length_cons] at lx
      refine ⟨_, rfl, p, _, _, rfl, SqT.of hp, by omega, fun D hD => ⟨_, _, rfl, _, _, rfl, rfl, ?_⟩⟩
      have sa : Same H (upd H D (.lst vs)) := same_new hD
      rw [List.all_cons, Bool.and_eq_true] at fx
      obtain ⟨f0, fv⟩ := fx
      have gD : upd H D (.lst vs) D = some (.lst vs) := upd_same
      generalize upd H D (.lst vs) = H1 at sa gD ⊢
      cases x0 with
      | str x =>
        refine ⟨_, rfl, _, _, _, _, _, rfl, .ty _, .base (.str _), kit_ty (r := true) (by decide +kernel), _, rfl, ?_⟩
        cases hx : shapeOfW x with
        | none =>
          refine ⟨_, rfl, _, _, rfl, rfl, no x vs rfl hx, _, rfl, if_t rfl ?_⟩
          have e : deedB (.str x :: vs) = false := by rw [deedB_str, hx]
          rw [e] at k
          exact k H1 sa
        | some ss =>
          obtain ⟨sp, s1, s2, s3⟩ := shapesW_at T hx
          have e : deedB (.str x :: vs) = (decide (vs.length = ss.length) && wordsB ss vs) := by rw [deedB_str, hx]
          rw [e] at k
          refine ⟨_, rfl, _, _, rfl, rfl, s1, _, rfl, if_f rfl ?_⟩
          refine ⟨_, rfl, _, _, _, rfl, rfl, s2, ?_⟩
          refine ⟨_, rfl, D, vs, rfl, .inl (SqL.of gD), _, rfl, sp, _, rfl, .inr (s3 _), rfl, _, rfl, ?_⟩
          cases hl : decide (vs.length = ss.length) with
          | false =>
            rw [hl, Bool.false_and] at k
            refine if_t ?_ (k H1 sa)
            rw [List.length_map]
            have ne := of_decide_eq_false hl
            have : ¬ (V.int ((vs.length : Nat) : Int) = V.int ((ss.length : Nat) : Int)) := fun z => ne (Int.ofNat.inj (V.int.inj z))
            rw [decide_eq_false this]
            rfl
          | true =>
            have le := of_decide_eq_true hl
            rw [hl, Bool.true_and, wordsB_all le] at k
            refine if_f (by rw [List.length_map, le]; simp) ?_
            refine ⟨_, rfl, _, rfl, sp, D, _, _, rfl, s3 _, SqL.of gD, fun L hL => ?_⟩
            have nDL : D ≠ L := fun z => by rw [← z, gD] at hL; cases hL
            refine lc_it (walk_mix (xs := ss.map V.str) (ys := vs) (by rw [List.length_map]; exact le.symm)) (fun i H' => Same H1 H' ∧ H' L = some (.lst (((List.zipWith wordB ss vs).take i).map V.bl)))
              ⟨same_new hL, upd_same⟩ (fun i H' _ h => ⟨s3 _, SqL.of (h.1 _ _ gD)⟩) ?_ ?_
            · rintro i y H2 H3 hi ⟨q1, q2⟩ ⟨X0, a0, b0, rfl, hX, rfl, ha, hb⟩
              have ha' : (ss.map V.str)[i]? = some a0 := ha
              have hb' : vs[i]? = some b0 := hb
              rw [List.getElem?_map] at ha'
              obtain ⟨sh, hsh, rfl⟩ := Option.map_eq_some_iff.mp ha'
              have zw : (List.zipWith wordB ss vs)[i]? = some (wordB sh b0) := by rw [List.getElem?_zipWith, hsh, hb']
              refine ⟨X0, _, rfl, SqT.of upd_same, rfl, _, _, rfl, _, _, rfl, rfl, rfl, ?_⟩
              have q3 : Same H1 (upd H2 X0 (.tup [.str sh, b0])) := q1.trans (same_new hX)
              have nLX : L ≠ X0 := ne_of_none q2 hX
              refine ⟨_, _, _, _, g_is_word_of T, okg_word_of T, by decide, _, rfl, _, rfl, sh, b0, rfl, shape_in hx _ (List.mem_of_getElem? hsh), List.all_eq_true.mp fv _ (List.mem_of_getElem? hb'), _, (by rw [upd_ne nLX]; exact q2), szl (by rw [List.length_map, List.length_take]; have := hi; rw [List.length_map] at this; omega), same_mut q3 hL, ?_⟩
              rw [upd_same, take_snoc zw, List.map_append]; rfl
            · rintro H' ⟨q1, q2⟩
              rw [List.length_map, show (List.zipWith wordB ss vs).take ss.length = List.zipWith wordB ss vs from List.take_of_length_le (by rw [List.length_zipWith]; omega)] at q2
              exact ⟨L, _, rfl, SqL.of q2, k H' (sa.trans q1)⟩
      | non => exact ⟨_, rfl, _, _, _, _, _, rfl, .ty _, .base .non, kit_ty (r := false) (by decide +kernel), _, rfl, if_t rfl (k H1 sa)⟩
      | bl b => exact ⟨_, rfl, _, _, _, _, _, rfl, .ty _, .base (.bl b), kit_ty (r := false) (by decide +kernel), _, rfl, if_t rfl (k H1 sa)⟩
      | int i => exact ⟨_, rfl, _, _, _, _, _, rfl, .ty _, .base (.int i), kit_ty (r := false) (by decide +kernel), _, rfl, if_t rfl (k H1 sa)⟩
      | _ => cases f0
end
end WK
/-! What a row of any text tells, by the program's reader and by the law's. -/
namespace WK
open PySem PySem.Spec PyProof.Rows L2 He WB PySem.W
def fewS (sh : Str) : List Str := if sh = "name" then nmS else if sh = "kind" then kindsS else if sh = "goal" then nmS else if sh = "part" then WB.lets else []
def mostS (sh : Str) : Nat := if sh = "part" then 10 else if sh = "number" then 100 else 0
def txtN (n : Nat) : Str := ((toString (n : Int) : String) : Str)
/-- what the law's reader makes of a word where a shape stands -/
def lawWord (x sh : Str) : List V := if x ∈ fewS sh then [.str x] else if sh = "goal" ∧ x = "-" then [.non] else ((List.range (mostS sh)).filter fun n => decide (txtN n = x)).map fun (n : Nat) => V.int (n : Int)
theorem txtN_fig {n : Nat} (h : n < 100) : figS[n]? = some (txtN n) := by
  show ((List.range 100).map _)[n]? = _
  rw [List.getElem?_map, List.getElem?_range h]; rfl
theorem txtN_inj {i j : Nat} (hi : i < 100) (hj : j < 100) (e : txtN i = txtN j) : i = j := by
  obtain ⟨_, a⟩ := num_back ⟨i, hi⟩
  obtain ⟨_, b⟩ := num_back ⟨j, hj⟩
  have e2 : figS.idxOf (txtN i) = figS.idxOf (txtN j) := by rw [e]
  exact a.symm.trans (e2.trans b)
theorem filt_one {x : Str} {m : Nat} (hm : m ≤ 100) : (List.range m).filter (fun n => decide (txtN n = x)) = if x ∈ figS ∧ figS.idxOf x < m then [figS.idxOf x] else [] := by
  have mem_fig : ∀ {n : Nat}, n < 100 → txtN n = x → x ∈ figS ∧ figS.idxOf x = n := fun {n} hn e => by
    obtain ⟨a, b⟩ := num_back ⟨n, hn⟩
    have a : txtN n ∈ figS := a
    have b : figS.idxOf (txtN n) = n := b
    rw [e] at a b
    exact ⟨a, b⟩
  induction m with
  | zero => rw [if_neg (fun z => absurd z.2 (Nat.not_lt_zero _))]; rfl
  | succ m ih =>
    rw [List.range_succ, List.filter_append, ih (by omega)]
    by_cases e : txtN m = x
    · obtain ⟨h1, h2⟩ := mem_fig (by omega) e
      rw [h2, if_neg (fun z => absurd z.2 (Nat.lt_irrefl _)), if_pos ⟨h1, Nat.lt_succ_self _⟩]
      simp [e]
    · have z : [m].filter (fun n => decide (txtN n = x)) = [] := by simp [e]
      rw [z, List.append_nil]
      by_cases h : x ∈ figS ∧ figS.idxOf x < m
      · rw [if_pos h, if_pos ⟨h.1, by omega⟩]
      · rw [if_neg h, if_neg]
        rintro ⟨h1, h2⟩
        have e3 : figS.idxOf x = m := by
          rcases Nat.lt_or_ge (figS.idxOf x) m with q | q
          · exact absurd ⟨h1, q⟩ h
          · omega
        obtain ⟨q1, _⟩ := idx_at h1
        rw [e3, txtN_fig (by omega)] at q1
        exact e (Option.some.inj q1)
theorem inV_strB {x : Str} {xs : List Str} : inV (.str x) (xs.map V.str) = decide (x ∈ xs) := inV_str
theorem inV_int {i : Int} : ∀ {xs : List Str}, inV (.int i) (xs.map V.str) = false
  | [] => rfl
  | _ :: r => inV_int (xs := r)
theorem lawWord_eq {x sh : Str} (hs : sh ∈ shapeS) : lawWord x sh = if wordB sh (partV sh x) = true then [partV sh x] else [] := by
  have hs : sh = "name" ∨ sh = "goal" ∨ sh = "kind" ∨ sh = "number" ∨ sh = "part" := by simpa [shapeS] using hs
  have plain : ∀ {s : Str}, s ≠ "number" → s ≠ "part" → ¬ (s = "goal" ∧ x = "-") → partV s x = .str x := fun h1 h2 h3 => by
    unfold partV
    rw [if_neg h3, if_neg fun z => z.elim h1 h2]
  have num : ∀ {s : Str}, (s = "number" ∨ s = "part") → partV s x = numV x := fun {s} h => by
    unfold partV
    rw [if_neg fun z => by rw [z.1] at h; exact absurd h (by decide +kernel), if_pos h]
  have few : ∀ {s : Str} {l : List Str}, fewS s = l → mostS s = 0 → s ≠ "goal" → lawWord x s = if x ∈ l then [V.str x] else [] := fun {s l} e1 e2 e3 => by
    unfold lawWord
    rw [e1, e2]
    by_cases h : x ∈ l
    · rw [if_pos h, if_pos h]
    · rw [if_neg h, if_neg h, if_neg fun z => e3 z.1]; rfl
  rcases hs with rfl | rfl | rfl | rfl | rfl
  · rw [plain (by decide +kernel) (by decide +kernel) fun z => absurd z.1 (by decide +kernel), few (l := nmS) rfl rfl (by decide +kernel)]
    show _ = if inV (.str x) (nmS.map V.str) = true then _ else _
    rw [inV_str]
    by_cases h : x ∈ nmS <;> simp [h]
  · by_cases g : x = "-"
    · subst g
      have e1 : partV "goal" "-" = .non := by unfold partV; rw [if_pos ⟨rfl, rfl⟩]
      rw [e1, if_pos (by rfl)]
      unfold lawWord
      rw [if_neg (by decide +kernel), if_pos ⟨rfl, rfl⟩]
    · rw [plain (by decide +kernel) (by decide +kernel) fun z => g z.2]
      show _ = if (decide (V.str x = V.non) || inV (.str x) (nmS.map V.str)) = true then _ else _
      rw [inV_str]
      unfold lawWord
      have e1 : fewS "goal" = nmS := rfl
      have e2 : mostS "goal" = 0 := rfl
      rw [e1, e2, if_neg (fun z : _ ∧ _ => g z.2)]
      by_cases h : x ∈ nmS <;> simp [h]
  · rw [plain (by decide +kernel) (by decide +kernel) fun z => absurd z.1 (by decide +kernel), few (l := kindsS) rfl rfl (by decide +kernel)]
    show _ = if inV (.str x) (kindsS.map V.str) = true then _ else _
    rw [inV_str]
    by_cases h : x ∈ kindsS <;> simp [h]
  · rw [num (.inl rfl)]
    have e0 : lawWord x "number" = (if x ∈ figS ∧ figS.idxOf x < 100 then [figS.idxOf x] else []).map fun (n : Nat) => V.int (n : Int) := by
      unfold lawWord
      have e1 : fewS "number" = [] := rfl
      have e2 : mostS "number" = 100 := rfl
      rw [e1, e2, if_neg List.not_mem_nil, if_neg (fun z : _ ∧ _ => absurd z.1 (by decide +kernel)), filt_one (Nat.le_refl _)]
    rw [e0]
    unfold numV
    by_cases h : x ∈ figS
    · have lt : figS.idxOf x < 100 := by
        have := List.idxOf_lt_length_iff.mpr h
        have l100 : figS.length = 100 := by decide +kernel
        omega
      rw [if_pos ⟨h, lt⟩, if_pos h]
      show _ = if withinB (.int (figS.idxOf x : Nat)) 0 99 = true then _ else _
      rw [if_pos (by unfold withinB; simp; omega)]
      rfl
    · rw [if_neg (fun z => h z.1), if_neg h]
      show _ = if withinB (.str x) 0 99 = true then _ else _
      rw [if_neg (by unfold withinB; simp)]
      rfl
  · rw [num (.inr rfl)]
    unfold numV
    by_cases l : x ∈ WB.lets
    · have nf : x ∉ figS := let_back x l
      rw [if_neg nf]
      show _ = if (inV (.str x) (WB.lets.map V.str) || withinB (.str x) 0 9) = true then _ else _
      rw [inV_str]
      unfold lawWord
      have e1 : fewS "part" = WB.lets := rfl
      rw [e1, if_pos l]
      simp [l]
    · have e0 : lawWord x "part" = (if x ∈ figS ∧ figS.idxOf x < 10 then [figS.idxOf x] else []).map fun (n : Nat) => V.int (n : Int) := by
        unfold lawWord
        have e1 : fewS "part" = WB.lets := rfl
        have e2 : mostS "part" = 10 := rfl
        rw [e1, e2, if_neg l, if_neg (fun z : _ ∧ _ => absurd z.1 (by decide +kernel)), filt_one (by decide)]
      rw [e0]
      by_cases h : x ∈ figS
      · rw [if_pos h]
        show _ = if (inV (.int (figS.idxOf x : Nat)) (WB.lets.map V.str) || withinB (.int (figS.idxOf x : Nat)) 0 9) = true then _ else _
        rw [inV_int, Bool.false_or]
        by_cases lt : figS.idxOf x < 10
        · rw [if_pos ⟨h, lt⟩, if_pos (by unfold withinB; simp; omega)]; rfl
        · rw [if_neg (fun z => lt z.2), if_neg (by unfold withinB; simp; omega)]; rfl
      · rw [if_neg (fun z => h z.1), if_neg h]
        show _ = if (inV (.str x) (WB.lets.map V.str) || withinB (.str x) 0 9) = true then _ else _
        rw [inV_str, if_neg (by unfold withinB; simp [l])]
        rfl
/-- the shapes of a row's word -/
def shOf (ws : List Str) : List Str := (shapeOfW (ws.headD "")).getD []
/-- the tuple that the program makes of a row -/
def tupOf (r : Str) : List V := rowV (shOf (Txt.split r " ")) (Txt.split r " ")
def progOf (x : Str) : List (List V) := (rowsT x).map tupOf
/-- what the law's reader makes of a row -/
def lawRow : List Str → Option (List V)
  | [] => none
  | w :: ps => match shapeOfW w with
    | none => none
    | some ss => if ps.length = ss.length then (if ((V.str w :: (List.zipWith lawWord ps ss).flatten).length = ps.length + 1) then some (V.str w :: (List.zipWith lawWord ps ss).flatten) else none) else none
theorem lawRow_cons (w : Str) (ps : List Str) : lawRow (w :: ps) = match shapeOfW w with
    | none => none
    | some ss => if ps.length = ss.length then (if ((V.str w :: (List.zipWith lawWord ps ss).flatten).length = ps.length + 1) then some (V.str w :: (List.zipWith lawWord ps ss).flatten) else none) else none := rfl
theorem words_flat : ∀ {ss ps : List Str}, ps.length = ss.length → (∀ s ∈ ss, s ∈ shapeS) → ((List.zipWith lawWord ps ss).flatten).length ≤ ps.length ∧
    (((List.zipWith lawWord ps ss).flatten).length = ps.length ↔ wordsB ss (List.zipWith partV ss ps) = true) ∧ (wordsB ss (List.zipWith partV ss ps) = true → (List.zipWith lawWord ps ss).flatten = List.zipWith partV ss ps)
  | [], [], _, _ => ⟨Nat.le_refl _, ⟨fun _ => rfl, fun _ => rfl⟩, fun _ => rfl⟩
  | s :: ss, p :: ps, hl, hs => by
    obtain ⟨i1, i2, i3⟩ := words_flat (ss := ss) (ps := ps) (Nat.succ.inj hl) fun z hz => hs z (List.mem_cons_of_mem _ hz)
    have e := lawWord_eq (x := p) (hs s List.mem_cons_self)
    rw [List.zipWith_cons_cons, List.flatten_cons, List.zipWith_cons_cons, List.length_append, List.length_cons, e]
    show _ ∧ (_ ↔ (wordB s (partV s p) && wordsB ss (List.zipWith partV ss ps)) = true) ∧ ((wordB s (partV s p) && wordsB ss (List.zipWith partV ss ps)) = true → _)
    cases b : wordB s (partV s p) with
    | true =>
      rw [if_pos rfl, Bool.true_and]
      refine ⟨by show 1 + _ ≤ _; omega, ⟨fun z => i2.mp (by have : 1 + ((List.zipWith lawWord ps ss).flatten).length = ps.length + 1 := z; omega), fun z => ?_⟩, fun z => ?_⟩
      · have := i2.mpr z
        show 1 + _ = _
        omega
      · rw [i3 z]; rfl
    | false =>
      rw [if_neg (by decide), Bool.false_and]
      refine ⟨by show 0 + _ ≤ _; omega, ⟨fun z => ?_, fun z => nomatch z⟩, fun z => nomatch z⟩
      have : 0 + ((List.zipWith lawWord ps ss).flatten).length = ps.length + 1 := z
      omega
theorem lawRow_eq (w : Str) (ps : List Str) : lawRow (w :: ps) = if deedB (rowV (shOf (w :: ps)) (w :: ps)) = true then some (rowV (shOf (w :: ps)) (w :: ps)) else none := by
  have er : rowV (shOf (w :: ps)) (w :: ps) = V.str w :: (if ps.length = (shOf (w :: ps)).length then List.zipWith partV (shOf (w :: ps)) ps else ps.map V.str) := rfl
  rw [er, deedB_str]
  have eh : shOf (w :: ps) = (shapeOfW w).getD [] := rfl
  rw [lawRow_cons]
  cases hw : shapeOfW w with
  | none => rw [if_neg (by simp)]
  | some ss =>
    rw [hw] at eh
    have eh : shOf (w :: ps) = ss := eh
    rw [eh]
    dsimp only
    by_cases hl : ps.length = ss.length
    · obtain ⟨i1, i2, i3⟩ := words_flat hl (shape_in hw)
      have zl : (List.zipWith partV ss ps).length = ss.length := by rw [List.length_zipWith]; omega
      rw [if_pos hl, if_pos hl]
      have eb : (decide ((List.zipWith partV ss ps).length = ss.length) && wordsB ss (List.zipWith partV ss ps)) = wordsB ss (List.zipWith partV ss ps) := by rw [zl, decide_eq_true rfl, Bool.true_and]
      by_cases g : wordsB ss (List.zipWith partV ss ps) = true
      · have e := i3 g
        refine (if_pos (by rw [List.length_cons]; exact congrArg Nat.succ (i2.mpr g))).trans (Eq.trans ?_ (if_pos (eb.trans g)).symm)
        rw [e]
      · exact (if_neg (fun z => g (i2.mp (by rw [List.length_cons] at z; exact Nat.succ.inj z)))).trans (if_neg (fun z => g (eb.symm.trans z))).symm
    · rw [if_neg hl, if_neg hl]
      refine Eq.symm (if_neg fun z => ?_)
      rw [List.length_map, decide_eq_false hl] at z
      cases z
theorem numV_flat (x : Str) : flatV (numV x) = true := by unfold numV; split <;> rfl
theorem partV_flat (s x : Str) : flatV (partV s x) = true := by
  unfold partV
  split
  · rfl
  · split
    · exact numV_flat x
    · rfl
theorem rowV_flat (sh ws : List Str) : (rowV sh ws).all flatV = true := by
  cases ws with
  | nil => rfl
  | cons w ps =>
    show (flatV (V.str w) && (if ps.length = sh.length then List.zipWith partV sh ps else ps.map V.str).all flatV) = true
    rw [show flatV (V.str w) = true from rfl, Bool.true_and]
    split
    · rw [List.all_eq_true]
      intro v hv
      obtain ⟨i, hi⟩ := List.getElem?_of_mem hv
      rw [List.getElem?_zipWith] at hi
      split at hi
      · cases hi; exact partV_flat _ _
      · cases hi
    · exact strs_flat ps
theorem rowV_len (sh : List Str) (w : Str) (ps : List Str) : (rowV sh (w :: ps)).length = ps.length + 1 := by
  show (V.str w :: _).length = _
  rw [List.length_cons]
  by_cases h : ps.length = sh.length
  · rw [if_pos h, List.length_zipWith]; omega
  · rw [if_neg h, List.length_map]
/-- a program of deeds alone; the first place that is none -/
def AllGood (xss : List (List V)) : Prop := xss.length ≤ 120 ∧ ∀ xs ∈ xss, deedB xs = true
def FirstBad (xss : List (List V)) (pl : Nat) : Prop := pl < xss.length ∧ pl ≤ 120 ∧ (∀ i xs, i < pl → xss[i]? = some xs → deedB xs = true) ∧ (pl = 120 ∨ ∃ xs, xss[pl]? = some xs ∧ deedB xs = false)
theorem good_or_bad (xss : List (List V)) : AllGood xss ∨ ∃ pl, FirstBad xss pl := by
  have walk : ∀ n, n ≤ xss.length → n ≤ 120 → (∀ i xs, i < n → xss[i]? = some xs → deedB xs = true) ∨ ∃ pl, FirstBad xss pl := fun n => by
    induction n with
    | zero => exact fun _ _ => .inl fun i xs h => absurd h (Nat.not_lt_zero _)
    | succ n ih =>
      intro h1 h2
      rcases ih (by omega) (by omega) with g | b
      · obtain ⟨xs, hx⟩ : ∃ xs, xss[n]? = some xs := ⟨_, List.getElem?_eq_getElem (by omega)⟩
        cases d : deedB xs with
        | true =>
          refine .inl fun i ys hi hy => ?_
          rcases Nat.lt_or_ge i n with q | q
          · exact g i ys q hy
          · have e : i = n := by omega
            rw [e, hx] at hy
            cases hy
            exact d
        | false => exact .inr ⟨n, by omega, by omega, g, .inr ⟨xs, hx, d⟩⟩
      · exact .inr b
  by_cases h : xss.length ≤ 120
  · rcases walk xss.length (Nat.le_refl _) h with g | b
    · refine .inl ⟨h, fun xs hx => ?_⟩
      obtain ⟨i, hi⟩ := List.getElem?_of_mem hx
      exact g i xs (List.getElem?_eq_some_iff.mp hi).1 hi
    · exact .inr b
  · rcases walk 120 (by omega) (Nat.le_refl _) with g | b
    · exact .inr ⟨120, by omega, Nat.le_refl _, g, .inl rfl⟩
    · exact .inr b
end WK
/-! check_program of any tuples; BadText made in an except suite. -/
namespace WK
open PySem PySem.Spec PyProof.Rows L2 He WB PySem.W L2H
section
variable {P : Program} {w : World} {K : PySem.W.Frag} {mg : Str → Option Value} {base : Heap}
/-- at p a tuple of flat values -/
def TupF (K : PySem.W.Frag) (H : Hp) (p : Addr) (xs : List V) : Prop := H p = some (.tup xs) ∧ xs.all flatV = true ∧ xs.length ≤ 1000 ∧ ∀ x ys, xs = .str x :: ys → shapeOfW x = none → PySem.W.nsIn K (ga K "SHAPES") x = some none
theorem TupF.same {H H' : Hp} {p : Addr} {xs : List V} (h : TupF K H p xs) (s : Same H H') : TupF K H' p xs := ⟨s _ _ h.1, h.2⟩
/-- BadProgram, its place told -/
def EBad (K : PySem.W.Frag) (E : XK) (pl : Nat) (H : Hp) : Prop := ∀ d H', Same H H' → H' d = some (.xd [("place", .int (pl : Int))]) → E (.ref (ga K "BadProgram")) (some d) H'
def spCheckN (K : PySem.W.Frag) : Sp := fun vs H Q E => ∃ (l : Addr) (ps : List Addr) (xss : List (List V)), vs = [.ref l] ∧ SqL K H l (ps.map V.ref) ∧ Paired (TupF K H) ps xss ∧
  ((AllGood xss ∧ ∀ H', Same H H' → Q .non H') ∨ ∃ pl, FirstBad xss pl ∧ EBad K E pl H)
theorem okn_check_program (T : Tx w K mg) : DefOkN ⟨P, w, K, mg, base⟩ 5 (ga K "check_program") ["program"] (spCheckN K) := by
  refine DefOkN.mk' (f_check_program T) sc_check_program (fun _ _ _ _ _ _ us hl => match us, hl with | [_], _ => rfl) (fun vs H Q E h => ?_) (fun cdv A outer s H vs Q E hr h => ?_)
  · obtain ⟨l, ps, xss, rfl, _⟩ := h
    rfl
  · obtain ⟨l, ps, xss, rfl, hl, hp, k⟩ := h
    have hu := hu_of hr
    obtain ⟨y1, y2, y3, y4⟩ := oex_C (x_oex_BadProgram T)
    refine ⟨_, (pss_one (ps_for (passes_of rfl) rfl (pi_enum (by rfl) (z_enumerate T) (pa_cons (pv 0) pa_nil)) (pg_tup rfl (pgs_cons (pg_name (i := 1) sc_check_program.nd rfl (Or.inl rfl)) (pgs_cons (pg_name (i := 2) sc_check_program.nd rfl (Or.inl rfl)) pgs_nil))) (pss_one (ps_if (PW.pt (pw_or (pt_cmpR op_eq (pv 1) (pe_glob (v := .int 120) rfl (i_MOST_DEEDS T).choose_spec ⟨_, rfl⟩) (nomark _)) (pw_or1 (pt_not (pt_val (pe_cg (M := ⟨P, w, K, mg, base⟩) rfl hr rfl (pa_cons (pv 2) pa_nil))))))) (pss_one (L2N.ps_raise rfl (L2N.takes_of rfl rfl rfl rfl) (pmkN_oexD (M := ⟨P, w, K, mg, base⟩) rfl y1 y2 y3 (ok_BadProgram_init T) (hr.mono (by decide)) rfl (g_BadProgram T) (pa_cons (pv 1) pa_nil)))) pss_nil)))), ?_⟩
    refine ⟨_, rfl, l, _, rfl, hl, ?_⟩
    have lp := Paired.length hp
    have tupAt : ∀ {i : Nat} {p : Addr}, ps[i]? = some p → ∃ xs, xss[i]? = some xs ∧ TupF K H p xs := fun {i p} hpi => by
      rcases Paired.at i hp with ⟨z, _⟩ | ⟨u, v, z1, z2, z3⟩
      · rw [hpi] at z; cases z
      · rw [hpi] at z1; cases z1; exact ⟨v, z2, z3⟩
    refine for_it walk_enum (fun i σ H' => (∃ x1 x2, σ = [some (.ref l), x1, x2] ∧ Same H H') ∧ ∀ pl, FirstBad xss pl → i ≤ pl) ⟨⟨_, _, rfl, Same.refl H⟩, fun _ _ => Nat.zero_le _⟩ (fun i σ H' _ ⟨⟨_, _, _, s⟩, _⟩ => s.seq hl) ?_ ?_
    · rintro i x σ H1 H2 hi ⟨⟨x1, x2, rfl, s1⟩, ip⟩ ⟨X0, a0, b0, rfl, hX, rfl, ha, hb⟩
      cases ha
      have hb' : (ps.map V.ref)[i]? = some b0 := hb
      rw [List.getElem?_map] at hb'
      obtain ⟨p, hpi, rfl⟩ := Option.map_eq_some_iff.mp hb'
      rw [List.length_map] at hi
      have s2 : Same H (upd H1 X0 (.tup [.int (i : Int), .ref p])) := s1.trans (same_new hX)
      obtain ⟨xs, hxs, t1, t2, t3, t4⟩ := tupAt hpi
      refine ⟨X0, _, rfl, SqT.of upd_same, rfl, _, _, rfl, _, _, rfl, rfl, ?_⟩
      generalize upd H1 X0 (.tup [.int (i : Int), .ref p]) = H3 at s2 ⊢
      have mk : ∀ H4, Same H H4 → i ≤ 120 → (i = 120 ∨ deedB xs = false) → tMkO (ga K "BadProgram") (spInitX (ga K "BadProgram") "place") [] (tCons (tVar 1) tNil) [some (.ref l), some (.int (i : Int)), some (.ref p)] H4 (fun cls d H' => E cls d H') := fun H4 s4 i120 bad => by
        have eb : EBad K E i H := by
          rcases k with ⟨g, _⟩ | ⟨pl, fb, k⟩
          · exfalso
            obtain ⟨g1, g2⟩ := g
            rcases bad with z | z
            · omega
            · rw [g2 xs (List.mem_of_getElem? hxs)] at z
              cases z
          · have h1 := ip pl fb
            obtain ⟨f1, f2, f3, f4⟩ := fb
            have e : i = pl := by
              rcases Nat.lt_or_ge i pl with q | q
              · exfalso
                rcases bad with z | z
                · omega
                · rw [f3 i xs q hxs] at z
                  cases z
              · omega
            rw [e]; exact k
        refine ⟨_, rfl, by show 1 ≤ 1000; decide, fun a ha => ⟨a, (i : Int), rfl, upd_same, by show (i : Int).natAbs < 100000; omega, fun dx hn ne => ⟨rfl, dx, _, upd_same, by rw [upd_ne ne]; exact upd_same, by rw [upd_ne ne] at hn; exact hn, ?_⟩⟩⟩
        have hn' : H4 dx = none := by rw [upd_ne ne] at hn; exact hn
        refine eb dx _ (s4.trans fun b o eb => ?_) upd_same
        have nb : b ≠ dx := ne_of_none eb hn'
        have na : b ≠ a := ne_of_none eb ha
        rw [upd_ne nb, del_ne na, upd_ne na, upd_ne nb, upd_ne na]
        exact eb
      by_cases e1 : i = 120
      · refine ⟨_, rfl, rfl, _, rfl, if_t (decide_eq_true (by rw [e1]; rfl)) (if_t rfl ?_)⟩
        exact mk H3 s2 (by omega) (.inl e1)
      · refine ⟨_, rfl, rfl, _, rfl, if_f (decide_eq_false fun z => by have q := V.int.inj z; omega) ?_⟩
        have i120 : i < 120 := by
          rcases k with ⟨g, _⟩ | ⟨pl, fb, _⟩
          · have := g.1
            omega
          · have h1 := ip pl fb
            have := fb.2.1
            omega
        refine ⟨_, _, _, _, g_is_deed T, okg_deed T, by decide, _, rfl, p, xs, rfl, s2 _ _ t1, t2, t3, t4, fun H4 s4 => ?_⟩
        cases hd : deedB xs with
        | true =>
          refine ⟨_, rfl, if_f rfl ⟨⟨_, _, rfl, s2.trans s4⟩, fun pl fb => ?_⟩⟩
          have h1 := ip pl fb
          have ne : i ≠ pl := fun e => by
            rcases fb.2.2.2 with z | ⟨ys, z1, z2⟩
            · exact e1 (e.trans z)
            · rw [← e, hxs] at z1
              cases z1
              rw [hd] at z2
              cases z2
          omega
        | false => exact ⟨_, rfl, if_t rfl (mk H4 (s2.trans s4) (by omega) (.inr hd))⟩
    · rintro σ H' ⟨⟨_, _, rfl, s1⟩, ip⟩
      rw [List.length_map] at ip
      rcases k with ⟨_, k⟩ | ⟨pl, fb, _⟩
      · exact k _ s1
      · have h1 := ip pl fb
        have := fb.1
        omega
theorem okh_BadText_init (T : Tx w K mg) : DefOkH ⟨P, w, K, mg, base⟩ 1 (ma K (ga K "BadText") "__init__") ["self", "row"] (spInitX (ga K "BadText") "row") := by
  refine DefOkH.mk' (f_BadText_init T) sc_BadText_init (fun _ _ _ _ _ _ us hl => match us, hl with | [_, _], _ => rfl) (fun vs H Q E h => ?_) (fun cdv A outer s H vs Q E p hr h => ?_)
  · obtain ⟨a, i, rfl, _⟩ := h
    rfl
  · obtain ⟨a, i, rfl, ha, sm, k⟩ := h
    refine ⟨_, (pss_cons (ps_expr (pe_winit rfl (g_WhoError T) (x_cblt T) (pa_cons (pv 0) (pa_cons (pe_joined (PJ.cons pe_str (PJ.cons (pe_fmt (pv 1)) PJ.nil))) pa_nil)))) (pss_one (ps_ost (pv 0) (pv 1)))), ?_⟩
    obtain ⟨o1, o2, o3, o4⟩ := oex_C (x_oex_BadText T)
    obtain ⟨t1, t2⟩ := small_txt sm
    refine ⟨_, rfl, _, rfl, by rw [sizeLine_eq]; decide +kernel, _, rfl, .inr ⟨i, rfl, t1, _, rfl, ?_, ?_⟩⟩
    · rw [PySem.Str.length_append]
      have e0 : (Str.empty ++ ("no deed in row " : Str)).length ≤ 100 := by decide +kernel
      rw [sizeLine_eq]
      omega
    · exact ⟨a, _, _, rfl, (by show 1 ≤ 1000; decide), o1, ha, _, rfl, _, rfl, a, _, rfl, o1, o4, .inl ⟨ha, fun dx hn ne => k dx hn ne⟩⟩
end
end WK
/-! Texts of bounded rows. -/
namespace WK
open PySem PySem.Spec PyProof.Rows L2 He WB PySem.W TL
theorem spl_one {s : Nat} : ∀ (l acc : List Nat), (∃ a r, spl [s] 0 acc l = a :: r ∧ r.length ≤ l.length) ∧ ∀ w ∈ spl [s] 0 acc l, w.length ≤ acc.length + l.length ∧ ∀ c ∈ w, c ∈ acc ∨ c ∈ l
  | [], acc => by
    rw [spl_nil]
    exact ⟨⟨acc, [], rfl, Nat.le_refl _⟩, fun w hw => by rw [List.mem_singleton.mp hw]; exact ⟨by simp, fun c hc => .inl hc⟩⟩
  | c :: l, acc => by
    cases h : pre [s] (c :: l) with
    | true =>
      rw [spl_hit h]
      obtain ⟨⟨a, r, e, lr⟩, al⟩ := spl_one l []
      have e0 : [s].length - 1 = 0 := rfl
      rw [e0]
      refine ⟨⟨acc, _, rfl, by rw [e, List.length_cons, List.length_cons]; omega⟩, fun w hw => ?_⟩
      rcases List.mem_cons.mp hw with rfl | hw
      · exact ⟨by omega, fun c hc => .inl hc⟩
      · obtain ⟨h1, h2⟩ := al w hw
        exact ⟨by rw [List.length_nil] at h1; rw [List.length_cons]; omega, fun c hc => .inr (List.mem_cons_of_mem _ ((h2 c hc).resolve_left List.not_mem_nil))⟩
    | false =>
      rw [spl_miss h]
      obtain ⟨⟨a, r, e, lr⟩, al⟩ := spl_one l (acc ++ [c])
      refine ⟨⟨a, r, e, by rw [List.length_cons]; omega⟩, fun w hw => ?_⟩
      obtain ⟨h1, h2⟩ := al w hw
      rw [List.length_append, List.length_singleton] at h1
      refine ⟨by rw [List.length_cons]; omega, fun d hd => ?_⟩
      rcases h2 d hd with z | z
      · rcases List.mem_append.mp z with z | z
        · exact .inl z
        · exact .inr (by rw [List.mem_singleton.mp z]; exact List.mem_cons_self)
      · exact .inr (List.mem_cons_of_mem _ z)
/-- the words of a row -/
theorem words_of (r : Str) : (∃ w ps, Txt.split r " " = w :: ps ∧ ps.length ≤ r.length) ∧ ∀ w ∈ Txt.split r " ", w.length ≤ r.length ∧ ∀ c ∈ TL.tl w, c ∈ TL.tl r := by
  have e : (Txt.split r " ").map TL.tl = spl [32] 0 [] (TL.tl r) := split_spl r " " (by decide +kernel) (kind_ok (by decide +kernel))
  obtain ⟨⟨a, q, e1, lq⟩, al⟩ := spl_one (s := 32) (TL.tl r) []
  rw [e1] at e
  have lr : (TL.tl r).length = r.length := (TL.len_tl r).symm
  refine ⟨?_, fun w hw => ?_⟩
  · cases z : Txt.split r " " with
    | nil => rw [z] at e; cases e
    | cons w ps =>
      rw [z] at e
      obtain ⟨_, e2⟩ := List.cons.inj e
      refine ⟨w, ps, rfl, ?_⟩
      have := congrArg List.length e2
      rw [List.length_map] at this
      omega
  · have hm : TL.tl w ∈ spl [32] 0 [] (TL.tl r) := by rw [e1, ← e]; exact List.mem_map_of_mem hw
    obtain ⟨h1, h2⟩ := al _ hm
    rw [List.length_nil, Nat.zero_add, ← TL.len_tl, lr] at h1
    exact ⟨h1, fun c hc => (h2 c hc).resolve_left List.not_mem_nil⟩
/-- a text of at most n rows, none longer than m -/
def TextB (n m : Nat) (x : Str) : Prop := ∃ rows : List (List Nat), TL.tl x = joinL [10] rows ∧ rows ≠ [] ∧ rows.length ≤ n ∧ ∀ r ∈ rows, 10 ∉ r ∧ r.length ≤ m
theorem TextB.mono {n m n' m' : Nat} {x : Str} (h : TextB n m x) (h1 : n ≤ n') (h2 : m ≤ m') : TextB n' m' x := by
  obtain ⟨rows, a, b, c, d⟩ := h
  exact ⟨rows, a, b, Nat.le_trans c h1, fun r hr => ⟨(d r hr).1, Nat.le_trans (d r hr).2 h2⟩⟩
theorem TextB.len {n m : Nat} {x : Str} (h : TextB n m x) : x.length ≤ n * (m + 1) := by
  obtain ⟨rows, a, b, c, d⟩ := h
  have z := joinL_len (S := [10]) (b := m) (ps := rows) fun p hp => (d p hp).2
  rw [← a, ← TL.len_tl] at z
  exact Nat.le_trans z (Nat.mul_le_mul_right _ c)
theorem TextB.split {n m : Nat} {x : Str} (h : TextB n m x) : Txt.split x "\n" ≠ [] ∧ (Txt.split x "\n").length ≤ n ∧ ∀ r ∈ Txt.split x "\n", 10 ∉ TL.tl r ∧ r.length ≤ m := by
  obtain ⟨rows, a, b, c, d⟩ := h
  have e : (Txt.split x "\n").map TL.tl = rows := by
    rw [split_spl x "\n" (by decide +kernel) (kind_ok (by decide +kernel)), a]
    exact spl_join b fun p hp => (d p hp).1
  refine ⟨fun z => b (by rw [← e, z]; rfl), by rw [← e, List.length_map] at c; exact c, fun r hr => ?_⟩
  have hm : TL.tl r ∈ rows := by rw [← e]; exact List.mem_map_of_mem hr
  obtain ⟨h1, h2⟩ := d _ hm
  rw [← TL.len_tl] at h2
  exact ⟨h1, h2⟩
theorem TextB.join {n m : Nat} {ps : List Str} (hn : ps.length ≤ n) (n1 : 1 ≤ n) (h : ∀ r ∈ ps, 10 ∉ TL.tl r ∧ r.length ≤ m) : TextB n m (Txt.join "\n" ps) := by
  have e : TL.tl (Txt.join "\n" ps) = joinL [10] (ps.map TL.tl) := by rw [join_eq, tl_join]; rfl
  by_cases z : ps = []
  · subst z
    exact ⟨[[]], e, by simp, n1, fun r hr => by rw [List.mem_singleton.mp hr]; exact ⟨List.not_mem_nil, Nat.zero_le _⟩⟩
  · refine ⟨ps.map TL.tl, e, fun q => z (List.map_eq_nil_iff.mp q), by rw [List.length_map]; exact hn, fun r hr => ?_⟩
    obtain ⟨y, hy, rfl⟩ := List.mem_map.mp hr
    obtain ⟨h1, h2⟩ := h y hy
    rw [TL.len_tl] at h2
    exact ⟨h1, h2⟩
/-- rows of a list of signs, taken and dropped -/
theorem joinL_take {rows : List (List Nat)} {n m : Nat} (ne : rows ≠ []) (hn : rows.length ≤ n) (h : ∀ r ∈ rows, 10 ∉ r ∧ r.length ≤ m) (k : Nat) :
    (∃ q, (joinL [10] rows).take k = joinL [10] q ∧ q ≠ [] ∧ q.length ≤ n ∧ ∀ r ∈ q, 10 ∉ r ∧ r.length ≤ m) ∧ ∃ q, (joinL [10] rows).drop k = joinL [10] q ∧ q ≠ [] ∧ q.length ≤ n ∧ ∀ r ∈ q, 10 ∉ r ∧ r.length ≤ m := by
  induction rows generalizing n k with
  | nil => exact absurd rfl ne
  | cons p rest ih =>
    obtain ⟨p1, p2⟩ := h p List.mem_cons_self
    have tk : ∀ j, 10 ∉ p.take j ∧ (p.take j).length ≤ m := fun j => ⟨fun z => p1 (List.mem_of_mem_take z), by rw [List.length_take]; omega⟩
    have dk : ∀ j, 10 ∉ p.drop j ∧ (p.drop j).length ≤ m := fun j => ⟨fun z => p1 (List.mem_of_mem_drop z), by rw [List.length_drop]; omega⟩
    have one : ∀ {w : List Nat}, (10 ∉ w ∧ w.length ≤ m) → ∀ r ∈ [w], 10 ∉ r ∧ r.length ≤ m := fun {w} z r hr => by rw [List.mem_singleton.mp hr]; exact z
    rw [List.length_cons] at hn
    cases rest with
    | nil => exact ⟨⟨[p.take k], rfl, by simp, by simp; omega, one (tk k)⟩, ⟨[p.drop k], rfl, by simp, by simp; omega, one (dk k)⟩⟩
    | cons r2 rs =>
      have hr : ∀ r ∈ r2 :: rs, 10 ∉ r ∧ r.length ≤ m := fun r hr => h r (List.mem_cons_of_mem _ hr)
      have ej : joinL [10] (p :: r2 :: rs) = p ++ ([10] ++ joinL [10] (r2 :: rs)) := rfl
      rw [ej]
      rcases Nat.lt_or_ge k (p.length + 1) with lt | ge
      · have le : k ≤ p.length := by omega
        refine ⟨⟨[p.take k], ?_, by simp, by simp; omega, one (tk k)⟩, ⟨p.drop k :: r2 :: rs, ?_, by simp, by rw [List.length_cons]; exact hn, fun r hr2 => ?_⟩⟩
        · rw [List.take_append_of_le_length le]; rfl
        · rw [List.drop_append_of_le_length le]; rfl
        · rcases List.mem_cons.mp hr2 with rfl | z
          · exact dk k
          · exact hr r z
      · obtain ⟨j, rfl⟩ : ∃ j, k = p.length + (1 + j) := ⟨k - p.length - 1, by omega⟩
        obtain ⟨⟨q, q1, q2, q3, q4⟩, ⟨u, u1, u2, u3, u4⟩⟩ := ih (n := n - 1) (by simp) (by omega) hr j
        have et : (p ++ ([10] ++ joinL [10] (r2 :: rs))).take (p.length + (1 + j)) = p ++ ([10] ++ (joinL [10] (r2 :: rs)).take j) := by
          rw [List.take_append, List.take_append]
          simp [List.take_of_length_le]
        have ed : (p ++ ([10] ++ joinL [10] (r2 :: rs))).drop (p.length + (1 + j)) = (joinL [10] (r2 :: rs)).drop j := by
          rw [List.drop_append, List.drop_append]
          simp [List.drop_of_length_le]
        refine ⟨⟨p :: q, ?_, by simp, by rw [List.length_cons]; omega, fun r hr2 => ?_⟩, ⟨u, ed.trans u1, u2, by omega, u4⟩⟩
        · rw [et, q1]
          cases q with
          | nil => exact absurd rfl q2
          | cons a b => rfl
        · rcases List.mem_cons.mp hr2 with rfl | z
          · exact ⟨p1, p2⟩
          · exact q4 r z
theorem joinL_app {a b : List (List Nat)} {n1 n2 m1 m2 : Nat} (na : a ≠ []) (nb : b ≠ []) (la : a.length ≤ n1) (lb : b.length ≤ n2) (ha : ∀ r ∈ a, 10 ∉ r ∧ r.length ≤ m1) (hb : ∀ r ∈ b, 10 ∉ r ∧ r.length ≤ m2) :
    ∃ q, joinL [10] a ++ joinL [10] b = joinL [10] q ∧ q ≠ [] ∧ q.length ≤ n1 + n2 ∧ ∀ r ∈ q, 10 ∉ r ∧ r.length ≤ m1 + m2 := by
  induction a generalizing n1 with
  | nil => exact absurd rfl na
  | cons p rest ih =>
    obtain ⟨p1, p2⟩ := ha p List.mem_cons_self
    rw [List.length_cons] at la
    cases rest with
    | nil =>
      cases b with
      | nil => exact absurd rfl nb
      | cons r rs =>
        obtain ⟨r1, r2⟩ := hb r List.mem_cons_self
        refine ⟨(p ++ r) :: rs, ?_, by simp, by rw [List.length_cons] at lb ⊢; omega, fun z hz => ?_⟩
        · cases rs with
          | nil => rfl
          | cons _ _ =>
            show p ++ (r ++ _) = (p ++ r) ++ _
            rw [List.append_assoc]
        · rcases List.mem_cons.mp hz with rfl | hz
          · exact ⟨fun q => (List.mem_append.mp q).elim p1 r1, by rw [List.length_append]; omega⟩
          · obtain ⟨z1, z2⟩ := hb z (List.mem_cons_of_mem _ hz)
            exact ⟨z1, by omega⟩
    | cons r2 rs =>
      obtain ⟨q, q1, q2, q3, q4⟩ := ih (n1 := n1 - 1) (by simp) (by omega) fun r hr => ha r (List.mem_cons_of_mem _ hr)
      refine ⟨p :: q, ?_, by simp, by rw [List.length_cons]; omega, fun z hz => ?_⟩
      · cases q with
        | nil => exact absurd rfl q2
        | cons x y =>
          show (p ++ ([10] ++ joinL [10] (r2 :: rs))) ++ joinL [10] b = p ++ ([10] ++ joinL [10] (x :: y))
          rw [← q1, List.append_assoc, List.append_assoc]
      · rcases List.mem_cons.mp hz with rfl | hz
        · exact ⟨p1, by omega⟩
        · exact q4 z hz
theorem TextB.cut {n m : Nat} {x y : Str} (h : TextB n m x) (k : Nat) (e : TL.tl y = (TL.tl x).take k ∨ TL.tl y = (TL.tl x).drop k) : TextB n m y := by
  obtain ⟨rows, a, b, c, d⟩ := h
  obtain ⟨⟨q, q1, q2⟩, ⟨u, u1, u2⟩⟩ := joinL_take b c d k
  rcases e with e | e
  · exact ⟨q, by rw [e, a, q1], q2⟩
  · exact ⟨u, by rw [e, a, u1], u2⟩
theorem TextB.app {n1 n2 m1 m2 : Nat} {x y : Str} (h : TextB n1 m1 x) (g : TextB n2 m2 y) : TextB (n1 + n2) (m1 + m2) (x ++ y) := by
  obtain ⟨a, a1, a2, a3, a4⟩ := h
  obtain ⟨b, b1, b2, b3, b4⟩ := g
  obtain ⟨q, q1, q2⟩ := joinL_app a2 b2 a3 b3 a4 b4
  exact ⟨q, by rw [tl_append, a1, b1, q1], q2⟩
theorem TextB.sign {x : Str} (h : x.length ≤ 1) : TextB 2 1 x := by
  have l : (TL.tl x).length ≤ 1 := by rw [← TL.len_tl]; exact h
  match e : TL.tl x, l with
  | [], _ => exact ⟨[[]], e, by simp, by decide, fun r hr => by rw [List.mem_singleton.mp hr]; exact ⟨List.not_mem_nil, Nat.zero_le _⟩⟩
  | [c], _ =>
    by_cases z : c = 10
    · subst z
      exact ⟨[[], []], e, by simp, by decide, fun r hr => by
        have : r = [] := by simpa using hr
        rw [this]; exact ⟨List.not_mem_nil, Nat.zero_le _⟩⟩
    · exact ⟨[[c]], e, by simp, by simp, fun r hr => by rw [List.mem_singleton.mp hr]; exact ⟨fun q => z (List.mem_singleton.mp q).symm, Nat.le_refl _⟩⟩
theorem TextB.rowsT {n m : Nat} {x : Str} (h : TextB n m x) : (rowsT x).length ≤ n ∧ ∀ r ∈ rowsT x, r.length ≤ m := by
  obtain ⟨h1, h2, h3⟩ := h.split
  unfold WK.rowsT
  by_cases z : x.length = 0
  · rw [if_pos z]; exact ⟨Nat.zero_le _, fun r hr => absurd hr List.not_mem_nil⟩
  · rw [if_neg z]; exact ⟨h2, fun r hr => (h3 r hr).2⟩
end WK
/-! read of any text. -/
namespace WK
open PySem PySem.Spec PyProof.Rows L2 He WB PySem.W L2H
section
variable {P : Program} {w : World} {K : PySem.W.Frag} {mg : Str → Option Value} {base : Heap}
theorem shape_none (T : Tx w K mg) {x : Str} (h : shapeOfW x = none) : PySem.W.nsIn K (ga K "SHAPES") x = some none := by
  have e := x_keys_SHAPES T
  refine keysB_no (ks := ["make", "num", "copy", "drop", "put", "take", "cut", "watch", "last", "ask", "settle", "say"]) e fun hx => ?_
  have all : ∀ z ∈ (["make", "num", "copy", "drop", "put", "take", "cut", "watch", "last", "ask", "settle", "say"] : List Str), (shapeOfW z).isSome = true := by decide +kernel
  have := all x hx
  rw [h] at this
  cases this
theorem shW_any (T : Tx w K mg) (x : Str) : ShW K x ((shapeOfW x).getD []) := by
  cases h : shapeOfW x with
  | none => exact .inr ⟨shape_none T h, rfl⟩
  | some vs =>
    obtain ⟨p, a, _, c⟩ := shapesW_at T h
    exact .inl ⟨p, a, c⟩
theorem shape_few {x : Str} : ((shapeOfW x).getD []).length ≤ 3 := by
  cases h : shapeOfW x with
  | none => exact Nat.zero_le _
  | some vs =>
    have hm : (x, vs) ∈ shapeT := PySem.mem_of_lookup h
    have all : ∀ p ∈ shapeT, p.2.length ≤ 3 := by decide +kernel
    exact all _ hm
theorem xis_C {c : Str} (e : (Fx.xis c).ok K = true) : XfC K (ga K c) := by
  obtain ⟨h1, h2⟩ := ba e
  obtain ⟨h2, h3⟩ := ba h2
  obtain ⟨h3, h4⟩ := ba h3
  obtain ⟨h4, h5⟩ := ba h4
  exact ⟨eqO_ok h1, eqO_ok h2, of_decide_eq_true h3, h4⟩
def TupAt (H : Hp) (p : Addr) (xs : List V) : Prop := H p = some (.tup xs)
/-- BadText, its row told -/
def EBadT (K : PySem.W.Frag) (E : XK) (pl : Nat) (H : Hp) : Prop := ∀ d H', Same H H' → H' d = some (.xd [("row", .int (pl : Int))]) → E (.ref (ga K "BadText")) (some d) H'
def spReadX (K : PySem.W.Frag) : Sp := fun vs H Q E => ∃ (x : Str), vs = [.str x] ∧ TextB 5000 800 x ∧
  ((AllGood (progOf x) ∧ ∀ r ps H', Same H H' → H r = none → H' r = some (.lst (ps.map V.ref)) → Paired (TupAt H') ps (progOf x) → Q (.ref r) H') ∨ ∃ pl, FirstBad (progOf x) pl ∧ EBadT K E pl H)
theorem okx_read (T : Tx w K mg) : DefOkX ⟨P, w, K, mg, base⟩ 6 (ga K "read") ["text"] (spReadX K) := by
  refine DefOkX.mk' (f_read T) sc_read (fun _ _ _ _ _ _ us hl => match us, hl with | [_], _ => rfl) (fun vs H Q E h => ?_) (fun cdv A outer s H vs Q E hr h => ?_)
  · obtain ⟨x, rfl, _⟩ := h
    rfl
  · obtain ⟨x, rfl, tb, k⟩ := h
    have hu := hu_of hr
    obtain ⟨y1, y2, y3, y4⟩ := oex_C (x_oex_BadText T)
    have C0 := xis_C (x_xis_BadProgram T)
    have XF : XfC K (ga K "BadProgram") := C0
    have hno := (oex_C (x_oex_BadProgram T)).2.2.2
    refine ⟨_, (pss_cons (ps_set (i := 1) sc_read.nd rfl (Or.inl rfl) (pe_ifExp (pt_truth (pv 0) (by intro _; rfl)) (pe_split (pv 0) pe_str) (pe_lst pa_nil))) (pss_cons (ps_setLc (i := 3) (own := [("row", 2)]) (g := (gName 2)) rfl sc_read.nd rfl rfl (sw_true rfl rfl rfl (by decide +kernel)) (pi_list (pv 1)) (blkOk_by (own := [("row", 2)]) (N := ["text", "rows", "row", "program", "found"]) (sc := defScope s_read) (by decide +kernel)) (fun _ _ _ _ _ => (pg_name (i := 2) sc_read.nd rfl (Or.inl rfl))) (fun _ _ _ _ _ => by exact pts_nil) (fun _ _ _ _ _ => by exact (pe_cg (M := ⟨P, w, K, mg, base⟩) rfl hr rfl (pa_cons (pv 2) pa_nil)))) (pss_cons (ps_try_asX (i := 4) (c := .ref (ga K "BadProgram")) (tb := fun W => tDrop (tCGN ⟨P, w, K, mg, base⟩ _ "check_program" W (tCons (tVar 3) tNil))) rfl rfl rfl sc_read.nd rfl rfl ⟨rfl, by decide, .inl (g_BadProgram T)⟩ (L2H.passesAt_of rfl) (takes_of rfl rfl rfl rfl) (fun W pn xe tk _ => pss_one (ps_expr (pe_cgN (M := ⟨P, w, K, mg, base⟩) rfl hr tk rfl (pa_cons (pv 3) pa_nil)))) (fun a oe cls d pn E2 hz hf tk hc => pss_one (ps_raiseHN hc tk (pmkH_oexD (M := ⟨P, w, K, mg, base⟩) rfl y1 y2 y3 (okh_BadText_init T) ((roomH_mark hr (some (.ref a))).mono (by decide)) hc rfl (g_BadText T) (pa_cons (pe_nox (pe_xf XF hno hz.zc hf (pv 4))) pa_nil))))) (pss_one (ps_ret (pv 3)))))), ?_⟩
    have lx : x.length + 2 ≤ sizeLine := by
      have := tb.len
      exact Nat.le_trans (show _ ≤ 5000 * (800 + 1) + 2 by omega) (by decide)
    obtain ⟨lr, rb⟩ := tb.rowsT
    refine asgRE (fun v H' => ∃ R, v = .ref R ∧ Same H H' ∧ H' R = some (.lst ((rowsT x).map V.str))) (fun Y kY => ?_) ?_
    · refine ⟨_, rfl, _, ⟨by omega, rfl⟩, ?_⟩
      by_cases z : x.length = 0
      · refine if_f (by simp [z]) ⟨by show 0 ≤ sizeLine; decide, fun R hR => kY _ _ ⟨R, rfl, same_new hR, by rw [upd_same]; unfold rowsT; rw [if_pos z]; rfl⟩⟩
      · refine if_t (by simpa using z) ⟨_, rfl, ⟨_, rfl⟩, x, "\n", rfl, rfl, by decide, lx, fun R hR => kY _ _ ⟨R, rfl, same_new hR, by rw [upd_same]; unfold rowsT; rw [if_neg z]⟩⟩
    rintro v H1 ⟨R, rfl, s1, gR⟩
    refine ⟨_, rfl, R, rfl, ⟨_, SqL.of gR⟩, fun D hD => ?_⟩
    have lpr : (progOf x).length = (rowsT x).length := List.length_map _
    refine lc_list (K := K) (a := R) (xs := (rowsT x).map V.str) (fun i H' => Same H1 H' ∧ ∃ ps : List Addr, H' D = some (.lst (ps.map V.ref)) ∧ Paired (TupAt H') ps ((progOf x).take i)) ⟨same_new hD, [], upd_same, .nil⟩ (fun i H' _ h => SqL.of (h.1 _ _ gR)) ?_ ?_
    · rintro i v H2 hi ⟨s2, ps, g2, p2⟩
      rw [List.getElem?_map] at hi
      obtain ⟨row, hri, rfl⟩ := Option.map_eq_some_iff.mp hi
      have il := (List.getElem?_eq_some_iff.mp hri).1
      have lrow := rb row (List.mem_of_getElem? hri)
      obtain ⟨⟨wd, wps, spl, lw⟩, _⟩ := words_of row
      have hpi : (progOf x)[i]? = some (tupOf row) := by show ((rowsT x).map tupOf)[i]? = _; rw [List.getElem?_map, hri]; rfl
      have lp := Paired.length p2
      rw [List.length_take] at lp
      have et : tupOf row = rowV ((shapeOfW wd).getD []) (wd :: wps) := by unfold tupOf; rw [spl]; rfl
      refine ⟨rfl, _, _, _, _, g_deed_of T, ok_deed_of T, by decide, _, rfl, row, wd, wps, (shapeOfW wd).getD [], rfl, Nat.le_trans (show _ ≤ 802 by omega) (by decide), spl, by omega, by have := shape_few (x := wd); omega, shW_any T wd, fun q H3 s3 nq gq => ?_⟩
      have s5 : Same H1 (upd H3 D (.lst (ps.map V.ref ++ [V.ref q]))) := same_mut (s2.trans s3) hD
      have g3 := s3 _ _ g2
      have tpD : Tup H3 (upd H3 D (.lst (ps.map V.ref ++ [V.ref q]))) := tup_upd (by rw [g3]; intro xs z; cases z; rfl)
      refine ⟨_, g3, Nat.lt_of_le_of_lt (show _ ≤ 5000 by rw [List.length_map]; omega) (by decide), s5, ps ++ [q], by rw [upd_same, List.map_append]; rfl, ?_⟩
      rw [WB.take_snoc hpi]
      exact Paired.app (Paired.imp (fun p xs z => tpD _ _ (s3 _ _ z)) p2) (.cons (tpD _ _ (by rw [gq, et])) .nil)
    · rintro H2 ⟨s2, ps, g2, p2⟩
      rw [List.length_map, ← lpr, List.take_length] at p2
      have lp := Paired.length p2
      have s12 := s1.trans s2
      have tupf : ∀ {p : Addr} {xs : List V}, TupAt H2 p xs → xs ∈ progOf x → TupF K H2 p xs := fun {p xs} h hm => by
        obtain ⟨row, hr, rfl⟩ := List.mem_map.mp hm
        have lrow := rb row hr
        obtain ⟨⟨wd, wps, spl, lw⟩, _⟩ := words_of row
        have et : tupOf row = rowV ((shapeOfW wd).getD []) (wd :: wps) := by unfold tupOf; rw [spl]; rfl
        refine ⟨h, by rw [et]; exact rowV_flat _ _, by rw [et, rowV_len]; omega, fun y ys e hy => ?_⟩
        exact shape_none T hy
      have pF : Paired (TupF K H2) ps (progOf x) := by
        have mk : ∀ {as : List Addr} {bs : List (List V)}, Paired (TupAt H2) as bs → (∀ b ∈ bs, b ∈ progOf x) → Paired (TupF K H2) as bs := fun h => by
          induction h with
          | nil => exact fun _ => .nil
          | cons a b ih => exact fun hm => .cons (tupf a (hm _ List.mem_cons_self)) (ih fun b hb => hm b (List.mem_cons_of_mem _ hb))
        exact mk p2 fun _ h => h
      refine ⟨_, _, _, _, g_check_program T, okn_check_program T, by decide, _, rfl, D, ps, progOf x, rfl, SqL.of g2, pF, ?_⟩
      rcases k with ⟨ag, k⟩ | ⟨pl, fb, k⟩
      · refine .inl ⟨ag, fun H3 s3 => ?_⟩
        exact ⟨_, rfl, k D ps H3 (s12.trans s3) (s1.free hD) (s3 _ _ g2) (Paired.imp (fun p xs z => s3 _ _ z) p2)⟩
      · refine .inr ⟨pl, fb, fun d H3 s3 gd => ⟨of_decide_eq_true (x_exm_self T), fun a na => ?_⟩⟩
        have pls : pl ≤ 120 := fb.2.1
        refine ⟨_, rfl, rfl, rfl, d, _, _, rfl, gd, rfl, ?_⟩
        refine ⟨by show 1 ≤ 1000; decide, fun b hb => ⟨b, (pl : Int), rfl, upd_same, by show (pl : Int).natAbs < 100000; omega, fun dx hn ne => ⟨rfl, dx, _, upd_same, by rw [upd_ne ne]; exact upd_same, by rw [upd_ne ne] at hn; exact hn, ?_⟩⟩⟩
        have hn' : H3 dx = none := by rw [upd_ne ne] at hn; exact hn
        refine k dx _ ((s12.trans s3).trans fun c o ec => ?_) upd_same
        have nb : c ≠ dx := ne_of_none ec hn'
        have na : c ≠ b := ne_of_none ec hb
        rw [upd_ne nb, del_ne na, upd_ne na, upd_ne nb, upd_ne na]
        exact ec
end
end WK
/-! isinstance(e, (C, ..)) of an error with a dict, of a class that is none of these. -/
namespace WB
open PySem PySem.Spec PySem.Calls PyProof.Rows PySem.W L2 He
theorem kitAny_no {K : PySem.W.Frag} {t : Value} : ∀ {cs : List Addr}, (∀ c ∈ cs, PySem.W.kitOne K t (.ref c) = some false) → PySem.W.kitAny K t (cs.map Value.ref) = some false
  | [], _ => rfl
  | c :: r, h => by
    have h1 := h c List.mem_cons_self
    have h2 := kitAny_no (cs := r) fun z hz => h z (List.mem_cons_of_mem _ hz)
    rw [List.map_cons]
    unfold PySem.W.kitAny
    rw [h1]
    exact h2
def rIsEDT (K : PySem.W.Frag) (D a d : Addr) : List V → Hp → VK → Prop := fun xs H Q => ∃ (p : Addr) (cs : List Addr) (fs : List (Str × V)), xs = [.ref a, .ref p] ∧ H p = some (.tup (cs.map V.ref)) ∧ (∀ c ∈ cs, PySem.W.kitOne K (.ref D) (.ref c) = some false) ∧ H d = some (.xd fs) ∧ Q (.bl false) H
theorem call_isEDT {X : Cx} {a D d : Addr} {oe : Obj} {pn : List (Addr × Obj)} (C : ExcC X.K D) (hz : Zc (.ref D) (some d) oe) (hf : ∃ vs, oe.data = .fields vs) : CallR (X.suite a ((a, oe) :: pn)) (.builtin "isinstance") (rIsEDT X.K D a d) := by
  intro pins s σ H xs us Q I r h
  obtain ⟨p, cs, fs, rfl, hp, no, hx, q⟩ := h
  cases r with
  | cons rx rr =>
    cases rr with
    | cons rt rr =>
      cases rr
      cases rx
      cases rt
      obtain ⟨its, rv, pt, _⟩ := I.tuple (SqT.of hp)
      have ei : its = cs.map Value.ref := refs_at rv
      subst ei
      obtain ⟨⟨oc, od, dt, sl⟩, ho, hc, n, hd⟩ := pt
      dsimp only at hc hd
      subst hc hd
      obtain ⟨hget, _⟩ := I.pin (a, oe) (List.mem_append.mpr (.inl List.mem_cons_self))
      obtain ⟨vs, hv⟩ := hf
      have ox : ObjOk X.prog X.w H s.heap d (.xd fs) := I.hok d _ hx
      obtain ⟨mA, hns, hr⟩ := ox
      obtain ⟨o2, ho2, hl⟩ := lookIn_ns hns
      have J : PySem.W.InstAt s.heap a oe D (some o2) := ⟨hget, hz.1, by unfold PySem.W.notCls; rw [hv] <;> rfl, by rw [hz.2]; exact ho2⟩
      obtain ⟨cd, hcd, _⟩ := any_some C.hd
      exact PySem.W.kia_tup (PySem.W.kitx_exc (by rw [hcd]; rfl) C.hg C.hk C.hs C.ha C.hn C.ht C.hm) I.kIn J ho (kitAny_no no) (fun z => nomatch z) fun tk => ⟨.bl false, H, I.kept (t' := tk) fun _ _ z => z, rfl, q⟩
end WB
/-! list(d.values()): a new list of a dict's values. -/
namespace WB
open PySem PySem.Calls PyProof.Rows PyProof.V PySem.Spec L2 He PySem.W
def tListVals (td : TE) : TE := fun σ H Q => td σ H fun x H1 => ∃ d kvs, x = .ref d ∧ H1 d = some (.dK kvs) ∧ ∀ p, H1 p = none → Q (.ref p) (upd H1 p (.lst (kvs.map (·.2))))
section
variable {X : Cx} {e : Expr} {te : TE} {p p2 cpos pos apos : Pos}
theorem pe_listVals (hc : X.calm = true) (he : PE X e te) (hg : Gl X "list") (hm : X.mg "list" = none)
    (hs : starEach [.Call (.Attribute e "values" apos) [] [] cpos] X.env = (false, eval (.Call (.Attribute e "values" apos) [] [] cpos) X.env) :: starEach [] X.env := by rfl)
    (hbase : attributeBase e "values" X.env (eval e X.env) = eval e X.env := by rfl) (hline : (apos.endLine == cpos.line) = true := by rfl) :
    PE X (.Call (.Name "list" p) [.Call (.Attribute e "values" apos) [] [] cpos] [] pos) (tListVals te) := by
  refine ⟨fun pins s σ H Q I hq => ?_⟩
  refine wpAny_Call_Name_kw (ld_blt I hg hm PyProof.Rows.boot_list ?_)
  refine PyProof.Rows.callWith_type1 ?_ hs rfl
  rw [hs]
  show wpAny _ _ (spliced ((false, eval (.Call (.Attribute e "values" apos) [] [] cpos) X.env) :: backTo pos (starEach [] X.env))) _ _ s
  refine Calls.spliced_cons ?_
  refine wpAny_Call_method (T := "dict") (id := "dict.values") hbase rfl hline F.plainAttrs_dict F.slot_dict_values F.type_dict_values (thn (he.run pins s σ H _ I hq) fun u s1 ⟨y, H1, I1, rx, d, kvs, ex, hd, k⟩ => ?_)
  subst ex
  obtain rfl : u = Value.ref d := rx
  obtain ⟨hz, hs0, vs, kv, hdo⟩ := I1.hok d _ hd
  refine ⟨hdo.typeIs, hdo.mapOf.noDict, ?_⟩
  show wpAny _ _ (callWith cpos (.builtin "dict.values") [.ref d] [] []) _ X.xe s1
  refine method_meetsIn F.slot_dict_values F.entry_dict_values rfl (PySem.evalArgs_none ⟨rfl, hdo.typeIs, F.args_dict_values_1 _, _, meets_dict_values (mixKind X.prog X.w) d hs0, ⟨vs, hdo⟩, ?_⟩)
  refine Calls.spliced_nil ?_
  obtain ⟨es, ep, hraw, hsz, hval⟩ := hdo.raw
  have hvw : (s1.heap.push { cls := .type "dict_values", data := .fields #[.ref d] }).get? s1.heap.objs.size = some { cls := .type "dict_values", data := .fields #[.ref d] } := Heap.get?_push_size _ rfl
  have lk : kvs.length = vs.length := Paired.length kv
  have ll : d < s1.heap.objs.size := by
    obtain ⟨o, ho, _⟩ := hraw
    exact Heap.lt_size ho
  have hraw1 : (s1.heap.push { cls := .type "dict_values", data := .fields #[.ref d] }).DictRaw d es ep := by
    obtain ⟨o, ho, h1, h2⟩ := hraw
    exact ⟨o, Heap.get?_push_of_some _ ho, h1, h2⟩
  refine kdl_call (PySem.KdlSrc.rawValues (d := d) (r := s1.heap.objs.size) (es := es) (ep := ep)) (I1.ok.hd hc) ⟨⟨_, hvw, rfl, rfl⟩, hraw1⟩ (by omega) fun h' tk acc c hk hS hit => ?_
  generalize eS : (s1.heap.push { cls := .type "dict_values", data := .fields #[.ref d] }).objs.size = S at hS ⊢
  have hS0 : s1.heap.objs.size ≤ S := by rw [← eS, Heap.size_push]; exact Nat.le_succ _
  have hk' : ∀ b o, s1.heap.get? b = some o → h'.get? b = some o := fun b o q => hk b o (Heap.get?_push_of_some _ q)
  have ea : acc.toList = vs.map (·.2) := by
    obtain ⟨z1, z2⟩ := hit
    refine List.ext_getElem? fun j => ?_
    by_cases hj : j < vs.length
    · have hj2 : j < acc.size := by omega
      rw [List.getElem?_map, List.getElem?_eq_getElem hj, Array.getElem?_toList, Array.getElem?_eq_getElem hj2]
      obtain ⟨hi, e⟩ := z2 j _ (Array.getElem?_eq_getElem hj2)
      have := (hval j hi vs[j].1 vs[j].2 (List.getElem?_eq_getElem hj)).2
      rw [e, this]; rfl
    · rw [List.getElem?_eq_none (by rw [Array.length_toList]; omega), List.getElem?_eq_none (by rw [List.length_map]; omega)]
  have frS : H1 S = none := I1.hok.fresh hS0
  have rv : Vals (kvs.map (·.2)) acc.toList := by
    rw [ea]
    clear hval hsz hit ea hk hk' hd hdo lk hz k
    induction kv with
    | nil => exact .nil
    | cons r _ ih => exact .cons r.2 ih
  refine ⟨.ref S, upd H1 S (.lst (kvs.map (·.2))), ?_, rfl, k S frS⟩
  refine I1.call' (ch := []) rfl ⟨fun b o q _ _ _ => hk' b o q, fun b o q _ _ _ => ⟨o.slots, hk' b o q⟩, fun b o q n _ => ?_, fun b o q _ => ⟨o, hk' b o q⟩, fun b xs q => ?_, fun b o u q => ?_, fun b ps q => ⟨#[], by rw [show upd H1 S (.lst (kvs.map (·.2))) b = some _ from by rw [upd_ne (fun z => by rw [z, frS] at q; cases q)]; exact q]; simp⟩⟩ (fun b u q => ?_) I1.bare fun b z => by simp at z
  · have nb : b ≠ S := fun z => absurd (Heap.lt_size q) (Nat.not_lt.mpr (by rw [z]; exact hS0))
    rw [upd_ne nb]
    exact n
  · rw [upd_ne (fun z => by rw [z, frS] at q; cases q)]; exact q
  · rw [upd_ne (fun z => by rw [z, frS] at q; cases q)]; exact q
  · by_cases hb2 : b = S
    · rw [hb2] at q ⊢
      rw [upd_same] at q
      cases q
      refine ⟨by rw [List.length_map]; exact hz, acc.toList, c, rv, ?_⟩
      rw [Array.toArray_toList]
      exact hS
    · rw [upd_ne hb2] at q
      exact (I1.hok b u q).stay (fun d v _ y => hk' d v y) (fun d y => by rw [upd_ne (fun z => by rw [z, frS] at y; cases y)]; exact y) fun d xs y => by rw [upd_ne (fun z => by rw [z, frS] at y; cases y)]; exact y
end
end WB
/-! sorted(d.values()), the values ints; d.update(d2). -/
namespace WB
open PySem PySem.Calls PyProof.Rows PyProof.V PySem.Spec L2 He PySem.W
def tSortVals (td : TE) : TE := fun σ H Q => td σ H fun x H1 => ∃ (d : Addr) (kvs : List (Key × V)) (ns : List Int), x = .ref d ∧ H1 d = some (.dK kvs) ∧ kvs.map (·.2) = ns.map V.int ∧
  ∀ (ys : List Int) (p : Addr), ys.Perm ns → ys.Pairwise (· ≤ ·) → H1 p = none → Q (.ref p) (upd H1 p (.lst (ys.map V.int)))
section
variable {X : Cx} {e : Expr} {te : TE} {p p2 cpos pos apos : Pos}
theorem pe_sortVals (hc : X.calm = true) (he : PE X e te) (hg : Gl X "sorted") (hm : X.mg "sorted" = none)
    (hs : starEach [.Call (.Attribute e "values" apos) [] [] cpos] X.env = (false, eval (.Call (.Attribute e "values" apos) [] [] cpos) X.env) :: starEach [] X.env := by rfl)
    (hbase : attributeBase e "values" X.env (eval e X.env) = eval e X.env := by rfl) (hline : (apos.endLine == cpos.line) = true := by rfl) :
    PE X (.Call (.Name "sorted" p) [.Call (.Attribute e "values" apos) [] [] cpos] [] pos) (tSortVals te) := by
  refine ⟨fun pins s σ H Q I hq => ?_⟩
  refine wpAny_Call_Name_kw (ld_blt I hg hm (by rfl : bootBuiltins ("sorted" : Str) = some (.builtin "sorted")) ?_)
  refine PyProof.Rows.callWith_builtin1 ?_ hs rfl
  rw [hs]
  show wpAny _ _ (spliced ((false, eval (.Call (.Attribute e "values" apos) [] [] cpos) X.env) :: backTo pos (starEach [] X.env))) _ _ s
  refine Calls.spliced_cons ?_
  refine wpAny_Call_method (T := "dict") (id := "dict.values") hbase rfl hline F.plainAttrs_dict F.slot_dict_values F.type_dict_values (thn (he.run pins s σ H _ I hq) fun u s1 ⟨y, H1, I1, rx, d, kvs, ns, ex, hd, hns, k⟩ => ?_)
  subst ex
  obtain rfl : u = Value.ref d := rx
  obtain ⟨hz, hs0, vs, kv, hdo⟩ := I1.hok d _ hd
  refine ⟨hdo.typeIs, hdo.mapOf.noDict, ?_⟩
  show wpAny _ _ (callWith cpos (.builtin "dict.values") [.ref d] [] []) _ X.xe s1
  refine method_meetsIn F.slot_dict_values F.entry_dict_values rfl (PySem.evalArgs_none ⟨rfl, hdo.typeIs, F.args_dict_values_1 _, _, meets_dict_values (mixKind X.prog X.w) d hs0, ⟨vs, hdo⟩, ?_⟩)
  refine Calls.spliced_nil ?_
  obtain ⟨es, ep, hraw, hsz, hval⟩ := hdo.raw
  have hvw : (s1.heap.push { cls := .type "dict_values", data := .fields #[.ref d] }).get? s1.heap.objs.size = some { cls := .type "dict_values", data := .fields #[.ref d] } := Heap.get?_push_size _ rfl
  have lk : kvs.length = vs.length := Paired.length kv
  have hraw1 : (s1.heap.push { cls := .type "dict_values", data := .fields #[.ref d] }).DictRaw d es ep := by
    obtain ⟨o, ho, h1, h2⟩ := hraw
    exact ⟨o, Heap.get?_push_of_some _ ho, h1, h2⟩
  have ln : ns.length = vs.length := by rw [← lk]; have := congrArg List.length hns; rw [List.length_map, List.length_map] at this; exact this.symm
  have les : es.size = ns.length := by omega
  refine Calls.call_function_entry kind_sorted plain_sorted entry_sorted (args_sorted1 _) ?_
  unfold Builtin.«sorted»
  refine wpAny_bind (m := checkCount "sorted" 1 1 _) (wpAny_pure ?_)
  refine wpAny_bind (PySem.W.kdu_collect (A := X.A.in1) (PySem.KdlSrc.rawValues (d := d) (r := s1.heap.objs.size) (es := es) (ep := ep)) (I1.ok.hd hc) ⟨⟨_, hvw, rfl, rfl⟩, hraw1⟩ (by omega) fun h1 tk acc hk ha => ?_)
  have la : acc.toList.length = ns.length := by rw [Array.length_toList, ha.1, les]
  have hS : IntsAre acc.toList ns := ints_each la fun j v ej => by
    obtain ⟨hi, e1⟩ := ha.2 j v (by rw [← Array.getElem?_toList]; exact ej)
    have hj : j < vs.length := by omega
    have e2 := (hval j hi vs[j].1 vs[j].2 (List.getElem?_eq_getElem hj)).2
    obtain ⟨q, f1, f2, f3⟩ := LiI.paired_get kv (List.getElem?_eq_getElem (show j < kvs.length by omega))
    rw [List.getElem?_eq_getElem hj] at f1
    cases f1
    have e3 : kvs[j].2 = V.int ns[j] := by
      have := congrArg (fun l : List V => l[j]?) hns
      simp only [List.getElem?_map] at this
      rw [List.getElem?_eq_getElem (show j < kvs.length by omega), List.getElem?_eq_getElem (show j < ns.length by omega)] at this
      exact Option.some.inj this
    rw [e3] at f3
    obtain ⟨t, ht⟩ := f3
    exact ⟨ns[j], t, List.getElem?_eq_getElem (show j < ns.length by omega), by rw [e1, e2]; exact ht⟩
  have I2 : Inv X pins σ H1 { s1 with heap := h1, toks := tk } := I1.kept fun b o q => hk b o (Heap.get?_push_of_some _ q)
  have la2 : acc.toList.length ≤ sizeLine := by omega
  refine wpAny_bind (wpAny_newList ?_ la2)
  have hoL : (h1.push (seqObj "list" acc.toList.toArray 0)).get? h1.objs.size = some (seqObj "list" acc.toList.toArray 0) := Heap.get?_push_size _ rfl
  show wpAny _ _ _ _ _ { s1 with heap := h1.push (seqObj "list" acc.toList.toArray 0), toks := tk }
  refine wpAny_bind (wpAny_holding (wpAny_call_entry slot_list_sort ⟨_, hoL, rfl⟩ entry_list_sort
    (SrtO.list_sort_ord (s := { s1 with heap := h1.push (seqObj "list" acc.toList.toArray 0), toks := tk }) SrtO.swo_int hoL la2 (fun h2 => SrtO.ints_sortable hS h2) fun out e1 e2 => ⟨_, rfl, ?_⟩) (args_list_sort _)))
  obtain ⟨k1, k2, k3⟩ := SrtO.ints_out hS e1 e2
  obtain ⟨e', he'⟩ := sortedHeap_at (vs := acc.toList) (out := out.toArray) hoL
  have lo2 : ((out.map SrtO.iv).map V.int).length ≤ sizeLine := by
    rw [List.length_map, k2.length_eq]; omega
  refine wpAny_pure ⟨_, rfl, .ref h1.objs.size, upd H1 h1.objs.size (.lst ((out.map SrtO.iv).map V.int)), I2.laid (t' := tk) (fun b u e => ?_) (Nat.le_refl _)
    (show ObjOk X.prog X.w _ _ _ (.lst ((out.map SrtO.iv).map V.int)) from ⟨lo2, out, e', vals_of_ints k1, he'⟩), rfl, k _ _ k2 k3 (I2.hok.fresh (Nat.le_refl _))⟩
  have hlt : b < h1.objs.size := Heap.lt_size e
  rw [sortedHeap_old (Nat.ne_of_lt hlt) (by rw [size_push']; exact Nat.lt_succ_of_lt hlt)]
  exact Heap.get?_push_of_some _ e
end
/-- d.update(d2) -/
def tDUpd (td ty : TE) : TE := fun σ H Q => td σ H fun x H1 => ∃ a, x = .ref a ∧ IsD H1 a ∧ ty σ H1 fun y H2 => ∃ (b : Addr) (kvs more : List (Key × V)), y = .ref b ∧ H2 a = some (.dK kvs) ∧ H2 b = some (.dK more) ∧ a ≠ b ∧ kvs.length + more.length ≤ sizeLine ∧ Q .non (upd H2 a (.dK (mergeK kvs more)))
section
variable {X : Cx} {o e : Expr} {apos cpos : Pos} {td ty : TE}
theorem pe_dupd (ho : PE X o td) (he : PE X e ty) (m : M1 X o "update" apos e cpos) : PE X (.Call (.Attribute o "update" apos) [e] [] cpos) (tDUpd td ty) := by
  refine ⟨fun pins s σ H Q I h => ?_⟩
  refine wpAny_Call_method m.base m.few m.line PySem.F.plainAttrs_dict PySem.F.slot_dict_update PySem.F.type_dict_update (thn (ho.run pins s σ H _ I h) fun u s1 ⟨x, H1, I1, rx, a, ex, d, q1⟩ => ?_)
  subst ex
  obtain rfl : u = Value.ref a := rx
  obtain ⟨t1, t2, _⟩ := isD_at I1 d
  refine ⟨t1, t2, ?_⟩
  rw [m.trees]
  refine Calls.callWith_builtin rfl (Calls.evalArgs_plain (Calls.spliced_cons (thn (he.run pins s1 σ H1 _ I1 q1) fun iv s2 ⟨y, H2, I2, ry, b, kvs, more, ey, ea, eb, ne, hz, q2⟩ => Calls.spliced_nil ?_)))
  subst ey
  obtain rfl : iv = Value.ref b := ry
  obtain ⟨z, hd, vs, rel, dd⟩ := dk_of I2.hok ea
  obtain ⟨z', hd', vs', rel', dd'⟩ := dk_of I2.hok eb
  refine call_meetsIn PySem.F.slot_dict_update dd.typeIs PySem.F.entry_dict_update (PySem.F.args_dict_update_2 _ _) (meets_dict_update (mixKind X.prog X.w) a b ne hd')
    ⟨vs, vs', dd, dd', by rw [← rel.length, ← rel'.length]; exact hz, fun h' d1 d2 hs => ⟨.non, upd H2 a (.dK (mergeK kvs more)), ?_, rfl, q2⟩⟩
  have he : ∃ q, h'.get? a = some q := let ⟨q, _, _, hq, _⟩ := d1; ⟨q, hq⟩
  exact d_write (t' := s2.toks) I2 (by rw [ea]; exact True.intro) hs he (dk_new (Nat.le_trans (length_mergeK more kvs) hz) hd (KV.merge rel' rel) d1)
end
end WB
/-! list(x) of a text. -/
namespace WB
open PySem PySem.Spec PySem.Calls PyProof.Rows PySem.W L2 He
/-- a text's signs, each a text -/
def signV (x : Str) : List V := x.cps.toList.map fun (c : Nat) => V.str ⟨#[c]⟩
theorem call_listStr {X : Cx} (hc : X.calm = true) : CallR X (.type "list") (fun xs H Q => ∃ x : Str, xs = [.str x] ∧ x.length ≤ sizeLine ∧ ∀ l, H l = none → Q (.ref l) (upd H l (.lst (signV x)))) := by
  intro pins s σ H xs us Q I r hh
  obtain ⟨x, rfl, lx, q⟩ := hh
  obtain ⟨u, rfl, rx⟩ := vals1 r
  obtain ⟨t, rfl⟩ := rx
  refine call_list_str (I.ok.hd hc) x t (hn := lx) fun h' tk acc c kp e hi => ?_
  have la : acc.toList.length = x.cps.toList.length := by rw [Array.length_toList, Array.length_toList]; exact hi.1
  have rv : Vals (signV x) acc.toList := by
    unfold signV
    have key : ∀ (us : List Value) (cs : List Nat), us.length = cs.length → (∀ (j : Nat) (v : Value), us[j]? = some v → ∃ d t, cs[j]? = some d ∧ v = Value.str ⟨#[d]⟩ t) → Vals (cs.map fun (d : Nat) => V.str ⟨#[d]⟩) us := by
      intro us
      induction us with
      | nil =>
        intro cs hl _
        cases cs with
        | nil => exact .nil
        | cons _ _ => cases hl
      | cons v us ih =>
        intro cs hl hh
        cases cs with
        | nil => cases hl
        | cons d cs =>
          refine .cons ?_ (ih cs (Nat.succ.inj hl) fun j v hv => hh (j + 1) v hv)
          obtain ⟨d', t, e1, e2⟩ := hh 0 v rfl
          cases e1
          exact ⟨t, e2⟩
    exact key _ _ la fun j v hv => by
      obtain ⟨d, t, e1, e2⟩ := hi.2 j v (by rw [← Array.getElem?_toList]; exact hv)
      exact ⟨d, t, by rw [Array.getElem?_toList]; exact e1, e2⟩
  have fre : H s.heap.objs.size = none := I.hok.fresh (Nat.le_refl _)
  refine ⟨.ref s.heap.objs.size, upd H s.heap.objs.size (.lst (signV x)), I.laid (t' := tk) kp (Nat.le_refl _) ⟨?_, acc.toList, c, rv, by rw [Array.toArray_toList]; exact e⟩, rfl, q _ fre⟩
  unfold signV
  rw [List.length_map, Array.length_toList]
  exact lx
end WB
/-! What the law makes of read. -/
namespace WK
open PySem PySem.Spec PyProof.Rows L2 He WB PySem.W L2H
section
variable {P : Program} {w : World} {K : PySem.W.Frag} {mg : Str → Option Value} {base : Heap}
theorem excC_of {c : Str} (e : (Fx.xis c).ok K = true) : ExcC K (ga K c) := by
  obtain ⟨h1, h2⟩ := ba e
  obtain ⟨h2, h3⟩ := ba h2
  obtain ⟨h3, h4⟩ := ba h3
  obtain ⟨h4, h5⟩ := ba h4
  obtain ⟨h5, h6⟩ := ba h5
  obtain ⟨h6, h7⟩ := ba h6
  obtain ⟨h7, h8⟩ := ba h7
  obtain ⟨h8, h9⟩ := ba h8
  exact ⟨eqO_ok h1, eqO_ok h2, of_decide_eq_true h3, h4, eqO_ok h5, eqO_ok h6, of_decide_eq_true h7, of_decide_eq_true h8⟩
theorem pss_imp {X : Cx} {ss : List Stmt} {t t' : TS} (h : PSs X ss t) (k : ∀ D σ H, t' D σ H → t D σ H) : PSs X ss t' := ⟨fun pins s σ H D I q => h.run pins s σ H D I (k _ _ _ q)⟩
abbrev toldCx (P : Program) (w : World) (K : PySem.W.Frag) (mg : Str → Option Value) (base : Heap) (cdg : Value) (A : Around) (outer : List Env) (s : Shared) (H : Hp) (E : XK) : Cx := (cxOf CX0 P w K mg base ["_law_text_here", "e", "_law_other"] "_law_told" (defScope s__law_told) (ga K "_law_told") cdg A outer s H E).nox
def toldSuite : List Stmt := match defBody s__law_told with
  | .Try _ [.ExceptHandler _ _ b _] _ _ _ :: _ => b
  | _ => []
def tsTold (a d : Addr) : TS := fun D σ H => ∃ (x : Str) (y : Option V) (i : Int), σ = [some (.str x), some (.ref a), y] ∧ H d = some (.xd [("row", .int i)]) ∧ ∀ H2, Same H H2 → D.rt (.int i) H2
theorem told_suite (T : Tx w K mg) {cdg : Value} {A : Around} {outer : List Env} {s : Shared} {H0 : Hp} {E : XK} (a d : Addr) (oe : Obj) (pn : List (Addr × Obj)) (hz : Zc (.ref (ga K "BadText")) (some d) oe) (hf : ∃ vs, oe.data = .fields vs) : PSs ((toldCx P w K mg base cdg A outer s H0 E).suite a ((a, oe) :: pn)) toldSuite (tsTold a d) := by
  have C0 := excC_of (x_xis_BadText T)
  have XF : XfC K (ga K "BadText") := ⟨C0.hg, C0.hk, C0.hs, C0.hd⟩
  have hno := (oex_C (x_oex_BadText T)).2.2.2
  refine pss_imp (X := (toldCx P w K mg base cdg A outer s H0 E).suite a ((a, oe) :: pn)) (ss := toldSuite) (t := _) (by unfold toldSuite; exact (pss_cons (ps_set (i := 2) sc__law_told.nd rfl (Or.inl rfl) (pe_callB (call_isEDT C0 hz hf) (by rfl) (z_isinstance T) (by decide +kernel) (pa_cons (pv 1) (pa_cons (pe_tup (pa_cons (pe_glob (v := .ref (ga K "BadPhotos")) rfl (g_BadPhotos T) rfl) (pa_cons (pe_glob (v := .ref (ga K "BadProgram")) rfl (g_BadProgram T) rfl) (pa_cons (pe_glob (v := .ref (ga K "BadSteps")) rfl (g_BadSteps T) rfl) (pa_cons (pe_glob (v := .ref (ga K "BadTimes")) rfl (g_BadTimes T) rfl) (pa_cons (pe_glob (v := .ref (ga K "BadYoung")) rfl (g_BadYoung T) rfl) (pa_cons (pe_glob (v := .ref (ga K "NoThing")) rfl (g_NoThing T) rfl) pa_nil))))))) pa_nil)))) (pss_one (ps_ret (pe_ifExp (PW.pt (pw_and (pt_val (pe_callB (call_isED C0 hz hf) (by rfl) (z_isinstance T) (by decide +kernel) (pa_cons (pv 1) (pa_cons (pe_glob (v := .ref (ga K "BadText")) rfl (g_BadText T) rfl) pa_nil)))) (pw_and (pt_val (pe_callB (call_isED C0 hz hf) (by rfl) (z_isinstance T) (by decide +kernel) (pa_cons (pv 1) (pa_cons (pe_bltn (v := .ty "ValueError") (by rfl) (z_ValueError T) (by decide +kernel) rfl) pa_nil)))) (pw_and1 (pt_not (pt_val (pv 2))))))) (pe_xf XF hno hz hf (pv 1)) pe_str))))) ?_
  rintro D σ H ⟨x, y, i, rfl, hd, k⟩
  have kf : ∀ {n : Str} {b : Bool}, (Fx.kit "BadText" n b).ok K = true → kitOne K (.ref (ga K "BadText")) (.ref (ga K n)) = some b := fun h => of_decide_eq_true h
  refine ⟨_, rfl, ?_⟩
  refine ⟨by show 6 ≤ sizeLine; rw [sizeLine_eq]; decide, fun t ht => ?_⟩
  refine ⟨t, [ga K "BadPhotos", ga K "BadProgram", ga K "BadSteps", ga K "BadTimes", ga K "BadYoung", ga K "NoThing"], [("row", V.int i)], rfl, upd_same, ?_, same_new ht _ _ hd, ?_⟩
  · intro c hc
    simp only [List.mem_cons, List.not_mem_nil, or_false] at hc
    rcases hc with rfl | rfl | rfl | rfl | rfl | rfl
    · exact kf (x_kx_BadText_BadPhotos T)
    · exact kf (x_kx_BadText_BadProgram T)
    · exact kf (x_kx_BadText_BadSteps T)
    · exact kf (x_kx_BadText_BadTimes T)
    · exact kf (x_kx_BadText_BadYoung T)
    · exact kf (x_kx_BadText_NoThing T)
  have hd1 := same_new (o := .tup [V.ref (ga K "BadPhotos"), V.ref (ga K "BadProgram"), V.ref (ga K "BadSteps"), V.ref (ga K "BadTimes"), V.ref (ga K "BadYoung"), V.ref (ga K "NoThing")]) ht _ _ hd
  refine ⟨_, rfl, _, _, _, _, rfl, fun _ h => h, kf (x_kx_BadText_BadText T), hd1, ?_⟩
  refine ⟨_, rfl, if_t rfl ?_⟩
  refine ⟨_, rfl, _, _, _, _, rfl, fun _ h => h, of_decide_eq_true (x_kitV_BadText T), hd1, ?_⟩
  refine ⟨_, rfl, if_t rfl ?_⟩
  refine ⟨_, rfl, _, rfl, if_t rfl ?_⟩
  exact ⟨_, rfl, rfl, rfl, d, _, _, rfl, hd1, rfl, k _ (same_new ht)⟩
end
end WK
/-! The law's own reader of a text: its first part; what it makes of read. -/
namespace WK
open PySem PySem.Spec PyProof.Rows L2 He WB PySem.W L2H
section
variable {P : Program} {w : World} {K : PySem.W.Frag} {mg : Str → Option Value} {base : Heap}
def spTold : Sp := fun vs H Q _ => ∃ (x : Str), vs = [.str x] ∧ TextB 5000 800 x ∧
  ((AllGood (progOf x) ∧ ∀ r ps H', Same H H' → H r = none → H' r = some (.lst (ps.map V.ref)) → Paired (TupAt H') ps (progOf x) → Q (.ref r) H') ∨ ∃ pl, FirstBad (progOf x) pl ∧ ∀ H', Same H H' → Q (.int (pl : Int)) H')
theorem ok__law_told (T : Tx w K mg) : DefOk ⟨P, w, K, mg, base⟩ 8 (ga K "_law_told") ["_law_text_here"] spTold := by
  refine DefOk.mk' (f__law_told T) sc__law_told (fun _ _ _ _ _ _ us hl => match us, hl with | [_], _ => rfl) (fun vs H Q E h => ?_) (fun cdv A outer s H vs Q E hr h => ?_)
  · obtain ⟨x, rfl, _⟩ := h
    rfl
  · obtain ⟨x, rfl, tb, k⟩ := h
    have hu := hu_of hr
    refine ⟨_, pss_one (ps_try_as (X := toldCx P w K mg base cdv A outer s H E) (i := 1) (c := .ref (ga K "WhoError")) (tb := fun W D σ H => tCGX ⟨P, w, K, mg, base⟩ 7 "read" W (tCons (tVar 0) tNil) σ H D.rt)
      (ts := fun a cls d D σ H => ∃ dd, (cls = .ref (ga K "BadText") ∧ d = some dd) ∧ tsTold a dd D σ H)
      rfl rfl sc__law_told.nd rfl rfl ⟨rfl, by decide, .inl (g_WhoError T)⟩ L2.takes0 (fun W pn xe tk _ => pss_one (ps_ret (pe_cgX (x := "read") (M := ⟨P, w, K, mg, base⟩) rfl hr tk rfl (pa_cons (pv 0) pa_nil)))) (fun a oe cls d pn hz hf => ⟨fun pins s' σ H' D I q => ?_⟩)), ?_⟩
    · obtain ⟨dd, ⟨rfl, rfl⟩, q⟩ := q
      exact (told_suite T a dd oe pn hz hf).run pins s' σ H' D I q
    · refine ⟨_, _, _, _, g_read T, okx_read T, by decide, _, rfl, x, rfl, tb, ?_⟩
      rcases k with ⟨ag, k⟩ | ⟨pl, fb, k⟩
      · exact .inl ⟨ag, k⟩
      · refine .inr ⟨pl, fb, fun d H' s1 hd => ?_⟩
        exact ⟨true, of_decide_eq_true (x_exm_BadText T), fun _ a na => ⟨d, ⟨rfl, rfl⟩, x, _, (pl : Int), rfl, hd, fun H2 s2 => k H2 (s1.trans s2)⟩, fun z => nomatch z⟩
end
end WK
/-! The law's own reader of a text: words, rows. -/
namespace WK
open PySem PySem.Spec PyProof.Rows L2 He WB PySem.W
section
variable {P : Program} {w : World} {K : PySem.W.Frag} {mg : Str → Option Value} {base : Heap}
theorem sign_nm : signV "pqrstuvw" = nmS.map V.str := by kernel_rfl
theorem sign_let : signV "abcd" = WB.lets.map V.str := by kernel_rfl
def fewD (l1 l2 l3 l4 : Addr) : List (Key × V) := [(.inr "name", .ref l1), (.inr "kind", .ref l2), (.inr "goal", .ref l3), (.inr "part", .ref l4)]
def mostD : List (Key × V) := [(.inr "part", .int 10), (.inr "number", .int 100)]
theorem few_at {H : Hp} {p l1 l2 l3 l4 l5 : Addr} {sh : Str} (hs : sh ∈ shapeS) (e : H p = some (.dK (fewD l1 l2 l3 l4))) (g1 : H l1 = some (.lst (nmS.map V.str))) (g2 : H l2 = some (.lst (kindsS.map V.str))) (g3 : H l3 = some (.lst (nmS.map V.str))) (g4 : H l4 = some (.lst (WB.lets.map V.str))) (g5 : H l5 = some (.lst [])) :
    ∃ o q, DGet H p (.str sh) o ∧ o.getD (.ref l5) = .ref q ∧ H q = some (.lst ((fewS sh).map V.str)) := by
  have hs : sh = "name" ∨ sh = "goal" ∨ sh = "kind" ∨ sh = "number" ∨ sh = "part" := by simpa [shapeS] using hs
  rcases hs with rfl | rfl | rfl | rfl | rfl
  · exact ⟨_, l1, DGet.k (k := .inr "name") e, rfl, g1⟩
  · exact ⟨_, l3, DGet.k (k := .inr "goal") e, rfl, g3⟩
  · exact ⟨_, l2, DGet.k (k := .inr "kind") e, rfl, g2⟩
  · exact ⟨_, l5, DGet.k (k := .inr "number") e, rfl, g5⟩
  · exact ⟨_, l4, DGet.k (k := .inr "part") e, rfl, g4⟩
theorem most_at {H : Hp} {p : Addr} {sh : Str} (hs : sh ∈ shapeS) (e : H p = some (.dK mostD)) : ∃ o, DGet H p (.str sh) o ∧ o.getD (.int 0) = .int (mostS sh : Nat) := by
  have hs : sh = "name" ∨ sh = "goal" ∨ sh = "kind" ∨ sh = "number" ∨ sh = "part" := by simpa [shapeS] using hs
  rcases hs with rfl | rfl | rfl | rfl | rfl
  · exact ⟨_, DGet.k (k := .inr "name") e, rfl⟩
  · exact ⟨_, DGet.k (k := .inr "goal") e, rfl⟩
  · exact ⟨_, DGet.k (k := .inr "kind") e, rfl⟩
  · exact ⟨_, DGet.k (k := .inr "number") e, rfl⟩
  · exact ⟨_, DGet.k (k := .inr "part") e, rfl⟩
theorem most_le (sh : Str) : mostS sh ≤ 100 := by
  unfold mostS
  split
  · decide
  · split <;> decide
def spLWord : Sp := fun vs H Q _ => ∃ (x sh : Str), vs = [.str x, .str sh] ∧ sh ∈ shapeS ∧ ∀ r H', Same H H' → H r = none → H' r = some (.lst (lawWord x sh)) → Q (.ref r) H'
theorem ok__law_word (T : Tx w K mg) : DefOk ⟨P, w, K, mg, base⟩ 1 (ga K "_law_word") ["_law_word_here", "_law_shape"] spLWord := by
  refine DefOk.mk' (f__law_word T) sc__law_word (fun _ _ _ _ _ _ us hl => match us, hl with | [_, _], _ => rfl) (fun vs H Q E h => ?_) (fun cdv A outer s H vs Q E hr h => ?_)
  · obtain ⟨x, sh, rfl, _⟩ := h
    rfl
  · obtain ⟨x, sh, rfl, hs, k⟩ := h
    have hu := hu_of hr
    refine ⟨_, (pss_cons (ps_set (i := 2) sc__law_word.nd rfl (Or.inl rfl) (pe_disp (pps_cons pe_str (pe_callTy (call_listStr rfl) (by rfl) (z_list T) (by decide +kernel) (pa_cons pe_str pa_nil)) (pps_cons pe_str (pe_lst (pa_cons pe_str (pa_cons pe_str (pa_cons pe_str pa_nil)))) (pps_cons pe_str (pe_callTy (call_listStr rfl) (by rfl) (z_list T) (by decide +kernel) (pa_cons pe_str pa_nil)) pps_nil))) (by rfl) (by rfl) (fun z => by cases z) (by decide))) (pss_cons (ps_dput hu (pv 2) pe_str (pe_callTy (call_listStr rfl) (by rfl) (z_list T) (by decide +kernel) (pa_cons pe_str pa_nil)) rfl) (pss_cons (ps_if (pt_cmpR op_in_seq (pv 0) (pe_dget2 hu (pv 2) (pv 1) (pe_lst pa_nil) (by exact ⟨rfl, rfl, rfl, rfl⟩)) (by rfl)) (pss_one (ps_ret (pe_lst (pa_cons (pv 0) pa_nil)))) pss_nil) (pss_cons (ps_set (i := 3) sc__law_word.nd rfl (Or.inl rfl) (pe_dget2 hu (pe_disp (pps_cons pe_str pe_int (pps_cons pe_str pe_int pps_nil)) (by rfl) (by rfl) (fun z => by cases z) (by decide)) (pv 1) pe_int (by exact ⟨rfl, rfl, rfl, rfl⟩))) (pss_cons (ps_if (PW.pt (pw_and (pt_cmpR op_eq (pv 1) pe_str (nomark _)) (pw_and1 (pt_cmpR op_eq (pv 0) pe_str (nomark _))))) (pss_one (ps_ret (pe_lst (pa_cons pe_non pa_nil)))) pss_nil) (pss_one (ps_ret (pe_lc (own := [("_law_number", 4)]) (g := (gName 4)) rfl sc__law_word.nd (pi_range1 rfl (z_range T) (pa_cons (pv 3) pa_nil)) (blkOk_by (own := [("_law_number", 4)]) (N := ["_law_word_here", "_law_shape", "_law_few", "_law_most", "_law_number"]) (sc := defScope s__law_word) (by decide +kernel)) (fun _ _ _ _ _ => (pg_name (i := 4) sc__law_word.nd rfl (Or.inl rfl))) (fun _ _ _ _ _ => by exact (pts_one (pt_cmpR op_eq (pe_or2 (pe_callTy call_str_int (by rfl) (z_str T) (by decide +kernel) (pa_cons (pv 4) pa_nil)) (pe_callTy SkE.call_str_str (by rfl) (z_str T) (by decide +kernel) (pa_cons (pv 4) pa_nil))) (pv 0) (nomark _)))) (fun _ _ _ _ _ => by exact (pv 4)))))))))), ?_⟩
    intro p hp
    have e1 : upd H p (.dK []) p = some (.dK []) := upd_same
    have s1 : Same H (upd H p (.dK [])) := same_new hp
    generalize upd H p (.dK []) = H1 at e1 s1 ⊢
    refine ⟨"pqrstuvw", rfl, by rw [sizeLine_eq]; decide +kernel, fun l1 h1 => ?_⟩
    rw [sign_nm]
    have n1 := ne_of_none e1 h1
    have g1 : upd H1 l1 (.lst (nmS.map V.str)) l1 = some (.lst (nmS.map V.str)) := upd_same
    have e2 := same_new (o := .lst (nmS.map V.str)) h1 _ _ e1
    have s2 := s1.trans (same_new (o := .lst (nmS.map V.str)) h1)
    generalize upd H1 l1 (.lst (nmS.map V.str)) = H2 at g1 e2 s2 ⊢
    refine ⟨by show 3 ≤ sizeLine; decide, fun l2 h2 => ?_⟩
    have n2 := ne_of_none e2 h2
    have g2 : upd H2 l2 (.lst (kindsS.map V.str)) l2 = some (.lst (kindsS.map V.str)) := upd_same
    have sx := same_new (o := .lst (kindsS.map V.str)) h2
    have e3 := sx _ _ e2
    have g1 := sx _ _ g1
    have s3 := s2.trans sx
    show tPairs _ _ (upd H2 l2 (.lst (kindsS.map V.str))) _
    generalize upd H2 l2 (.lst (kindsS.map V.str)) = H3 at g1 g2 e3 s3 ⊢
    clear sx
    refine ⟨"pqrstuvw", rfl, by rw [sizeLine_eq]; decide +kernel, fun l3 h3 => ?_⟩
    rw [sign_nm]
    have n3 := ne_of_none e3 h3
    have g3 : upd H3 l3 (.lst (nmS.map V.str)) l3 = some (.lst (nmS.map V.str)) := upd_same
    have sx := same_new (o := .lst (nmS.map V.str)) h3
    have e4 := sx _ _ e3
    have g1 := sx _ _ g1
    have g2 := sx _ _ g2
    have s4 := s3.trans sx
    generalize upd H3 l3 (.lst (nmS.map V.str)) = H4 at g1 g2 g3 e4 s4 ⊢
    clear sx
    refine ⟨e4, [(.inr "name", .ref l1), (.inr "kind", .ref l2), (.inr "goal", .ref l3)], rfl, by show 3 ≤ 15; decide, ?_⟩
    show tSeq _ _ _ _ (upd H4 p (.dK [(.inr "name", .ref l1), (.inr "kind", .ref l2), (.inr "goal", .ref l3)]))
    have e5 : upd H4 p (.dK [((.inr "name" : Key), V.ref l1), (.inr "kind", .ref l2), (.inr "goal", .ref l3)]) p = some (.dK [(.inr "name", .ref l1), (.inr "kind", .ref l2), (.inr "goal", .ref l3)]) := upd_same
    have s5 := same_mut (o := .dK [((.inr "name" : Key), V.ref l1), (.inr "kind", .ref l2), (.inr "goal", .ref l3)]) s4 hp
    have off : ∀ {l : Addr} {o : HO}, p ≠ l → H4 l = some o → upd H4 p (.dK [((.inr "name" : Key), V.ref l1), (.inr "kind", .ref l2), (.inr "goal", .ref l3)]) l = some o := fun n e => by rw [upd_ne n.symm]; exact e
    have g1 := off n1 g1
    have g2 := off n2 g2
    have g3 := off n3 g3
    generalize upd H4 p (.dK [((.inr "name" : Key), V.ref l1), (.inr "kind", .ref l2), (.inr "goal", .ref l3)]) = H5 at e5 s5 g1 g2 g3 ⊢
    clear off
    refine ⟨"abcd", rfl, by rw [sizeLine_eq]; decide +kernel, fun l4 h4 => ?_⟩
    rw [sign_let]
    have n4 := ne_of_none e5 h4
    have g4 : upd H5 l4 (.lst (WB.lets.map V.str)) l4 = some (.lst (WB.lets.map V.str)) := upd_same
    have sx := same_new (o := .lst (WB.lets.map V.str)) h4
    have e6 := sx _ _ e5
    have g1 := sx _ _ g1
    have g2 := sx _ _ g2
    have g3 := sx _ _ g3
    have s6 := s5.trans sx
    generalize upd H5 l4 (.lst (WB.lets.map V.str)) = H6 at g1 g2 g3 g4 e6 s6 ⊢
    clear sx
    refine ⟨_, rfl, p, _, rfl, DPut.k (k := .inr "part") e6 (szl (by show 3 ≤ 1000; decide)), ?_⟩
    show tSeq _ _ _ _ (upd H6 p (.dK (fewD l1 l2 l3 l4)))
    have e7 : upd H6 p (.dK (fewD l1 l2 l3 l4)) p = some (.dK (fewD l1 l2 l3 l4)) := upd_same
    have s7 := same_mut (o := .dK (fewD l1 l2 l3 l4)) s6 hp
    have off : ∀ {l : Addr} {o : HO}, p ≠ l → H6 l = some o → upd H6 p (.dK (fewD l1 l2 l3 l4)) l = some o := fun n e => by rw [upd_ne n.symm]; exact e
    have g1 := off n1 g1
    have g2 := off n2 g2
    have g3 := off n3 g3
    have g4 := off n4 g4
    generalize upd H6 p (.dK (fewD l1 l2 l3 l4)) = H7 at e7 s7 g1 g2 g3 g4 ⊢
    clear off s1 s2 s3 s4 s5 s6 e1 e2 e3 e4 e5 e6
    refine ⟨_, rfl, _, rfl, p, rfl, .inl ⟨_, .inl e7⟩, _, rfl, by show 0 ≤ sizeLine; decide, fun l5 h5 => ?_⟩
    have sx := same_new (o := .lst []) h5
    have s8 := s7.trans sx
    obtain ⟨o, q, og, oe, gq⟩ := few_at hs (sx _ _ e7) (sx _ _ g1) (sx _ _ g2) (sx _ _ g3) (sx _ _ g4) (upd_same (H := H7) (a := l5) (o := .lst []))
    generalize upd H7 l5 (.lst []) = H8 at og gq s8 ⊢
    clear sx g1 g2 g3 g4 e7 s7 h5
    refine ⟨o, og, q, _, oe, .inl (SqL.of gq), rfl, strs_flat _, _, rfl, ?_⟩
    by_cases hx : x ∈ fewS sh
    · refine if_t (show inV _ _ = true by rw [inV_str]; exact decide_eq_true hx) ⟨_, rfl, by show 1 ≤ sizeLine; decide, fun r hr => k r _ (s8.trans (same_new hr)) (s8.free hr) ?_⟩
      rw [upd_same]
      unfold lawWord
      rw [if_pos hx]
    refine if_f (show inV _ _ = false by rw [inV_str]; exact decide_eq_false hx) ?_
    clear og oe gq
    intro p2 hp2
    refine ⟨upd_same, mostD, rfl, by decide, ?_⟩
    have s9 := same_mut (o := .dK mostD) (s8.trans (same_new (o := .dK []) hp2)) (s8.free hp2)
    obtain ⟨o2, og2, oe2⟩ := most_at hs (upd_same (H := upd H8 p2 (.dK [])) (a := p2) (o := .dK mostD))
    have ed : upd (upd H8 p2 (.dK [])) p2 (.dK mostD) p2 = some (.dK mostD) := upd_same
    refine ⟨p2, rfl, .inl ⟨_, .inl ed⟩, _, rfl, o2, og2, ?_⟩
    rw [oe2]
    show tSeq _ _ _ _ (upd (upd H8 p2 (.dK [])) p2 (.dK mostD))
    generalize upd (upd H8 p2 (.dK [])) p2 (.dK mostD) = H9 at s9 ⊢
    clear og2 oe2 ed hp2 s8
    have last : ¬ (sh = "goal" ∧ x = "-") → tRet (tLc (iRng1 (tCons (tVar 3) tNil)) (gName 4) (tTest (tOp rEq (fun σ H Q => tCB (fun xs H Q => ∃ i, xs = [V.int i] ∧ i.natAbs.log2 < 1920 ∧ Q (V.str (Str.ofString (toString i))) H) (tCons (tVar 4) tNil) σ H Q ∨ tCB (fun xs H Q => ∃ a, xs = [V.str a] ∧ Q (V.str a) H) (tCons (tVar 4) tNil) σ H Q) (tVar 0))) (tVar 4) (List.map (fun x => x.snd) [(("_law_number" : Str), 4)])) { nx := fun x H' => Q V.non H', rt := Q } [some (.str x), some (.str sh), some (.ref p), some (.int (mostS sh : Nat)), none] H9 := fun hg => by
      have lm := most_le sh
      refine ⟨_, rfl, ((mostS sh : Nat) : Int), rfl, by omega, by omega, fun D hD => ?_⟩
      have e0 : ((mostS sh : Nat) : Int).toNat = mostS sh := by omega
      rw [e0]
      refine lc_it walk_range (fun i H' => Same H9 H' ∧ H' D = some (.lst (((List.range i).filter fun n => decide (txtN n = x)).map fun (n : Nat) => V.int (n : Int)))) ⟨same_new hD, upd_same⟩ (fun _ _ _ _ => trivial) ?_ ?_
      · rintro i v G1 G2 hi ⟨q1, q2⟩ ⟨rfl, ev⟩
        have ev : v = .int (i : Int) := by rw [ev]; show V.int (0 + (i : Int)) = _; rw [Int.zero_add]
        subst ev
        refine ⟨rfl, .inl ⟨_, rfl, (i : Int), rfl, log_small (by omega) (by omega), _, rfl, rfl, _, rfl, ?_⟩⟩
        have fl : (List.range (i + 1)).filter (fun n => decide (txtN n = x)) = (List.range i).filter (fun n => decide (txtN n = x)) ++ (if txtN i = x then [i] else []) := by
          rw [List.range_succ, List.filter_append]
          by_cases z : txtN i = x <;> simp [z]
        show if decide (V.str (txtN i) = V.str x) = true then _ else _
        by_cases z : txtN i = x
        · rw [if_pos (decide_eq_true (by rw [z]))]
          rw [if_pos z] at fl
          have ll : (((List.range i).filter fun n => decide (txtN n = x)).map fun (n : Nat) => V.int (n : Int)).length ≤ 1000 := by
            rw [List.length_map]
            refine Nat.le_trans (List.length_filter_le _ _) ?_
            rw [List.length_range]
            omega
          refine ⟨_, rfl, _, q2, szl ll, same_mut q1 hD, ?_⟩
          rw [upd_same, fl, List.map_append]
          rfl
        · rw [if_neg (by simpa using fun q => z (V.str.inj q))]
          rw [if_neg z, List.append_nil] at fl
          rw [fl]
          exact ⟨q1, q2⟩
      · rintro G1 ⟨q1, q2⟩
        refine k D _ (s9.trans q1) (s9.free hD) ?_
        rw [q2]
        unfold lawWord
        rw [if_neg hx, if_neg hg]
    by_cases g1 : sh = "goal"
    · by_cases g2 : x = "-"
      · refine ⟨_, rfl, rfl, _, rfl, if_t (decide_eq_true (by rw [g1])) ⟨_, rfl, rfl, _, rfl, if_t (decide_eq_true (by rw [g2])) ⟨by show 1 ≤ sizeLine; decide, fun r hr => k r _ (s9.trans (same_new hr)) (s9.free hr) ?_⟩⟩⟩
        rw [upd_same]
        unfold lawWord
        rw [if_neg hx, if_pos ⟨g1, g2⟩]
      · exact ⟨_, rfl, rfl, _, rfl, if_t (decide_eq_true (by rw [g1])) ⟨_, rfl, rfl, _, rfl, if_f (decide_eq_false fun q => g2 (V.str.inj q)) (last fun z => g2 z.2)⟩⟩
    · exact ⟨_, rfl, rfl, _, rfl, if_f (decide_eq_false fun q => g1 (V.str.inj q)) (if_f rfl (last fun z => g1 z.1))⟩
end
end WK
/-! The law's own reader of a text: rows. -/
namespace WK
open PySem PySem.Spec PyProof.Rows L2 He WB PySem.W
section
variable {P : Program} {w : World} {K : PySem.W.Frag} {mg : Str → Option Value} {base : Heap}
def rowD1 : List (Key × V) := [(.inr "make", .str "name kind"), (.inr "num", .str "name number"), (.inr "copy", .str "name name"), (.inr "drop", .str "name"), (.inr "settle", .str "")]
def rowD2 : List (Key × V) := [(.inr "put", .str "name part name"), (.inr "take", .str "name name part"), (.inr "cut", .str "name part"), (.inr "watch", .str "name name")]
def rowD3 : List (Key × V) := [(.inr "last", .str "name goal"), (.inr "ask", .str "name name"), (.inr "say", .str "name")]
def rowD : List (Key × V) := rowD1 ++ (rowD2 ++ rowD3)
theorem rowD_merge : mergeK (mergeK (mergeK [] rowD1) rowD2) rowD3 = rowD := by kernel_rfl
theorem rowD_at (x : Str) : (shapeOfW x = none ∧ valV rowD (.inr x) = none) ∨ ∃ ss t, shapeOfW x = some ss ∧ valV rowD (.inr x) = some (.str t) ∧ Txt.words t = ss ∧ t.length ≤ 100 := by
  by_cases h : x ∈ (["make", "num", "copy", "drop", "put", "take", "cut", "watch", "last", "ask", "settle", "say"] : List Str)
  · right
    simp only [List.mem_cons, List.not_mem_nil, or_false] at h
    rcases h with rfl | rfl | rfl | rfl | rfl | rfl | rfl | rfl | rfl | rfl | rfl | rfl <;> exact ⟨_, _, rfl, rfl, by decide +kernel, by decide +kernel⟩
  · left
    constructor
    · cases q : shapeOfW x with
      | none => rfl
      | some ss =>
        exfalso
        have hm : (x, ss) ∈ shapeT := PySem.mem_of_lookup q
        have all : ∀ p ∈ shapeT, p.1 ∈ (["make", "num", "copy", "drop", "put", "take", "cut", "watch", "last", "ask", "settle", "say"] : List Str) := by decide +kernel
        exact h (all _ hm)
    · unfold valV
      rw [List.find?_eq_none.mpr fun p hp z => ?_]
      · rfl
      · have e : p.1 = .inr x := of_decide_eq_true z
        have all : ∀ p ∈ rowD, ∃ y, p.1 = Sum.inr y ∧ y ∈ (["make", "num", "copy", "drop", "put", "take", "cut", "watch", "last", "ask", "settle", "say"] : List Str) := by
          intro p hp
          unfold rowD rowD1 rowD2 rowD3 at hp
          simp only [List.cons_append, List.nil_append, List.mem_cons, List.not_mem_nil, or_false] at hp
          rcases hp with rfl | rfl | rfl | rfl | rfl | rfl | rfl | rfl | rfl | rfl | rfl | rfl <;> exact ⟨_, rfl, by decide +kernel⟩
        obtain ⟨y, e1, e2⟩ := all p hp
        rw [e1] at e
        exact h (Sum.inr.inj e ▸ e2)
theorem cut_head {x : V} {r : List V} : cutV (x :: r) none (some (1 : Int)) = [x] := by
  have e : HT.sIx (x :: r).length (x :: r).length (some (1 : Int)) = min 1 (x :: r).length := HT.sIx_nat _ _ 1
  unfold cutV
  rw [e, HT.sIx_none, List.length_cons, Nat.min_eq_left (by omega)]
  rfl
theorem cut_tail {x : V} {r : List V} : cutV (x :: r) (some (1 : Int)) none = r := by
  have e : HT.sIx (x :: r).length 0 (some (1 : Int)) = min 1 (x :: r).length := HT.sIx_nat _ _ 1
  unfold cutV
  rw [e, HT.sIx_none, List.length_cons, Nat.min_eq_left (by omega)]
  show r.take (r.length + 1 - 1) = r
  rw [Nat.add_sub_cancel, List.take_length]
theorem lawWord_len {x sh : Str} (hs : sh ∈ shapeS) : (lawWord x sh).length ≤ 1 := by
  rw [lawWord_eq hs]
  split <;> simp
theorem flat_len {ss : List Str} {ps : List Str} (hs : ∀ s ∈ ss, s ∈ shapeS) (i : Nat) : (((List.zipWith lawWord ps ss).take i).flatten).length ≤ i := by
  induction i generalizing ps ss with
  | zero => simp
  | succ i ih =>
    cases ps with
    | nil => simp
    | cons p ps =>
      cases ss with
      | nil => simp
      | cons s ss =>
        rw [List.zipWith_cons_cons, List.take_succ_cons, List.flatten_cons, List.length_append]
        have h1 := lawWord_len (x := p) (hs s List.mem_cons_self)
        have h2 := ih (ps := ps) (ss := ss) fun z hz => hs z (List.mem_cons_of_mem _ hz)
        omega
def spLRow : Sp := fun vs H Q _ => ∃ (x : Str), vs = [.str x] ∧ x.length ≤ 800 ∧ (lawRow (Txt.split x " ") = none → ∀ H', Same H H' → Q .non H') ∧ (∀ xs, lawRow (Txt.split x " ") = some xs → ∀ p H', Same H H' → H p = none → H' p = some (.tup xs) → Q (.ref p) H')
theorem ok__law_row (T : Tx w K mg) : DefOk ⟨P, w, K, mg, base⟩ 2 (ga K "_law_row") ["_law_row_here"] spLRow := by
  refine DefOk.mk' (f__law_row T) sc__law_row (fun _ _ _ _ _ _ us hl => match us, hl with | [_], _ => rfl) (fun vs H Q E h => ?_) (fun cdv A outer s H vs Q E hr h => ?_)
  · obtain ⟨x, rfl, _⟩ := h
    rfl
  · obtain ⟨x, rfl, lx, k1, k2⟩ := h
    have hu := hu_of hr
    refine ⟨_, (pss_cons (ps_set (i := 1) sc__law_row.nd rfl (Or.inl rfl) (pe_disp (pps_cons pe_str pe_str (pps_cons pe_str pe_str (pps_cons pe_str pe_str (pps_cons pe_str pe_str (pps_cons pe_str pe_str pps_nil))))) (by rfl) (by rfl) (fun z => by cases z) (by decide))) (pss_cons (ps_expr (pe_dupd (pv 1) (pe_disp (pps_cons pe_str pe_str (pps_cons pe_str pe_str (pps_cons pe_str pe_str (pps_cons pe_str pe_str pps_nil)))) (by rfl) (by rfl) (fun z => by cases z) (by decide)) (by exact ⟨rfl, rfl, rfl, rfl⟩))) (pss_cons (ps_expr (pe_dupd (pv 1) (pe_disp (pps_cons pe_str pe_str (pps_cons pe_str pe_str (pps_cons pe_str pe_str pps_nil))) (by rfl) (by rfl) (fun z => by cases z) (by decide)) (by exact ⟨rfl, rfl, rfl, rfl⟩))) (pss_cons (ps_set (i := 2) sc__law_row.nd rfl (Or.inl rfl) (pe_split (pv 0) pe_str)) (pss_cons (ps_if (PW.pt (pw_or (pt_cmp (pc_dnotin hu (pe_ix ix_list (pv 2) pe_int (fun _ _ => rfl)) (pv 1))) (pw_or1 (pt_cmpR op_ne (pe_callB call_len_seq (by rfl) (z_len T) PySem.boot_len (pa_cons (pv 2) pa_nil)) (pe_op op_add pe_int (pe_callB call_len_seq (by rfl) (z_len T) PySem.boot_len (pa_cons (pe_words (pe_dget hu (pv 1) (pe_ix ix_list (pv 2) pe_int (fun _ _ => rfl)) (fun _ _ => rfl))) pa_nil))) (nomark _))))) (pss_one (ps_ret pe_non)) pss_nil) (pss_cons (ps_set (i := 3) sc__law_row.nd rfl (Or.inl rfl) (pe_slice sl_list (pv 2) po_none (po_some pe_int))) (pss_cons (ps_for PassesOwn.never rfl (pi_zip (by rfl) (z_zip T) (pa_cons (pe_slice sl_list (pv 2) (po_some pe_int) po_none) (pa_cons (pe_words (pe_dget hu (pv 1) (pe_ix ix_list (pv 2) pe_int (fun _ _ => rfl)) (fun _ _ => rfl))) pa_nil))) (pg_tup rfl (pgs_cons (pg_name (i := 4) sc__law_row.nd rfl (Or.inl rfl)) (pgs_cons (pg_name (i := 5) sc__law_row.nd rfl (Or.inl rfl)) pgs_nil))) (pss_one (ps_set (i := 3) sc__law_row.nd rfl (Or.inl rfl) (pe_op op_cat (pv 3) (pe_cg (M := ⟨P, w, K, mg, base⟩) rfl hr rfl (pa_cons (pv 4) (pa_cons (pv 5) pa_nil))))))) (pss_one (ps_ret (pe_ifExp (pt_cmpR op_eq (pe_callB call_len_seq (by rfl) (z_len T) PySem.boot_len (pa_cons (pv 3) pa_nil)) (pe_callB call_len_seq (by rfl) (z_len T) PySem.boot_len (pa_cons (pv 2) pa_nil)) (nomark _)) (pe_tupleOf (by rfl) (z_tuple T) (pv 3)) pe_non)))))))))), ?_⟩
    intro p hp
    have e1 : upd H p (.dK []) p = some (.dK []) := upd_same
    have s1 : Same H (upd H p (.dK [])) := same_new hp
    refine ⟨e1, rowD1, rfl, by decide, ?_⟩
    show tSeq _ _ _ _ (upd (upd H p (.dK [])) p (.dK (mergeK [] rowD1)))
    have e2 : upd (upd H p (.dK [])) p (.dK (mergeK [] rowD1)) p = some (.dK (mergeK [] rowD1)) := upd_same
    have s2 := same_mut (o := .dK (mergeK [] rowD1)) s1 hp
    generalize upd (upd H p (.dK [])) p (.dK (mergeK [] rowD1)) = H2 at e2 s2 ⊢
    clear e1 s1
    refine ⟨_, rfl, p, rfl, .inl ⟨_, .inl e2⟩, fun p2 hp2 => ?_⟩
    refine ⟨upd_same, rowD2, rfl, by decide, p2, _, _, rfl, (same_mut (o := .dK (mergeK [] rowD2)) (same_new (o := .dK []) hp2) hp2) _ _ e2, upd_same, ne_of_none e2 hp2, szle (by decide), ?_⟩
    have e3 : upd (upd (upd H2 p2 (.dK [])) p2 (.dK (mergeK [] rowD2))) p (.dK (mergeK (mergeK [] rowD1) (mergeK [] rowD2))) p = some (.dK (mergeK (mergeK [] rowD1) (mergeK [] rowD2))) := upd_same
    have s3 := same_mut (o := .dK (mergeK (mergeK [] rowD1) (mergeK [] rowD2))) (s2.trans (same_mut (o := .dK (mergeK [] rowD2)) (same_new (o := .dK []) hp2) hp2)) hp
    show tSeq _ _ _ _ (upd (upd (upd H2 p2 (.dK [])) p2 (.dK (mergeK [] rowD2))) p (.dK (mergeK (mergeK [] rowD1) (mergeK [] rowD2))))
    generalize upd (upd (upd H2 p2 (.dK [])) p2 (.dK (mergeK [] rowD2))) p (.dK (mergeK (mergeK [] rowD1) (mergeK [] rowD2))) = H3 at e3 s3 ⊢
    clear hp2 e2 s2
    refine ⟨_, rfl, p, rfl, .inl ⟨_, .inl e3⟩, fun p3 hp3 => ?_⟩
    refine ⟨upd_same, rowD3, rfl, by decide, p3, _, _, rfl, (same_mut (o := .dK (mergeK [] rowD3)) (same_new (o := .dK []) hp3) hp3) _ _ e3, upd_same, ne_of_none e3 hp3, szle (by decide), ?_⟩
    have em : mergeK (mergeK (mergeK [] rowD1) (mergeK [] rowD2)) (mergeK [] rowD3) = rowD := by kernel_rfl
    rw [em]
    have e4 : upd (upd (upd H3 p3 (.dK [])) p3 (.dK (mergeK [] rowD3))) p (.dK rowD) p = some (.dK rowD) := upd_same
    have s4 := same_mut (o := .dK rowD) (s3.trans (same_mut (o := .dK (mergeK [] rowD3)) (same_new (o := .dK []) hp3) hp3)) hp
    show tSeq _ _ _ _ (upd (upd (upd H3 p3 (.dK [])) p3 (.dK (mergeK [] rowD3))) p (.dK rowD))
    generalize upd (upd (upd H3 p3 (.dK [])) p3 (.dK (mergeK [] rowD3))) p (.dK rowD) = H4 at e4 s4 ⊢
    clear hp3 e3 s3 em
    obtain ⟨⟨wd, ps, spl, lps⟩, wl⟩ := words_of x
    refine ⟨_, rfl, ⟨_, rfl⟩, x, " ", rfl, rfl, by decide, Nat.le_trans (show _ ≤ 802 by omega) (by decide), fun L hL => ?_⟩
    rw [spl] at k1 k2 ⊢
    have e5 := same_new (o := .lst ((wd :: ps).map V.str)) hL _ _ e4
    have s5 := s4.trans (same_new (o := .lst ((wd :: ps).map V.str)) hL)
    have gL : upd H4 L (.lst ((wd :: ps).map V.str)) L = some (.lst ((wd :: ps).map V.str)) := upd_same
    show tSeq _ _ _ _ (upd H4 L (.lst ((wd :: ps).map V.str)))
    generalize upd H4 L (.lst ((wd :: ps).map V.str)) = H5 at e5 s5 gL ⊢
    clear e4 s4 hL
    have a0 : atI ((wd :: ps).map V.str) 0 = some (.str wd) := by show atI _ ((0 : Nat) : Int) = _; exact atI_nat rfl
    have dg := DGet.k (k := .inr wd) e5
    rcases rowD_at wd with ⟨r1, r2⟩ | ⟨ss, t, r1, r2, r3, r4⟩
    · rw [r2] at dg
      have lr : lawRow (wd :: ps) = none := by rw [lawRow_cons, r1]
      refine ⟨_, rfl, L, _, 0, _, rfl, rfl, SqL.of gL, a0, _, rfl, p, none, rfl, dg, ?_⟩
      exact ⟨_, rfl, if_t rfl (k1 lr _ s5)⟩
    · rw [r2] at dg
      refine ⟨_, rfl, L, _, 0, _, rfl, rfl, SqL.of gL, a0, _, rfl, p, _, rfl, dg, ?_⟩
      refine ⟨_, rfl, if_f rfl ?_⟩
      refine ⟨_, rfl, L, _, rfl, .inl (SqL.of gL), ?_⟩
      refine ⟨_, rfl, _, rfl, L, _, 0, _, rfl, rfl, SqL.of gL, a0, p, _, rfl, dg, ⟨_, rfl⟩, t, rfl, rfl, Nat.le_trans (show _ ≤ 102 by omega) (by decide), fun M hM => ?_⟩
      rw [r3]
      have e6 := same_new (o := .lst (ss.map V.str)) hM _ _ e5
      have g6 := same_new (o := .lst (ss.map V.str)) hM _ _ gL
      have s6 := s5.trans (same_new (o := .lst (ss.map V.str)) hM)
      refine ⟨M, _, rfl, .inl (SqL.of upd_same), _, _, rfl, rfl, rfl, _, rfl, ?_⟩
      show if (!decide (V.int ((((wd :: ps).map V.str).length : Nat) : Int) = V.int (1 + (((ss.map V.str).length : Nat) : Int)))) = true then _ else _
      have el : decide (V.int ((((wd :: ps).map V.str).length : Nat) : Int) = V.int (1 + (((ss.map V.str).length : Nat) : Int))) = decide (ps.length = ss.length) := by
        rw [List.length_map, List.length_map, List.length_cons]
        refine decide_eq_decide.mpr ⟨fun z => by have := V.int.inj z; omega, fun z => by rw [z]; exact congrArg V.int (by omega)⟩
      rw [el]
      generalize upd H5 M (.lst (ss.map V.str)) = H6 at e6 g6 s6 ⊢
      clear e5 gL s5 hM el
      by_cases hl : ps.length = ss.length
      · rw [decide_eq_true hl]
        refine if_f rfl ?_
        have lens := lps
        have hss := shape_in r1
        have lss : ss.length ≤ 3 := by have := shape_few (x := wd); rw [r1] at this; exact this
        refine ⟨_, rfl, _, rfl, L, _, rfl, SqL.of g6, fun F0 hF0 => ?_⟩
        rw [List.map_cons, cut_head]
        have sx := same_new (o := .lst [V.str wd]) hF0
        have e7 := sx _ _ e6
        have g7 := sx _ _ g6
        have s7 := s6.trans sx
        have f7 : upd H6 F0 (.lst [V.str wd]) F0 = some (.lst [V.str wd]) := upd_same
        show tSeq _ _ _ _ (upd H6 F0 (.lst [V.str wd]))
        generalize upd H6 F0 (.lst [V.str wd]) = H7 at e7 g7 s7 f7 ⊢
        clear sx e6 g6 s6 hF0
        refine ⟨_, rfl, _, rfl, L, _, rfl, SqL.of g7, fun B hB => ?_⟩
        rw [List.map_cons, cut_tail]
        have sx := same_new (o := .lst (ps.map V.str)) hB
        have e8 := sx _ _ e7
        have g8 := sx _ _ g7
        have s8 := s7.trans sx
        have f8 := sx _ _ f7
        have b8 : upd H7 B (.lst (ps.map V.str)) B = some (.lst (ps.map V.str)) := upd_same
        generalize upd H7 B (.lst (ps.map V.str)) = H8 at e8 g8 s8 f8 b8 ⊢
        clear sx e7 g7 s7 f7 hB
        have dg8 := DGet.k (k := .inr wd) e8
        rw [r2] at dg8
        refine ⟨_, rfl, _, rfl, L, _, 0, _, rfl, rfl, SqL.of g8, a0, p, _, rfl, dg8, ⟨_, rfl⟩, t, rfl, rfl, Nat.le_trans (show _ ≤ 102 by omega) (by decide), fun M2 hM2 => ?_⟩
        rw [r3]
        have sx := same_new (o := .lst (ss.map V.str)) hM2
        have g9 := sx _ _ g8
        have s9 := s8.trans sx
        have f9 := sx _ _ f8
        have b9 := sx _ _ b8
        have m9 : upd H8 M2 (.lst (ss.map V.str)) M2 = some (.lst (ss.map V.str)) := upd_same
        generalize upd H8 M2 (.lst (ss.map V.str)) = H9 at g9 s9 f9 b9 m9 ⊢
        clear sx e8 g8 s8 f8 b8 hM2 dg8
        refine ⟨B, M2, _, _, rfl, SqL.of b9, SqL.of m9, ?_⟩
        have ln : (ps.map V.str).length = min (ps.map V.str).length (ss.map V.str).length := by rw [List.length_map, List.length_map, hl, Nat.min_self]
        have shp : ∀ {i : Nat} {v : Str}, ss[i]? = some v → v ∈ shapeS := fun h => hss _ (List.mem_of_getElem? h)
        refine for_it (walk_zip ln) (fun i σ H' => ∃ (F : Addr) (y4 y5 : Option V), σ = [some (.str x), some (.ref p), some (.ref L), some (.ref F), y4, y5] ∧ Same H9 H' ∧ H' F = some (.lst (.str wd :: ((List.zipWith lawWord ps ss).take i).flatten)))
          ⟨F0, none, none, rfl, Same.refl _, f9⟩ (fun i σ H' _ ⟨_, _, _, _, s, _⟩ => ⟨SqL.of (s _ _ b9), SqL.of (s _ _ m9)⟩) ?_ ?_
        · rintro i v σ G1 G2 hi ⟨F, y4, y5, rfl, q1, q2⟩ ⟨X0, a1, b1, rfl, hX, rfl, ha, hb⟩
          have ha : (ps.map V.str)[i]? = some a1 := ha
          have hb : (ss.map V.str)[i]? = some b1 := hb
          rw [List.getElem?_map] at ha hb
          obtain ⟨pw, hpw, rfl⟩ := Option.map_eq_some_iff.mp ha
          obtain ⟨sw, hsw, rfl⟩ := Option.map_eq_some_iff.mp hb
          have ip := (List.getElem?_eq_some_iff.mp hpw).1
          have s5 := q1.trans (same_new (o := .tup [.str pw, .str sw]) hX)
          have f5 := same_new (o := .tup [.str pw, .str sw]) hX _ _ q2
          refine ⟨X0, _, rfl, SqT.of upd_same, rfl, _, _, rfl, _, _, rfl, rfl, ?_⟩
          generalize upd G1 X0 (.tup [.str pw, .str sw]) = G3 at s5 f5 ⊢
          refine ⟨_, rfl, _, _, _, _, g__law_word T, ok__law_word T, by decide, _, rfl, _, rfl, pw, sw, rfl, shp hsw, fun r G4 s6 nr gr => ?_⟩
          have fl := flat_len (ps := ps) hss i
          have lw := lawWord_len (x := pw) (shp hsw)
          refine ⟨F, r, _, _, rfl, rfl, s6 _ _ f5, gr, Nat.le_trans (show _ ≤ 1000 by rw [List.length_cons]; omega) (by decide), fun F' hF' => ?_⟩
          refine ⟨F', _, _, rfl, (s5.trans s6).trans (same_new hF'), ?_⟩
          have zw : (List.zipWith lawWord ps ss)[i]? = some (lawWord pw sw) := by rw [List.getElem?_zipWith, hpw, hsw]
          rw [upd_same, WB.take_snoc zw, List.flatten_append]
          simp
        · rintro σ G1 ⟨F, y4, y5, rfl, q1, q2⟩
          have s10 := s9.trans q1
          have zl : (List.zipWith lawWord ps ss).length = ps.length := by rw [List.length_zipWith]; omega
          rw [List.length_map, ← zl, List.take_length] at q2
          refine ⟨_, rfl, F, _, rfl, .inl (SqL.of q2), _, rfl, L, _, rfl, .inl (SqL.of (q1 _ _ g9)), rfl, _, rfl, ?_⟩
          have el : decide (V.int (((V.str wd :: (List.zipWith lawWord ps ss).flatten).length : Nat) : Int) = V.int ((((V.str wd :: ps.map V.str).length : Nat)) : Int)) = decide ((V.str wd :: (List.zipWith lawWord ps ss).flatten).length = ps.length + 1) := by
            rw [List.length_cons (as := ps.map V.str), List.length_map]
            exact decide_eq_decide.mpr ⟨fun z => by have := V.int.inj z; omega, fun z => by rw [z]⟩
          show if decide (V.int (((V.str wd :: (List.zipWith lawWord ps ss).flatten).length : Nat) : Int) = V.int ((((V.str wd :: ps.map V.str).length : Nat)) : Int)) = true then _ else _
          rw [el]
          by_cases g : (V.str wd :: (List.zipWith lawWord ps ss).flatten).length = ps.length + 1
          · have lr : lawRow (wd :: ps) = some (V.str wd :: (List.zipWith lawWord ps ss).flatten) := by
              rw [lawRow_cons, r1]
              exact (if_pos hl).trans (if_pos g)
            rw [if_pos (decide_eq_true g)]
            exact ⟨_, rfl, .inl ⟨F, _, rfl, SqL.of q2, fun q hq => k2 _ lr q _ (s10.trans (same_new hq)) (s10.free hq) upd_same⟩⟩
          · have lr : lawRow (wd :: ps) = none := by
              rw [lawRow_cons, r1]
              exact (if_pos hl).trans (if_neg g)
            rw [if_neg (by rw [decide_eq_false g]; decide)]
            exact k1 lr _ s10
      · have lr : lawRow (wd :: ps) = none := by
          rw [lawRow_cons, r1]
          exact if_neg hl
        rw [decide_eq_false hl]
        exact if_t rfl (k1 lr _ s6)
end
end WK
/-! The law's own reader of a text: the whole. -/
namespace WK
open PySem PySem.Spec PyProof.Rows L2 He WB PySem.W
section
variable {P : Program} {w : World} {K : PySem.W.Frag} {mg : Str → Option Value} {base : Heap}
def badK (xss : List (List V)) (k : Nat) : Bool := !deedB (xss.getD k []) || decide (k = 120)
def badsOf (xss : List (List V)) (n : Nat) : List Nat := (List.range n).filter fun k => badK xss k
theorem bads_good {xss : List (List V)} (h : AllGood xss) : badsOf xss xss.length = [] := by
  unfold badsOf
  rw [List.filter_eq_nil_iff]
  intro k hk
  have lk := List.mem_range.mp hk
  have hx : xss[k]? = some (xss.getD k []) := by rw [List.getD_eq_getElem?_getD, List.getElem?_eq_getElem lk]; rfl
  have g := h.2 _ (List.mem_of_getElem? hx)
  unfold badK
  rw [g, decide_eq_false (by have := h.1; omega)]
  decide
theorem bads_first {xss : List (List V)} {pl : Nat} (h : FirstBad xss pl) : ∃ r, badsOf xss xss.length = pl :: r := by
  obtain ⟨h1, h2, h3, h4⟩ := h
  have at_ : ∀ {k : Nat}, k < xss.length → xss[k]? = some (xss.getD k []) := fun {k} lk => by rw [List.getD_eq_getElem?_getD, List.getElem?_eq_getElem lk]; rfl
  obtain ⟨m, e⟩ : ∃ m, xss.length = pl + (m + 1) := ⟨xss.length - pl - 1, by omega⟩
  unfold badsOf
  rw [e, List.range_add, List.filter_append]
  have e0 : (List.range pl).filter (fun k => badK xss k) = [] := by
    rw [List.filter_eq_nil_iff]
    intro k hk
    have lk := List.mem_range.mp hk
    unfold badK
    rw [h3 k _ lk (at_ (by omega)), decide_eq_false (by omega)]
    decide
  have e1 : badK xss pl = true := by
    unfold badK
    rcases h4 with z | ⟨xs, z1, z2⟩
    · rw [decide_eq_true z, Bool.or_true]
    · rw [at_ h1] at z1
      cases z1
      rw [z2]
      rfl
  rw [e0, List.nil_append, List.range_succ_eq_map, List.map_cons, Nat.add_zero, List.filter_cons, if_pos e1]
  exact ⟨_, rfl⟩
/-- what the law found of a row -/
def RowV (H : Hp) (v : V) (xs : List V) : Prop := (deedB xs = false ∧ v = .non) ∨ (deedB xs = true ∧ ∃ p, v = .ref p ∧ H p = some (.tup xs))
theorem RowV.tup {H H' : Hp} {v : V} {xs : List V} (h : RowV H v xs) (s : Tup H H') : RowV H' v xs := by
  rcases h with h | ⟨a, p, b, c⟩
  · exact .inl h
  · exact .inr ⟨a, p, b, s _ _ c⟩
theorem row_refs {H : Hp} : ∀ {vs : List V} {xss : List (List V)}, Paired (RowV H) vs xss → (∀ xs ∈ xss, deedB xs = true) → ∃ ps : List Addr, vs = ps.map V.ref ∧ Paired (TupAt H) ps xss
  | _, _, .nil, _ => ⟨[], rfl, .nil⟩
  | _, _, .cons h t, g => by
    obtain ⟨ps, e, r⟩ := row_refs t fun xs hx => g xs (List.mem_cons_of_mem _ hx)
    rcases h with ⟨a, _⟩ | ⟨_, p, b, c⟩
    · rw [g _ List.mem_cons_self] at a
      cases a
    · exact ⟨p :: ps, by rw [b, e]; rfl, .cons c r⟩
def spLDue : Sp := fun vs H Q _ => ∃ (x : Str), vs = [.str x] ∧ TextB 5000 800 x ∧
  ((AllGood (progOf x) ∧ ∀ r ps H', Same H H' → H r = none → H' r = some (.lst (ps.map V.ref)) → Paired (TupAt H') ps (progOf x) → Q (.ref r) H') ∨ ∃ pl, FirstBad (progOf x) pl ∧ ∀ H', Same H H' → Q (.int (pl : Int)) H')
theorem ok__law_due (T : Tx w K mg) : DefOk ⟨P, w, K, mg, base⟩ 3 (ga K "_law_due") ["_law_text_here"] spLDue := by
  refine DefOk.mk' (f__law_due T) sc__law_due (fun _ _ _ _ _ _ us hl => match us, hl with | [_], _ => rfl) (fun vs H Q E h => ?_) (fun cdv A outer s H vs Q E hr h => ?_)
  · obtain ⟨x, rfl, _⟩ := h
    rfl
  · obtain ⟨x, rfl, tb, k⟩ := h
    have hu := hu_of hr
    refine ⟨_, (pss_cons (ps_set (i := 1) sc__law_due.nd rfl (Or.inl rfl) (pe_ifExp (pt_cmpR op_ne (pv 0) pe_str (nomark _)) (pe_split (pv 0) pe_str) (pe_lst pa_nil))) (pss_cons (ps_set (i := 3) sc__law_due.nd rfl (Or.inr rfl) (pe_lc (own := [("_law_row_here", 2)]) (g := (gName 2)) rfl sc__law_due.nd (pi_list (pv 1)) (blkOk_by (own := [("_law_row_here", 2)]) (N := ["_law_text_here", "_law_rows", "_law_row_here", "_law_found", "_law_k", "_law_bad"]) (sc := defScope s__law_due) (by decide +kernel)) (fun _ _ _ _ _ => (pg_name (i := 2) sc__law_due.nd rfl (Or.inl rfl))) (fun _ _ _ _ _ => by exact pts_nil) (fun _ _ _ _ _ => by exact (pe_cg (M := ⟨P, w, K, mg, base⟩) rfl hr rfl (pa_cons (pv 2) pa_nil))))) (pss_cons (ps_setLc (i := 5) (own := [("_law_k", 4)]) (g := (gName 4)) rfl sc__law_due.nd rfl rfl (sw_true rfl rfl rfl (by decide +kernel)) (pi_range1 rfl (z_range T) (pa_cons (pe_callB call_len_seq (by rfl) (z_len T) PySem.boot_len (pa_cons (pv 3) pa_nil)) pa_nil)) (blkOk_by (own := [("_law_k", 4)]) (N := ["_law_text_here", "_law_rows", "_law_row_here", "_law_found", "_law_k", "_law_bad"]) (sc := defScope s__law_due) (by decide +kernel)) (fun _ _ _ _ _ => (pg_name (i := 4) sc__law_due.nd rfl (Or.inl rfl))) (fun _ _ _ _ _ => by exact (pts_one (PW.pt (pw_or (pt_cmpR op_isN (pe_ix (ixK rIxL rfl ix_list) (pv 3) (pv 4) (fun _ _ => rfl)) pe_non (nomark _)) (pw_or1 (pt_cmpR op_eq (pv 4) pe_int (nomark _))))))) (fun _ _ _ _ _ => by exact (pv 4))) (pss_one (ps_ret (pe_ifExp (pt_cmpR (op_neD hr.units) (pv 5) (pe_lst pa_nil) (nomark _)) (pe_ix ix_list (pv 5) pe_int (fun _ _ => rfl)) (pv 3))))))), ?_⟩
    have lx : x.length + 2 ≤ sizeLine := by
      have := tb.len
      exact Nat.le_trans (show _ ≤ 5000 * (800 + 1) + 2 by omega) (by decide)
    obtain ⟨lr, rb⟩ := tb.rowsT
    refine asgRE (fun v H' => ∃ R, v = .ref R ∧ Same H H' ∧ H' R = some (.lst ((rowsT x).map V.str))) (fun Y kY => ?_) ?_
    · refine ⟨_, rfl, rfl, _, rfl, ?_⟩
      by_cases z : x.length = 0
      · have e0 : x = "" := Str.ext' (Array.toList_inj.mp (by rw [List.length_eq_zero_iff.mp (show x.cps.toList.length = 0 by rw [Array.length_toList]; exact z)]; rfl))
        refine if_f (by rw [e0]; decide +kernel) ⟨by show 0 ≤ sizeLine; decide, fun R hR => kY _ _ ⟨R, rfl, same_new hR, by rw [upd_same]; unfold rowsT; rw [if_pos z]; rfl⟩⟩
      · have e0 : x ≠ "" := fun q => z (by rw [q]; rfl)
        refine if_t (by rw [decide_eq_false fun q => e0 (V.str.inj q)]; rfl) ⟨_, rfl, ⟨_, rfl⟩, x, "\n", rfl, rfl, by decide, lx, fun R hR => kY _ _ ⟨R, rfl, same_new hR, by rw [upd_same]; unfold rowsT; rw [if_neg z]⟩⟩
    rintro v H1 ⟨R, rfl, s1, gR⟩
    refine ⟨_, rfl, R, rfl, ⟨_, SqL.of gR⟩, fun D hD => ?_⟩
    have lpr : (progOf x).length = (rowsT x).length := List.length_map _
    refine lc_list (K := K) (a := R) (xs := (rowsT x).map V.str) (fun i H' => Same H1 H' ∧ ∃ fs : List V, H' D = some (.lst fs) ∧ Paired (RowV H') fs ((progOf x).take i)) ⟨same_new hD, [], upd_same, .nil⟩ (fun i H' _ h => SqL.of (h.1 _ _ gR)) ?_ ?_
    · rintro i v H2 hi ⟨s2, fs, g2, p2⟩
      rw [List.getElem?_map] at hi
      obtain ⟨row, hri, rfl⟩ := Option.map_eq_some_iff.mp hi
      have lrow := rb row (List.mem_of_getElem? hri)
      obtain ⟨⟨wd, wps, spl, lw⟩, _⟩ := words_of row
      have hpi : (progOf x)[i]? = some (tupOf row) := by show ((rowsT x).map tupOf)[i]? = _; rw [List.getElem?_map, hri]; rfl
      have lp := Paired.length p2
      rw [List.length_take] at lp
      have il := (List.getElem?_eq_some_iff.mp hpi).1
      have et : lawRow (Txt.split row " ") = if deedB (tupOf row) = true then some (tupOf row) else none := by unfold tupOf; rw [spl]; exact lawRow_eq wd wps
      have sz : fs.length < sizeLine := Nat.lt_of_le_of_lt (show _ ≤ 5000 by omega) (by decide)
      refine ⟨rfl, _, _, _, _, g__law_row T, ok__law_row T, by decide, _, rfl, row, rfl, lrow, fun en H3 s3 => ?_, fun xs en q H3 s3 nq gq => ?_⟩
      · have db : deedB (tupOf row) = false := by
          cases q : deedB (tupOf row) with
          | false => rfl
          | true => rw [et, if_pos q] at en; cases en
        have g3 := s3 _ _ g2
        have tpD : Tup H3 (upd H3 D (.lst (fs ++ [V.non]))) := tup_upd (by rw [g3]; intro xs z; cases z; rfl)
        refine ⟨_, g3, sz, same_mut (s2.trans s3) hD, fs ++ [.non], upd_same, ?_⟩
        rw [WB.take_snoc hpi]
        exact Paired.app (Paired.imp (fun _ _ z => (z.tup (Same.tup s3)).tup tpD) p2) (.cons (.inl ⟨db, rfl⟩) .nil)
      · have db : deedB (tupOf row) = true ∧ xs = tupOf row := by
          cases q : deedB (tupOf row) with
          | false => rw [et, if_neg (by rw [q]; decide)] at en; cases en
          | true => rw [et, if_pos q] at en; exact ⟨rfl, (Option.some.inj en).symm⟩
        have g3 := s3 _ _ g2
        have tpD : Tup H3 (upd H3 D (.lst (fs ++ [V.ref q]))) := tup_upd (by rw [g3]; intro xs z; cases z; rfl)
        refine ⟨_, g3, sz, same_mut (s2.trans s3) hD, fs ++ [.ref q], upd_same, ?_⟩
        rw [WB.take_snoc hpi]
        exact Paired.app (Paired.imp (fun _ _ z => (z.tup (Same.tup s3)).tup tpD) p2) (.cons (.inr ⟨db.1, q, rfl, tpD _ _ (by rw [gq, db.2])⟩) .nil)
    · rintro H2 ⟨s2, fs, g2, p2⟩
      rw [List.length_map, ← lpr, List.take_length] at p2
      have lp := Paired.length p2
      have s12 := s1.trans s2
      refine ⟨_, rfl, D, fs, rfl, .inl (SqL.of g2), ?_⟩
      have lfs : fs.length ≤ 5000 := by omega
      refine ⟨((fs.length : Nat) : Int), rfl, by omega, by omega, fun B hB => ?_⟩
      have jn : ((fs.length : Nat) : Int).toNat = fs.length := by omega
      rw [jn]
      refine lc_it walk_range (fun i H' => Same H2 H' ∧ H' B = some (.lst (nV (badsOf (progOf x) i)))) ⟨same_new hB, upd_same⟩ (fun _ _ _ _ => trivial) ?_ ?_
      · rintro i v G1 G2 hi ⟨q1, q2⟩ ⟨rfl, ev⟩
        have ev : v = .int (i : Int) := by rw [ev]; show V.int (0 + (i : Int)) = _; rw [Int.zero_add]
        subst ev
        obtain ⟨fv, hfv⟩ : ∃ fv, fs[i]? = some fv := ⟨_, List.getElem?_eq_getElem hi⟩
        obtain ⟨xs, hxs, rv⟩ : ∃ xs, (progOf x)[i]? = some xs ∧ RowV H2 fv xs := by
          rcases Paired.at i p2 with ⟨z, _⟩ | ⟨u, v, z1, z2, z3⟩
          · rw [hfv] at z; cases z
          · rw [hfv] at z1; cases z1; exact ⟨v, z2, z3⟩
        have gx : (progOf x).getD i [] = xs := by rw [List.getD_eq_getElem?_getD, hxs]; rfl
        have eb : badsOf (progOf x) (i + 1) = badsOf (progOf x) i ++ (if badK (progOf x) i = true then [i] else []) := by
          unfold badsOf
          rw [List.range_succ, List.filter_append]
          congr 1
          by_cases z : badK (progOf x) i = true <;> simp [z]
        have lb : (nV (badsOf (progOf x) i)).length < sizeLine := by
          refine Nat.lt_of_le_of_lt (show _ ≤ 5000 from ?_) (by decide)
          unfold nV badsOf
          rw [List.length_map]
          refine Nat.le_trans (List.length_filter_le _ _) ?_
          rw [List.length_range]
          omega
        have yes : badK (progOf x) i = true → ∃ acc, G2 B = some (.lst acc) ∧ acc.length < sizeLine ∧ Same H2 (upd G2 B (.lst (acc ++ [.int (i : Int)]))) ∧ upd G2 B (.lst (acc ++ [.int (i : Int)])) B = some (.lst (nV (badsOf (progOf x) (i + 1)))) := fun z => by
          refine ⟨_, q2, lb, same_mut q1 hB, ?_⟩
          rw [upd_same, eb, if_pos z]
          unfold nV
          rw [List.map_append]
          rfl
        refine ⟨rfl, _, rfl, _, rfl, D, fs, i, fv, rfl, rfl, SqL.of (q1 _ _ g2), atI_nat hfv, rfl, _, rfl, ?_⟩
        rcases rv with ⟨db, rfl⟩ | ⟨db, p, rfl, _⟩
        · refine if_t rfl ⟨_, rfl, yes ?_⟩
          unfold badK
          rw [gx, db]
          rfl
        · refine if_f rfl ⟨_, rfl, rfl, _, rfl, ?_⟩
          by_cases z : i = 120
          · refine if_t (decide_eq_true (by rw [z]; rfl)) ⟨_, rfl, yes ?_⟩
            unfold badK
            rw [decide_eq_true z, Bool.or_true]
          · have nb : badK (progOf x) i = false := by
              unfold badK
              rw [gx, db, decide_eq_false z]
              rfl
            rw [nb, if_neg (by decide), List.append_nil] at eb
            refine if_f (decide_eq_false fun q => z (by have := V.int.inj q; omega)) ⟨q1, ?_⟩
            rw [eb]
            exact q2
      · rintro G1 ⟨q1, q2⟩
        rw [lp] at q2
        have s13 := s12.trans q1
        have gD := q1 _ _ g2
        have eK : nV (badsOf (progOf x) (progOf x).length) = ((badsOf (progOf x) (progOf x).length).map fun (k : Nat) => (k : Int)).map V.int := by unfold nV; rw [List.map_map]; rfl
        refine ⟨_, rfl, by show 0 ≤ sizeLine; decide, fun E0 hE => ?_⟩
        have gB := same_new (o := .lst []) hE _ _ q2
        have s14 := s13.trans (same_new (o := .lst []) hE)
        have s15 := q1.trans (same_new (o := .lst []) hE)
        have gD := same_new (o := .lst []) hE _ _ gD
        have gB2 := gB
        rw [eK] at gB2
        refine ⟨_, _, .lst (SqL.of gB2) (ints_dp _), .lst (SqL.of upd_same) .nil, ints_shaped _, ints_shaped [], _, rfl, ?_⟩
        rw [ints_nil]
        generalize upd G1 E0 (.lst []) = G3 at gB gD s14 s15 ⊢
        rcases k with ⟨ag, k⟩ | ⟨pl, fb, k⟩
        · obtain ⟨ps, e, pt⟩ := row_refs p2 ag.2
          rw [bads_good ag]
          refine if_f rfl ?_
          refine ⟨_, rfl, k D ps G3 s14 (s1.free hD) (by rw [gD, e]) ?_⟩
          exact Paired.imp (fun p xs z => s15 _ _ z) pt
        · obtain ⟨r, e⟩ := bads_first fb
          rw [e] at gB ⊢
          refine if_t rfl ?_
          exact ⟨_, rfl, B, _, 0, _, rfl, rfl, SqL.of gB, atI_nat (j := 0) rfl, k _ s14⟩
end
end WK
/-! A text that the law changed. -/
namespace WK
open PySem PySem.Spec PyProof.Rows L2 He WB PySem.W
open TL (spl spl_nil spl_hit spl_miss pre split_spl kind_ok joinL)
section
variable {P : Program} {w : World} {K : PySem.W.Frag} {mg : Str → Option Value} {base : Heap}
theorem cut_strs (ps : List Str) (lo hi : Option Int) : ∃ qs : List Str, cutV (ps.map V.str) lo hi = qs.map V.str ∧ (∀ r ∈ qs, r ∈ ps) ∧ qs.length ≤ ps.length := by
  unfold cutV
  refine ⟨(ps.drop (HT.sIx (ps.map V.str).length 0 lo)).take (HT.sIx (ps.map V.str).length (ps.map V.str).length hi - HT.sIx (ps.map V.str).length 0 lo), by rw [List.map_take, List.map_drop], fun r hr => List.mem_of_mem_drop (List.mem_of_mem_take hr), ?_⟩
  rw [List.length_take, List.length_drop]
  omega
theorem cut_few (ps : List Str) (k : Nat) : ∃ qs : List Str, cutV (ps.map V.str) (some (k : Int)) (some ((k : Int) + 1)) = qs.map V.str ∧ (∀ r ∈ qs, r ∈ ps) ∧ qs.length ≤ 1 := by
  obtain ⟨qs, e, h1, h2⟩ := cut_strs ps (some (k : Int)) (some ((k : Int) + 1))
  refine ⟨qs, e, h1, ?_⟩
  have l := congrArg List.length e
  have e1 : HT.sIx (ps.map V.str).length 0 (some (k : Int)) = min k (ps.map V.str).length := HT.sIx_nat _ _ k
  have e2 : HT.sIx (ps.map V.str).length (ps.map V.str).length (some ((k : Int) + 1)) = min (k + 1) (ps.map V.str).length := HT.sIx_nat _ _ (k + 1)
  unfold cutV at l
  rw [e1, e2, List.length_take, List.length_drop, List.length_map, List.length_map] at l
  omega
theorem TextB.slice {n m : Nat} {x : Str} (h : TextB n m x) (lo hi : Option Int) : TextB n m (cutS x lo hi) := by
  have h1 : TextB n m (⟨(x.cps.toList.drop (HT.sIx x.length 0 lo)).toArray⟩ : Str) := h.cut _ (.inr rfl)
  exact h1.cut _ (.inl rfl)
theorem rep_strs (qs : List Str) (k : Nat) : (List.replicate k (qs.map V.str)).flatten = ((List.replicate k qs).flatten).map V.str := by
  rw [List.map_flatten, List.map_replicate]
theorem sum_strs {b : Nat} {ps : List Str} (h : ∀ p ∈ ps, p.length ≤ b) : (ps.map (·.length)).sum ≤ ps.length * b := WB.sum_len h
/-- what stays while the rows of a text are handled -/
structure Cf (H Hc : Hp) (h ls R : Addr) (RS : List Str) : Prop where
  st : Stp [h, ls] H Hc
  num : NumAt Hc h ls
  gR : Hc R = some (.lst (RS.map V.str))
  nR : R ∉ [h, ls]
theorem Cf.new {H Hc : Hp} {h ls R Z : Addr} {RS : List Str} {o : HO} (c : Cf H Hc h ls R RS) (hz : Hc Z = none) : Cf H (upd Hc Z o) h ls R RS :=
  ⟨fun a u e n => same_new hz _ _ (c.st a u e n), c.num.same (same_new hz), same_new hz _ _ c.gR, c.nR⟩
theorem Cf.draw {H Hc H' : Hp} {h ls R : Addr} {RS : List Str} (c : Cf H Hc h ls R RS) (s : Stp [h, ls] Hc H') (n : NumAt H' h ls) : Cf H H' h ls R RS :=
  ⟨fun a u e na => s _ _ (c.st a u e na) na, n, s _ _ c.gR c.nR, c.nR⟩
/-- rows that a text may have -/
def RowsB (m : Nat) (qs : List Str) : Prop := ∀ r ∈ qs, 10 ∉ TL.tl r ∧ r.length ≤ m
theorem RowsB.app {m : Nat} {a b : List Str} (x : RowsB m a) (y : RowsB m b) : RowsB m (a ++ b) := fun r hr => (List.mem_append.mp hr).elim (x r) (y r)
theorem RowsB.sub {m : Nat} {a b : List Str} (x : RowsB m a) (s : ∀ r ∈ b, r ∈ a) : RowsB m b := fun r hr => x r (s r hr)
theorem RowsB.mono {m n : Nat} {a : List Str} (x : RowsB m a) (s : m ≤ n) : RowsB n a := fun r hr => ⟨(x r hr).1, Nat.le_trans (x r hr).2 s⟩
theorem RowsB.rep {m : Nat} {a : List Str} (x : RowsB m a) (k : Nat) : RowsB m (List.replicate k a).flatten := fun r hr => by
  obtain ⟨l, hl, hr⟩ := List.mem_flatten.mp hr
  rw [List.eq_of_mem_replicate hl] at hr
  exact x r hr
theorem rep_len (a : List Str) (k : Nat) : ((List.replicate k a).flatten).length = k * a.length := by
  rw [List.length_flatten, List.map_replicate, List.sum_replicate_nat]
/-- the signs of words and of what stands between them -/
def wt (ws : List Str) : Nat := (ws.map fun w => w.length + 1).sum
theorem wt_app (a b : List Str) : wt (a ++ b) = wt a + wt b := by unfold wt; rw [List.map_append, List.sum_append]
theorem joinL_wt : ∀ ps : List (List Nat), (joinL [32] ps).length ≤ (ps.map fun p => p.length + 1).sum
  | [] => Nat.le_refl _
  | [p] => by show p.length ≤ p.length + 1 + 0; omega
  | p :: q :: r => by
    have := joinL_wt (q :: r)
    show (p ++ ([32] ++ joinL [32] (q :: r))).length ≤ p.length + 1 + ((q :: r).map fun p => p.length + 1).sum
    rw [List.length_append, List.length_append]
    show p.length + (1 + _) ≤ _
    omega
theorem join_wt (ws : List Str) : (Txt.join " " ws).length ≤ wt ws := by
  have e : TL.tl (Txt.join " " ws) = joinL [32] (ws.map TL.tl) := by rw [TL.join_eq, TL.tl_join]; rfl
  have h := joinL_wt (ws.map TL.tl)
  rw [← e, ← TL.len_tl, List.map_map] at h
  refine Nat.le_trans h (Nat.le_of_eq (congrArg List.sum (List.map_congr_left fun w _ => ?_)))
  show (TL.tl w).length + 1 = _
  rw [← TL.len_tl]
theorem join_free {ws : List Str} (h : ∀ w ∈ ws, 10 ∉ TL.tl w) : 10 ∉ TL.tl (Txt.join " " ws) := fun z => by
  have e : TL.tl (Txt.join " " ws) = joinL [32] (ws.map TL.tl) := by rw [TL.join_eq, TL.tl_join]; rfl
  rw [e] at z
  rcases joinL_mem z with z | ⟨p, hp, z⟩
  · exact absurd (List.mem_singleton.mp z) (by decide)
  · obtain ⟨w, hw, rfl⟩ := List.mem_map.mp hp
    exact h w hw z
theorem spl_back : ∀ (l acc : List Nat), ((spl [32] 0 acc l).map fun p => p.length + 1).sum = acc.length + l.length + 1
  | [], acc => by rw [spl_nil]; rfl
  | c :: l, acc => by
    cases h : pre [32] (c :: l) with
    | true =>
      have e0 : [32].length - 1 = 0 := rfl
      rw [spl_hit h, e0, List.map_cons, List.sum_cons, spl_back l []]
      simp only [List.length_nil, List.length_cons]
      omega
    | false =>
      rw [spl_miss h, spl_back l (acc ++ [c])]
      simp only [List.length_append, List.length_cons, List.length_nil]
      omega
theorem wt_split (r : Str) : wt (Txt.split r " ") = r.length + 1 := by
  have e : (Txt.split r " ").map TL.tl = spl [32] 0 [] (TL.tl r) := split_spl r " " (by decide +kernel) (kind_ok (by decide +kernel))
  have h := spl_back (TL.tl r) []
  rw [← e, List.map_map, List.length_nil, Nat.zero_add, ← TL.len_tl] at h
  refine Eq.trans (congrArg List.sum (List.map_congr_left fun w _ => ?_)) h
  show _ = (TL.tl w).length + 1
  rw [← TL.len_tl]
theorem cut_take {ws : List Str} {j : Nat} (h : j ≤ ws.length) : cutV (ws.map V.str) none (some (j : Int)) = (ws.take j).map V.str := by
  have e2 : HT.sIx (ws.map V.str).length (ws.map V.str).length (some (j : Int)) = min j (ws.map V.str).length := HT.sIx_nat _ _ j
  unfold cutV
  rw [e2, HT.sIx_none, List.drop_zero, Nat.sub_zero, List.length_map, Nat.min_eq_left h, List.map_take]
theorem cut_drop {ws : List Str} {j : Nat} (h : j < ws.length) : cutV (ws.map V.str) (some ((j : Int) + 1)) none = (ws.drop (j + 1)).map V.str := by
  have e2 : HT.sIx (ws.map V.str).length 0 (some ((j : Int) + 1)) = min (j + 1) (ws.map V.str).length := HT.sIx_nat _ _ (j + 1)
  unfold cutV
  rw [e2, HT.sIx_none, List.length_map, Nat.min_eq_left (by omega), List.map_drop, List.take_of_length_le]
  rw [List.length_drop, List.length_map]
  exact Nat.le_refl _
theorem wt_at {ws : List Str} {j : Nat} {w : Str} (h : ws[j]? = some w) : wt (ws.take j) + (w.length + 1) + wt (ws.drop (j + 1)) = wt ws := by
  obtain ⟨lt, e⟩ := List.getElem?_eq_some_iff.mp h
  have s : ws = ws.take j ++ (w :: ws.drop (j + 1)) := by
    rw [← e, ← List.drop_eq_getElem_cons lt, List.take_append_drop]
  have z := congrArg wt s
  rw [wt_app] at z
  rw [z]
  show _ = _ + (w.length + 1 + wt (ws.drop (j + 1)))
  omega
def oddW : List Str := ["", "-", "0", "00", "9", "10", "99", "100", "p", "x", "a", "e", "row", "settle", "Say", "pq"]
theorem odd_word : ∀ x ∈ oddW, x.length ≤ 6 ∧ 10 ∉ TL.tl x := by decide +kernel
def spChanged : Sp := fun vs H Q _ => ∃ (h ls : Addr) (x : Str) (n m : Nat), vs = [.ref h, .str x] ∧ NumAt H h ls ∧ TextB n m x ∧ 1 ≤ n ∧ n ≤ 1000 ∧ m ≤ 300 ∧ ∀ y H', TextB (2 * n + 130) (2 * m + 10) y → Stp [h, ls] H H' → NumAt H' h ls → Q (.str y) H'
theorem ok__law_changed (T : Tx w K mg) : DefOk ⟨P, w, K, mg, base⟩ 3 (ga K "_law_changed") ["_law_h", "_law_text_here"] spChanged := by
  refine DefOk.mk' (f__law_changed T) sc__law_changed (fun _ _ _ _ _ _ us hl => match us, hl with | [_, _], _ => rfl) (fun vs H Q E h => ?_) (fun cdv A outer s H vs Q E hr h => ?_)
  · obtain ⟨h, ls, x, n, m, rfl, _⟩ := h
    rfl
  · obtain ⟨h, ls, x, n, m, rfl, num, tb, n1, n2, m2, k⟩ := h
    have hu := hu_of hr
    refine ⟨_, (pss_cons (ps_set (i := 2) sc__law_changed.nd rfl (Or.inl rfl) (pe_cg (M := ⟨P, w, K, mg, base⟩) rfl hr rfl (pa_cons (pv 0) (pa_cons pe_int pa_nil)))) (pss_cons (ps_set (i := 3) sc__law_changed.nd rfl (Or.inl rfl) (pe_cg (M := ⟨P, w, K, mg, base⟩) rfl hr rfl (pa_cons (pv 0) (pa_cons (pe_op op_add (pe_callB call_len_str (by rfl) (z_len T) PySem.boot_len (pa_cons (pv 1) pa_nil)) pe_int) pa_nil)))) (pss_cons (ps_set (i := 4) sc__law_changed.nd rfl (Or.inl rfl) (pe_ix ix_str pe_str (pe_cg (M := ⟨P, w, K, mg, base⟩) rfl hr rfl (pa_cons (pv 0) (pa_cons pe_int pa_nil))) (fun _ _ => rfl))) (pss_cons (ps_if (pt_cmpR op_lt (pv 2) pe_int (nomark _)) (pss_one (ps_ret (pe_op op_add_str (pe_op op_add_str (pe_slice sl_str (pv 1) po_none (po_some (pv 3))) (pe_ix ix_list (pe_lst (pa_cons (pv 4) (pa_cons pe_str (pa_cons (pv 4) pa_nil)))) (pv 2) (fun _ _ => rfl))) (pe_slice sl_str (pv 1) (po_some (pe_op op_add (pv 3) (pe_callTy call_int1 (by rfl) (z_int T) (by decide +kernel) (pa_cons (pe_cmpR op_gt (pv 2) pe_int (nomark _)) pa_nil)))) po_none)))) pss_nil) (pss_cons (ps_set (i := 5) sc__law_changed.nd rfl (Or.inl rfl) (pe_split (pv 1) pe_str)) (pss_cons (ps_set (i := 6) sc__law_changed.nd rfl (Or.inl rfl) (pe_cg (M := ⟨P, w, K, mg, base⟩) rfl hr rfl (pa_cons (pv 0) (pa_cons (pe_callB call_len_seq (by rfl) (z_len T) PySem.boot_len (pa_cons (pv 5) pa_nil)) pa_nil)))) (pss_cons (ps_if (pt_cmpR op_lt (pv 2) pe_int (nomark _)) (pss_cons (ps_set (i := 7) sc__law_changed.nd rfl (Or.inl rfl) (pe_lst (pa_cons (pe_op op_cat (pe_slice sl_list (pv 5) po_none (po_some (pv 6))) (pe_slice sl_list (pv 5) (po_some (pe_op op_add (pv 6) pe_int)) po_none)) (pa_cons (pe_op op_cat (pe_op op_cat (pe_slice sl_list (pv 5) po_none (po_some (pv 6))) (pe_op op_rep (pe_slice sl_list (pv 5) (po_some (pv 6)) (po_some (pe_op op_add (pv 6) pe_int))) (pe_ix ix_list (pe_lst (pa_cons pe_int (pa_cons pe_int pa_nil))) (pe_cg (M := ⟨P, w, K, mg, base⟩) rfl hr rfl (pa_cons (pv 0) (pa_cons pe_int pa_nil))) (fun _ _ => rfl)))) (pe_slice sl_list (pv 5) (po_some (pe_op op_add (pv 6) pe_int)) po_none)) pa_nil)))) (pss_one (ps_ret (pe_join pe_str (pe_ix ix_list (pe_op op_cat (pv 7) (pe_lst (pa_cons (pe_op op_cat (pe_slice sl_list (pv 5) (po_some (pv 6)) po_none) (pe_slice sl_list (pv 5) po_none (po_some (pv 6)))) pa_nil))) (pe_op op_sub (pv 2) pe_int) (fun _ _ => rfl)))))) pss_nil) (pss_cons (ps_set (i := 8) sc__law_changed.nd rfl (Or.inl rfl) (pe_split (pe_ix ix_list (pv 5) (pv 6) (fun _ _ => rfl)) pe_str)) (pss_cons (ps_set (i := 9) sc__law_changed.nd rfl (Or.inl rfl) (pe_cg (M := ⟨P, w, K, mg, base⟩) rfl hr rfl (pa_cons (pv 0) (pa_cons (pe_callB call_len_seq (by rfl) (z_len T) PySem.boot_len (pa_cons (pv 8) pa_nil)) pa_nil)))) (pss_cons (ps_set (i := 10) sc__law_changed.nd rfl (Or.inl rfl) (pe_lst (pa_cons pe_str (pa_cons pe_str (pa_cons pe_str (pa_cons pe_str (pa_cons pe_str (pa_cons pe_str (pa_cons pe_str (pa_cons pe_str (pa_cons pe_str (pa_cons pe_str (pa_cons pe_str (pa_cons pe_str (pa_cons pe_str (pa_cons pe_str (pa_cons pe_str (pa_cons pe_str pa_nil)))))))))))))))))) (pss_cons (ps_set (i := 8) sc__law_changed.nd rfl (Or.inl rfl) (pe_op op_cat (pe_op op_cat (pe_slice sl_list (pv 8) po_none (po_some (pv 9))) (pe_ix ix_list (pe_lst (pa_cons (pe_lst pa_nil) (pa_cons (pe_lst (pa_cons (pe_ix ix_list (pv 8) (pv 9) (fun _ _ => rfl)) (pa_cons (pe_ix ix_list (pv 8) (pv 9) (fun _ _ => rfl)) pa_nil))) (pa_cons (pe_lst (pa_cons (pe_ix ix_list (pv 10) (pe_cg (M := ⟨P, w, K, mg, base⟩) rfl hr rfl (pa_cons (pv 0) (pa_cons pe_int pa_nil))) (fun _ _ => rfl)) pa_nil)) pa_nil)))) (pe_op op_sub (pv 2) pe_int) (fun _ _ => rfl))) (pe_slice sl_list (pv 8) (po_some (pe_op op_add (pv 9) pe_int)) po_none))) (pss_one (ps_ret (pe_join pe_str (pe_op op_cat (pe_op op_cat (pe_slice sl_list (pv 5) po_none (po_some (pv 6))) (pe_lst (pa_cons (pe_join pe_str (pv 8)) pa_nil))) (pe_slice sl_list (pv 5) (po_some (pe_op op_add (pv 6) pe_int)) po_none)))))))))))))))), ?_⟩
    have lx := tb.len
    have lx2 : x.length ≤ 301000 := Nat.le_trans lx (Nat.mul_le_mul n2 (by omega : m + 1 ≤ 301))
    have lxs : x.length + 2 ≤ sizeLine := Nat.le_trans (show _ ≤ 301002 by omega) (by decide)
    refine ⟨_, _, _, _, g__law_next T, ok__law_next T, by decide, _, rfl, h, ls, 9, rfl, num, by decide, by decide, fun v1 H1 v10 v11 st1 num1 => ?_⟩
    obtain ⟨t, rfl⟩ := nat_of v10
    refine ⟨_, _, _, _, g__law_next T, ok__law_next T, by decide, _, rfl, _, rfl, x, rfl, by omega, _, _, rfl, rfl, h, ls, (x.length : Int) + 1, rfl, num1, by omega, by omega, fun v2 H2 v20 v21 st2 num2 => ?_⟩
    obtain ⟨at_, rfl⟩ := nat_of v20
    refine ⟨_, _, _, _, g__law_next T, ok__law_next T, by decide, _, rfl, h, ls, 22, rfl, num2, by decide, by decide, fun v3 H3 v30 v31 st3 num3 => ?_⟩
    obtain ⟨sj, rfl⟩ := nat_of v30
    have st13 : Stp [h, ls] H H3 := fun b o e nb => st3 _ _ (st2 _ _ (st1 _ _ e nb) nb) nb
    obtain ⟨sg, hsg⟩ : ∃ c, (("0123456789 -\npqwxaedbs" : Str)).cps.toList[sj]? = some c := ⟨_, List.getElem?_eq_getElem (by
      have e : (("0123456789 -\npqwxaedbs" : Str)).cps.toList.length = 22 := by decide +kernel
      omega)⟩
    refine ⟨_, _, _, rfl, rfl, by rw [sizeLine_eq]; decide +kernel, atI_nat hsg, ?_⟩
    clear st1 st2 st3 num1 num2 hsg
    by_cases t3 : t < 3
    · refine ⟨_, rfl, _, _, rfl, rfl, _, rfl, if_t (decide_eq_true (by omega)) ?_⟩
      obtain ⟨s0, hs0, ls0⟩ : ∃ s0 : Str, ([V.str ⟨#[sg]⟩, .str "", .str ⟨#[sg]⟩] : List V)[t]? = some (.str s0) ∧ s0.length ≤ 1 := by
        have : t = 0 ∨ t = 1 ∨ t = 2 := by omega
        rcases this with rfl | rfl | rfl
        · exact ⟨_, rfl, Nat.le_refl _⟩
        · exact ⟨_, rfl, Nat.zero_le _⟩
        · exact ⟨_, rfl, Nat.le_refl _⟩
      refine ⟨_, rfl, _, rfl, _, rfl, x, rfl, by omega, ?_⟩
      refine ⟨_, rfl, _, rfl, by show 3 ≤ sizeLine; decide, fun G hG => ?_⟩
      refine ⟨_, rfl, G, _, (t : Int), _, rfl, rfl, SqL.of upd_same, atI_nat hs0, ?_⟩
      have c1 := cutS_length x none (some (at_ : Int))
      refine ⟨_, _, rfl, rfl, by rw [sizeLine_eq] at *; omega, ?_⟩
      refine ⟨_, rfl, _, rfl, _, rfl, _, _, rfl, rfl, .inr ⟨_, rfl, _, _, rfl, rfl, _, rfl, x, rfl, by omega, ?_⟩⟩
      have c2 := cutS_length x (some ((at_ : Int) + (if decide ((0 : Int) < (t : Int)) = true then 1 else 0))) none
      refine ⟨_, _, rfl, rfl, ?_, ?_⟩
      · have e : (cutS x none (some (at_ : Int)) ++ s0).length = (cutS x none (some (at_ : Int))).length + s0.length := PySem.Str.length_append ..
        rw [e, sizeLine_eq]
        rw [sizeLine_eq] at lxs
        omega
      · have y1 := ((tb.slice none (some (at_ : Int))).app (TextB.sign ls0)).app (tb.slice (some ((at_ : Int) + (if decide ((0 : Int) < (t : Int)) = true then 1 else 0))) none)
        exact k _ _ (y1.mono (by omega) (by omega)) (st13.trans' (Stp.of_same (same_new hG))) (num3.same (same_new hG))
    refine ⟨_, rfl, _, _, rfl, rfl, _, rfl, if_f (decide_eq_false (by omega)) ?_⟩
    obtain ⟨rs0, rs1, rs2⟩ := tb.split
    refine ⟨_, rfl, ⟨_, rfl⟩, x, "\n", rfl, rfl, by decide, lxs, fun R hR => ?_⟩
    generalize Txt.split x "\n" = RS at rs0 rs1 rs2 ⊢
    have c0 : Cf H (upd H3 R (.lst (RS.map V.str))) h ls R RS := ⟨st13.trans' (Stp.of_same (same_new hR)), num3.same (same_new hR), upd_same, NumAt.fresh num3 hR⟩
    show gName 5 (V.ref R) _ (upd H3 R (.lst (RS.map V.str))) _
    generalize upd H3 R (.lst (RS.map V.str)) = H4 at c0 ⊢
    have lr0 : 0 < RS.length := List.length_pos_iff.mpr rs0
    refine ⟨_, _, _, _, g__law_next T, ok__law_next T, by decide, _, rfl, _, rfl, R, _, rfl, .inl (SqL.of c0.gR), h, ls, _, rfl, c0.num, by rw [List.length_map]; omega, by rw [List.length_map]; omega, fun v4 H5 v40 v41 st5 num5 => ?_⟩
    rw [List.length_map] at v41
    obtain ⟨kk, rfl⟩ := nat_of v40
    have c1 := c0.draw st5 num5
    clear c0 st5 num5 st13 num3 hR
    have one : ((("\n" : Str)).length) = 1 := rfl
    obtain ⟨a1, ea1, ma1, la1⟩ := cut_strs RS none (some (kk : Int))
    obtain ⟨a2, ea2, ma2, la2⟩ := cut_strs RS (some ((kk : Int) + 1)) none
    have R1 : RowsB m a1 := RowsB.sub rs2 ma1
    have R2 : RowsB m a2 := RowsB.sub rs2 ma2
    by_cases t6 : t < 6
    · refine ⟨_, rfl, _, _, rfl, rfl, _, rfl, if_t (decide_eq_true (by omega)) ?_⟩
      obtain ⟨b2, eb2, mb2, lb2⟩ := cut_few RS kk
      obtain ⟨c2, ec2, mc2, lc2⟩ := cut_strs RS (some (kk : Int)) none
      have R3 : RowsB m b2 := RowsB.sub rs2 mb2
      have R4 : RowsB m c2 := RowsB.sub rs2 mc2
      -- rows[:k] + rows[k + 1:]
      refine ⟨_, rfl, _, rfl, _, rfl, R, _, rfl, SqL.of c1.gR, fun Z1 z1 => ?_⟩
      rw [ea1]
      have c2' := c1.new (o := .lst (a1.map V.str)) z1
      have g1 : upd H5 Z1 (.lst (a1.map V.str)) Z1 = some (.lst (a1.map V.str)) := upd_same
      generalize upd H5 Z1 (.lst (a1.map V.str)) = G1 at c2' g1 ⊢
      refine ⟨_, rfl, _, rfl, _, _, rfl, rfl, _, rfl, R, _, rfl, SqL.of c2'.gR, fun Z2 z2 => ?_⟩
      rw [ea2]
      have c3 := c2'.new (o := .lst (a2.map V.str)) z2
      have g1 := same_new (o := .lst (a2.map V.str)) z2 _ _ g1
      have g2 : upd G1 Z2 (.lst (a2.map V.str)) Z2 = some (.lst (a2.map V.str)) := upd_same
      generalize upd G1 Z2 (.lst (a2.map V.str)) = G2 at c3 g1 g2 ⊢
      refine ⟨Z1, Z2, _, _, rfl, rfl, g1, g2, Nat.le_trans (show _ ≤ 2000 by rw [List.length_map, List.length_map]; omega) (by decide), fun Z3 z3 => ?_⟩
      rw [← List.map_append]
      have c4 := c3.new (o := .lst ((a1 ++ a2).map V.str)) z3
      have n3 := NumAt.fresh c3.num z3
      have g3 : upd G2 Z3 (.lst ((a1 ++ a2).map V.str)) Z3 = some (.lst ((a1 ++ a2).map V.str)) := upd_same
      generalize upd G2 Z3 (.lst ((a1 ++ a2).map V.str)) = G3 at c4 g3 ⊢
      clear c1 c2' c3 g1 g2 z1 z2 z3
      -- rows[:k] + rows[k:k + 1] * .. + rows[k + 1:]
      refine ⟨_, rfl, _, rfl, _, rfl, R, _, rfl, SqL.of c4.gR, fun Z4 z4 => ?_⟩
      rw [ea1]
      have c5 := c4.new (o := .lst (a1.map V.str)) z4
      have n4 := NumAt.fresh c4.num z4
      have g3 := same_new (o := .lst (a1.map V.str)) z4 _ _ g3
      have g4 : upd G3 Z4 (.lst (a1.map V.str)) Z4 = some (.lst (a1.map V.str)) := upd_same
      generalize upd G3 Z4 (.lst (a1.map V.str)) = G4 at c5 g3 g4 ⊢
      refine ⟨_, rfl, _, rfl, _, rfl, _, rfl, _, _, rfl, rfl, _, rfl, R, _, rfl, SqL.of c5.gR, fun Z5 z5 => ?_⟩
      rw [eb2]
      have c6 := c5.new (o := .lst (b2.map V.str)) z5
      have n5 := NumAt.fresh c5.num z5
      have g3 := same_new (o := .lst (b2.map V.str)) z5 _ _ g3
      have g4 := same_new (o := .lst (b2.map V.str)) z5 _ _ g4
      have g5 : upd G4 Z5 (.lst (b2.map V.str)) Z5 = some (.lst (b2.map V.str)) := upd_same
      generalize upd G4 Z5 (.lst (b2.map V.str)) = G5 at c6 g3 g4 g5 ⊢
      clear c4 c5 z4 z5
      refine ⟨by show 2 ≤ sizeLine; decide, fun Z6 z6 => ?_⟩
      have c7 := c6.new (o := .lst [V.int 2, V.int 121]) z6
      have n6 := NumAt.fresh c6.num z6
      have g3 := same_new (o := .lst [V.int 2, V.int 121]) z6 _ _ g3
      have g4 := same_new (o := .lst [V.int 2, V.int 121]) z6 _ _ g4
      have g5 := same_new (o := .lst [V.int 2, V.int 121]) z6 _ _ g5
      have g6 : upd G5 Z6 (.lst [V.int 2, V.int 121]) Z6 = some (.lst [V.int 2, V.int 121]) := upd_same
      show tCG _ _ _ _ _ (upd G5 Z6 (.lst [V.int 2, V.int 121])) _
      generalize upd G5 Z6 (.lst [V.int 2, V.int 121]) = G6 at c7 g3 g4 g5 g6 ⊢
      refine ⟨_, _, _, _, g__law_next T, ok__law_next T, by decide, _, rfl, h, ls, 2, rfl, c7.num, by decide, by decide, fun v5 G7 v50 v51 st7 num7 => ?_⟩
      obtain ⟨dd, rfl⟩ := nat_of v50
      have c8 := c7.draw st7 num7
      have g3 := st7 _ _ g3 n3
      have g4 := st7 _ _ g4 n4
      have g5 := st7 _ _ g5 n5
      have g6 := st7 _ _ g6 n6
      clear c6 c7 z6 n4 n5 n6 st7 num7
      obtain ⟨rp, hrp, rp2⟩ : ∃ rp : Nat, ([V.int 2, V.int 121] : List V)[dd]? = some (.int (rp : Int)) ∧ rp ≤ 121 := by
        have : dd = 0 ∨ dd = 1 := by omega
        rcases this with rfl | rfl
        · exact ⟨2, rfl, by decide⟩
        · exact ⟨121, rfl, by decide⟩
      refine ⟨Z6, _, (dd : Int), _, rfl, rfl, SqL.of g6, atI_nat hrp, ?_⟩
      have lrep : rp * b2.length ≤ 121 := Nat.le_trans (Nat.mul_le_mul rp2 lb2) (by decide)
      refine ⟨Z5, (rp : Int), _, rfl, rfl, g5, by omega, by omega, ?_, fun Z7 z7 => ?_⟩
      · rw [List.length_map, Int.toNat_natCast, Nat.mul_comm]
        exact Nat.le_trans lrep (by decide)
      rw [Int.toNat_natCast, rep_strs]
      have lfl := rep_len b2 rp
      have R5 : RowsB m (List.replicate rp b2).flatten := R3.rep rp
      generalize (List.replicate rp b2).flatten = d2 at lfl R5 ⊢
      have c9 := c8.new (o := .lst (d2.map V.str)) z7
      have g3 := same_new (o := .lst (d2.map V.str)) z7 _ _ g3
      have g4 := same_new (o := .lst (d2.map V.str)) z7 _ _ g4
      have g7 : upd G7 Z7 (.lst (d2.map V.str)) Z7 = some (.lst (d2.map V.str)) := upd_same
      generalize upd G7 Z7 (.lst (d2.map V.str)) = G8 at c9 g3 g4 g7 ⊢
      clear c8 z7 g5 g6
      refine ⟨Z4, Z7, _, _, rfl, rfl, g4, g7, Nat.le_trans (show _ ≤ 2000 by rw [List.length_map, List.length_map]; omega) (by decide), fun Z8 z8 => ?_⟩
      rw [← List.map_append]
      have c10 := c9.new (o := .lst ((a1 ++ d2).map V.str)) z8
      have g3 := same_new (o := .lst ((a1 ++ d2).map V.str)) z8 _ _ g3
      have g8 : upd G8 Z8 (.lst ((a1 ++ d2).map V.str)) Z8 = some (.lst ((a1 ++ d2).map V.str)) := upd_same
      generalize upd G8 Z8 (.lst ((a1 ++ d2).map V.str)) = G9 at c10 g3 g8 ⊢
      clear c9 z8 g4 g7
      refine ⟨_, rfl, _, rfl, _, _, rfl, rfl, _, rfl, R, _, rfl, SqL.of c10.gR, fun Z9 z9 => ?_⟩
      rw [ea2]
      have c11 := c10.new (o := .lst (a2.map V.str)) z9
      have g3 := same_new (o := .lst (a2.map V.str)) z9 _ _ g3
      have g8 := same_new (o := .lst (a2.map V.str)) z9 _ _ g8
      have g9 : upd G9 Z9 (.lst (a2.map V.str)) Z9 = some (.lst (a2.map V.str)) := upd_same
      generalize upd G9 Z9 (.lst (a2.map V.str)) = G10 at c11 g3 g8 g9 ⊢
      clear c10 z9
      refine ⟨Z8, Z9, _, _, rfl, rfl, g8, g9, Nat.le_trans (show _ ≤ 4000 by rw [List.length_map, List.length_map, List.length_append]; omega) (by decide), fun Z10 z10 => ?_⟩
      rw [← List.map_append]
      have c12 := c11.new (o := .lst ((a1 ++ d2 ++ a2).map V.str)) z10
      have g3 := same_new (o := .lst ((a1 ++ d2 ++ a2).map V.str)) z10 _ _ g3
      have g10 : upd G10 Z10 (.lst ((a1 ++ d2 ++ a2).map V.str)) Z10 = some (.lst ((a1 ++ d2 ++ a2).map V.str)) := upd_same
      generalize upd G10 Z10 (.lst ((a1 ++ d2 ++ a2).map V.str)) = G11 at c12 g3 g10 ⊢
      clear c11 z10 g8 g9
      refine ⟨by show 2 ≤ sizeLine; decide, fun Z11 z11 => ?_⟩
      have c13 := c12.new (o := .lst [V.ref Z3, V.ref Z10]) z11
      have g3 := same_new (o := .lst [V.ref Z3, V.ref Z10]) z11 _ _ g3
      have g10 := same_new (o := .lst [V.ref Z3, V.ref Z10]) z11 _ _ g10
      have g11 : upd G11 Z11 (.lst [V.ref Z3, V.ref Z10]) Z11 = some (.lst [V.ref Z3, V.ref Z10]) := upd_same
      show gName _ _ _ (upd G11 Z11 (.lst [V.ref Z3, V.ref Z10])) _
      generalize upd G11 Z11 (.lst [V.ref Z3, V.ref Z10]) = G12 at c13 g3 g10 g11 ⊢
      clear c12 z11
      -- "\n".join((some + [rows[k:] + rows[:k]])[turn - 3])
      refine ⟨⟨_, rfl⟩, _, rfl, _, rfl, _, rfl, _, rfl, R, _, rfl, SqL.of c13.gR, fun Z12 z12 => ?_⟩
      rw [ec2]
      have c14 := c13.new (o := .lst (c2.map V.str)) z12
      have g3 := same_new (o := .lst (c2.map V.str)) z12 _ _ g3
      have g10 := same_new (o := .lst (c2.map V.str)) z12 _ _ g10
      have g11 := same_new (o := .lst (c2.map V.str)) z12 _ _ g11
      have g12 : upd G12 Z12 (.lst (c2.map V.str)) Z12 = some (.lst (c2.map V.str)) := upd_same
      generalize upd G12 Z12 (.lst (c2.map V.str)) = G13 at c14 g3 g10 g11 g12 ⊢
      clear c13 z12
      refine ⟨_, rfl, _, rfl, _, rfl, R, _, rfl, SqL.of c14.gR, fun Z13 z13 => ?_⟩
      rw [ea1]
      have c15 := c14.new (o := .lst (a1.map V.str)) z13
      have g3 := same_new (o := .lst (a1.map V.str)) z13 _ _ g3
      have g10 := same_new (o := .lst (a1.map V.str)) z13 _ _ g10
      have g11 := same_new (o := .lst (a1.map V.str)) z13 _ _ g11
      have g12 := same_new (o := .lst (a1.map V.str)) z13 _ _ g12
      have g13 : upd G13 Z13 (.lst (a1.map V.str)) Z13 = some (.lst (a1.map V.str)) := upd_same
      generalize upd G13 Z13 (.lst (a1.map V.str)) = G14 at c15 g3 g10 g11 g12 g13 ⊢
      clear c14 z13
      refine ⟨Z12, Z13, _, _, rfl, rfl, g12, g13, Nat.le_trans (show _ ≤ 2000 by rw [List.length_map, List.length_map]; omega) (by decide), fun Z14 z14 => ?_⟩
      rw [← List.map_append]
      have c16 := c15.new (o := .lst ((c2 ++ a1).map V.str)) z14
      have g3 := same_new (o := .lst ((c2 ++ a1).map V.str)) z14 _ _ g3
      have g10 := same_new (o := .lst ((c2 ++ a1).map V.str)) z14 _ _ g10
      have g11 := same_new (o := .lst ((c2 ++ a1).map V.str)) z14 _ _ g11
      have g14 : upd G14 Z14 (.lst ((c2 ++ a1).map V.str)) Z14 = some (.lst ((c2 ++ a1).map V.str)) := upd_same
      generalize upd G14 Z14 (.lst ((c2 ++ a1).map V.str)) = G15 at c16 g3 g10 g11 g14 ⊢
      clear c15 z14 g12 g13
      refine ⟨by show 1 ≤ sizeLine; decide, fun Z15 z15 => ?_⟩
      have c17 := c16.new (o := .lst [V.ref Z14]) z15
      have g3 := same_new (o := .lst [V.ref Z14]) z15 _ _ g3
      have g10 := same_new (o := .lst [V.ref Z14]) z15 _ _ g10
      have g11 := same_new (o := .lst [V.ref Z14]) z15 _ _ g11
      have g14 := same_new (o := .lst [V.ref Z14]) z15 _ _ g14
      have g15 : upd G15 Z15 (.lst [V.ref Z14]) Z15 = some (.lst [V.ref Z14]) := upd_same
      refine ⟨Z11, Z15, _, _, rfl, rfl, g11, g15, by show 2 + 1 ≤ sizeLine; decide, fun Z16 z16 => ?_⟩
      generalize upd G15 Z15 (.lst [V.ref Z14]) = G16 at c17 g3 g10 g11 g14 z16 ⊢
      have c18 := c17.new (o := .lst ([V.ref Z3, V.ref Z10] ++ [V.ref Z14])) z16
      have g3 := same_new (o := .lst ([V.ref Z3, V.ref Z10] ++ [V.ref Z14])) z16 _ _ g3
      have g10 := same_new (o := .lst ([V.ref Z3, V.ref Z10] ++ [V.ref Z14])) z16 _ _ g10
      have g14 := same_new (o := .lst ([V.ref Z3, V.ref Z10] ++ [V.ref Z14])) z16 _ _ g14
      have g16 : upd G16 Z16 (.lst ([V.ref Z3, V.ref Z10] ++ [V.ref Z14])) Z16 = some (.lst [V.ref Z3, .ref Z10, .ref Z14]) := upd_same
      generalize upd G16 Z16 (.lst ([V.ref Z3, V.ref Z10] ++ [V.ref Z14])) = G17 at c18 g3 g10 g14 g16 ⊢
      obtain ⟨Zq, qs, hq, gq, Rq, lq⟩ : ∃ (Zq : Addr) (qs : List Str), ([V.ref Z3, .ref Z10, .ref Z14] : List V)[t - 3]? = some (.ref Zq) ∧ G17 Zq = some (.lst (qs.map V.str)) ∧ RowsB m qs ∧ qs.length ≤ 2 * n + 130 := by
        have : t - 3 = 0 ∨ t - 3 = 1 ∨ t - 3 = 2 := by omega
        rcases this with e | e | e <;> rw [e]
        · exact ⟨Z3, _, rfl, g3, R1.app R2, by rw [List.length_append]; omega⟩
        · exact ⟨Z10, _, rfl, g10, (R1.app R5).app R2, by rw [List.length_append, List.length_append]; omega⟩
        · exact ⟨Z14, _, rfl, g14, R4.app R1, by rw [List.length_append]; omega⟩
      have et : (t : Int) - 3 = ((t - 3 : Nat) : Int) := by omega
      refine ⟨_, rfl, _, _, rfl, rfl, Z16, _, _, _, rfl, (by show V.int ((t : Int) - 3) = _; rw [et]), SqL.of g16, atI_nat hq, ?_⟩
      refine ⟨_, Zq, qs, rfl, rfl, .inl (SqL.of gq), ?_, k _ _ ((TextB.join lq (by omega) Rq).mono (Nat.le_refl _) (by omega)) c18.st c18.num⟩
      have z1 := sum_strs (b := m) fun p hp => (Rq p hp).2
      have z2 : qs.length * m ≤ 2130 * 300 := Nat.mul_le_mul (by omega) m2
      rw [one]
      omega
    refine ⟨_, rfl, _, _, rfl, rfl, _, rfl, if_f (decide_eq_false (by omega)) ?_⟩
    obtain ⟨row, hrow⟩ : ∃ row, RS[kk]? = some row := ⟨_, List.getElem?_eq_getElem (by omega)⟩
    obtain ⟨rw1, rw2⟩ := rs2 row (List.mem_of_getElem? hrow)
    have hrow' : (RS.map V.str)[kk]? = some (.str row) := by rw [List.getElem?_map, hrow]; rfl
    obtain ⟨⟨w0, wr, sw, lw⟩, wm⟩ := words_of row
    have wts := wt_split row
    refine ⟨_, rfl, _, rfl, R, _, (kk : Int), _, rfl, rfl, SqL.of c1.gR, atI_nat hrow', ⟨_, rfl⟩, row, " ", rfl, rfl, by decide, Nat.le_trans (show _ ≤ 302 by omega) (by decide), fun W hW => ?_⟩
    have w1 : 0 < (Txt.split row " ").length := by rw [sw, List.length_cons]; omega
    have w2 : (Txt.split row " ").length ≤ 301 := by rw [sw, List.length_cons]; omega
    generalize Txt.split row " " = WS at wm wts w1 w2 ⊢
    have c2 := c1.new (o := .lst (WS.map V.str)) hW
    have nW := NumAt.fresh c1.num hW
    have gW : upd H5 W (.lst (WS.map V.str)) W = some (.lst (WS.map V.str)) := upd_same
    show gName _ _ _ (upd H5 W (.lst (WS.map V.str))) _
    generalize upd H5 W (.lst (WS.map V.str)) = H6 at c2 gW ⊢
    clear c1 hW sw
    refine ⟨_, _, _, _, g__law_next T, ok__law_next T, by decide, _, rfl, _, rfl, W, _, rfl, .inl (SqL.of gW), h, ls, _, rfl, c2.num, by rw [List.length_map]; omega, by rw [List.length_map]; omega, fun v5 H7 v50 v51 st7 num7 => ?_⟩
    rw [List.length_map] at v51
    obtain ⟨jj, rfl⟩ := nat_of v50
    have c3 := c2.draw st7 num7
    have gW := st7 _ _ gW nW
    clear c2 st7 num7
    refine ⟨by show 16 ≤ sizeLine; decide, fun O hO => ?_⟩
    have c4 := c3.new (o := .lst (oddW.map V.str)) hO
    have nO := NumAt.fresh c3.num hO
    have gW := same_new (o := .lst (oddW.map V.str)) hO _ _ gW
    have gO : upd H7 O (.lst (oddW.map V.str)) O = some (.lst (oddW.map V.str)) := upd_same
    show gName _ _ _ (upd H7 O (.lst (oddW.map V.str))) _
    generalize upd H7 O (.lst (oddW.map V.str)) = H8 at c4 gW gO ⊢
    clear c3 hO
    obtain ⟨wj, hwj⟩ : ∃ wj, WS[jj]? = some wj := ⟨_, List.getElem?_eq_getElem (by omega)⟩
    have hwj' : (WS.map V.str)[jj]? = some (.str wj) := by rw [List.getElem?_map, hwj]; rfl
    have wta := wt_at hwj
    obtain ⟨wj1, wj2⟩ := wm wj (List.mem_of_getElem? hwj)
    -- words[:j]
    refine ⟨_, rfl, _, rfl, _, rfl, W, _, rfl, SqL.of gW, fun Y1 y1 => ?_⟩
    rw [cut_take (by omega)]
    have lt1 : (WS.take jj).length ≤ 301 := by rw [List.length_take]; omega
    have c5 := c4.new (o := .lst ((WS.take jj).map V.str)) y1
    have n1' := NumAt.fresh c4.num y1
    have gW := same_new (o := .lst ((WS.take jj).map V.str)) y1 _ _ gW
    have gO := same_new (o := .lst ((WS.take jj).map V.str)) y1 _ _ gO
    have g1 : upd H8 Y1 (.lst ((WS.take jj).map V.str)) Y1 = some (.lst ((WS.take jj).map V.str)) := upd_same
    generalize upd H8 Y1 (.lst ((WS.take jj).map V.str)) = G1 at c5 gW gO g1 ⊢
    clear c4 y1
    -- [[], [words[j], words[j]], [odd[..]]]
    refine ⟨by show 0 ≤ sizeLine; decide, fun Y2 y2 => ?_⟩
    have c6 := c5.new (o := .lst []) y2
    have n2' := NumAt.fresh c5.num y2
    have gW := same_new (o := .lst []) y2 _ _ gW
    have gO := same_new (o := .lst []) y2 _ _ gO
    have g1 := same_new (o := .lst []) y2 _ _ g1
    have g2 : upd G1 Y2 (.lst []) Y2 = some (.lst (([] : List Str).map V.str)) := upd_same
    show tCons _ _ _ (upd G1 Y2 (.lst [])) _
    generalize upd G1 Y2 (.lst []) = G2 at c6 gW gO g1 g2 ⊢
    clear c5 y2
    refine ⟨_, rfl, _, rfl, W, _, (jj : Int), _, rfl, rfl, SqL.of gW, atI_nat hwj', ?_⟩
    refine ⟨_, rfl, _, rfl, W, _, (jj : Int), _, rfl, rfl, SqL.of gW, atI_nat hwj', ?_⟩
    refine ⟨by show 2 ≤ sizeLine; decide, fun Y3 y3 => ?_⟩
    have c7 := c6.new (o := .lst [V.str wj, V.str wj]) y3
    have n3' := NumAt.fresh c6.num y3
    have gW := same_new (o := .lst [V.str wj, V.str wj]) y3 _ _ gW
    have gO := same_new (o := .lst [V.str wj, V.str wj]) y3 _ _ gO
    have g1 := same_new (o := .lst [V.str wj, V.str wj]) y3 _ _ g1
    have g2 := same_new (o := .lst [V.str wj, V.str wj]) y3 _ _ g2
    have g3 : upd G2 Y3 (.lst [V.str wj, V.str wj]) Y3 = some (.lst ([wj, wj].map V.str)) := upd_same
    show tCons _ _ _ (upd G2 Y3 (.lst [V.str wj, V.str wj])) _
    generalize upd G2 Y3 (.lst [V.str wj, V.str wj]) = G3 at c7 gW gO g1 g2 g3 ⊢
    clear c6 y3
    refine ⟨_, rfl, _, _, _, _, g__law_next T, ok__law_next T, by decide, _, rfl, h, ls, 16, rfl, c7.num, by decide, by decide, fun v6 G4 v60 v61 st8 num8 => ?_⟩
    obtain ⟨oj, rfl⟩ := nat_of v60
    have c8 := c7.draw st8 num8
    have gW := st8 _ _ gW nW
    have gO := st8 _ _ gO nO
    have g1 := st8 _ _ g1 n1'
    have g2 := st8 _ _ g2 n2'
    have g3 := st8 _ _ g3 n3'
    clear c7 st8 num8 n1' n2' n3' nW nO
    have ol : oddW.length = 16 := rfl
    obtain ⟨ow, how⟩ : ∃ ow, oddW[oj]? = some ow := ⟨_, List.getElem?_eq_getElem (by omega)⟩
    have how' : (oddW.map V.str)[oj]? = some (.str ow) := by rw [List.getElem?_map, how]; rfl
    obtain ⟨ow1, ow2⟩ := odd_word ow (List.mem_of_getElem? how)
    refine ⟨O, _, (oj : Int), _, rfl, rfl, SqL.of gO, atI_nat how', ?_⟩
    refine ⟨by show 1 ≤ sizeLine; decide, fun Y4 y4 => ?_⟩
    have c9 := c8.new (o := .lst [V.str ow]) y4
    have gW := same_new (o := .lst [V.str ow]) y4 _ _ gW
    have g1 := same_new (o := .lst [V.str ow]) y4 _ _ g1
    have g2 := same_new (o := .lst [V.str ow]) y4 _ _ g2
    have g3 := same_new (o := .lst [V.str ow]) y4 _ _ g3
    have g4 : upd G4 Y4 (.lst [V.str ow]) Y4 = some (.lst ([ow].map V.str)) := upd_same
    show tNil _ (upd G4 Y4 (.lst [V.str ow])) _
    generalize upd G4 Y4 (.lst [V.str ow]) = G5 at c9 gW g1 g2 g3 g4 ⊢
    clear c8 y4 gO
    refine ⟨by show 3 ≤ sizeLine; decide, fun Y5 y5 => ?_⟩
    have c10 := c9.new (o := .lst [V.ref Y2, V.ref Y3, V.ref Y4]) y5
    have gW := same_new (o := .lst [V.ref Y2, V.ref Y3, V.ref Y4]) y5 _ _ gW
    have g1 := same_new (o := .lst [V.ref Y2, V.ref Y3, V.ref Y4]) y5 _ _ g1
    have g2 := same_new (o := .lst [V.ref Y2, V.ref Y3, V.ref Y4]) y5 _ _ g2
    have g3 := same_new (o := .lst [V.ref Y2, V.ref Y3, V.ref Y4]) y5 _ _ g3
    have g4 := same_new (o := .lst [V.ref Y2, V.ref Y3, V.ref Y4]) y5 _ _ g4
    have g5 : upd G5 Y5 (.lst [V.ref Y2, V.ref Y3, V.ref Y4]) Y5 = some (.lst [V.ref Y2, .ref Y3, .ref Y4]) := upd_same
    show tOp _ _ _ _ (upd G5 Y5 (.lst [V.ref Y2, V.ref Y3, V.ref Y4])) _
    generalize upd G5 Y5 (.lst [V.ref Y2, V.ref Y3, V.ref Y4]) = G6 at c10 gW g1 g2 g3 g4 g5 ⊢
    clear c9 y5
    obtain ⟨Yq, qs, hq, gq, wq, fq, lq⟩ : ∃ (Yq : Addr) (qs : List Str), ([V.ref Y2, .ref Y3, .ref Y4] : List V)[t - 6]? = some (.ref Yq) ∧ G6 Yq = some (.lst (qs.map V.str)) ∧ wt qs ≤ 2 * (wj.length + 1) + 7 ∧ (∀ w ∈ qs, 10 ∉ TL.tl w) ∧ qs.length ≤ 2 := by
      have : t - 6 = 0 ∨ t - 6 = 1 ∨ t - 6 = 2 := by omega
      rcases this with e | e | e <;> rw [e]
      · exact ⟨Y2, [], rfl, g2, Nat.zero_le _, fun w hw => absurd hw List.not_mem_nil, Nat.zero_le _⟩
      · refine ⟨Y3, [wj, wj], rfl, g3, ?_, fun w hw => ?_, Nat.le_refl _⟩
        · show wj.length + 1 + (wj.length + 1 + 0) ≤ _
          omega
        · have : w = wj := by simpa using hw
          rw [this]; exact fun z => rw1 (wj2 _ z)
      · refine ⟨Y4, [ow], rfl, g4, ?_, fun w hw => ?_, by show 1 ≤ 2; decide⟩
        · show ow.length + 1 + 0 ≤ _
          omega
        · rw [List.mem_singleton.mp hw]; exact ow2
    have et : (t : Int) - 6 = ((t - 6 : Nat) : Int) := by omega
    refine ⟨_, rfl, _, _, rfl, rfl, Y5, _, _, _, rfl, (by show V.int ((t : Int) - 6) = _; rw [et]), SqL.of g5, atI_nat hq, ?_⟩
    refine ⟨Y1, Yq, _, _, rfl, rfl, g1, gq, Nat.le_trans (show _ ≤ 400 by rw [List.length_map, List.length_map]; omega) (by decide), fun Y6 y6 => ?_⟩
    rw [← List.map_append]
    have c11 := c10.new (o := .lst ((WS.take jj ++ qs).map V.str)) y6
    have gW := same_new (o := .lst ((WS.take jj ++ qs).map V.str)) y6 _ _ gW
    have g6 : upd G6 Y6 (.lst ((WS.take jj ++ qs).map V.str)) Y6 = some (.lst ((WS.take jj ++ qs).map V.str)) := upd_same
    generalize upd G6 Y6 (.lst ((WS.take jj ++ qs).map V.str)) = G7 at c11 gW g6 ⊢
    clear c10 y6 g1 g2 g3 g4 g5 gq
    refine ⟨_, rfl, _, rfl, _, _, rfl, rfl, _, rfl, W, _, rfl, SqL.of gW, fun Y7 y7 => ?_⟩
    rw [cut_drop (by omega)]
    have lt2 : (WS.drop (jj + 1)).length ≤ 301 := by rw [List.length_drop]; omega
    have c12 := c11.new (o := .lst ((WS.drop (jj + 1)).map V.str)) y7
    have g6 := same_new (o := .lst ((WS.drop (jj + 1)).map V.str)) y7 _ _ g6
    have g7 : upd G7 Y7 (.lst ((WS.drop (jj + 1)).map V.str)) Y7 = some (.lst ((WS.drop (jj + 1)).map V.str)) := upd_same
    generalize upd G7 Y7 (.lst ((WS.drop (jj + 1)).map V.str)) = G8 at c12 g6 g7 ⊢
    clear c11 y7 gW
    refine ⟨Y6, Y7, _, _, rfl, rfl, g6, g7, Nat.le_trans (show _ ≤ 1000 by rw [List.length_map, List.length_map, List.length_append]; omega) (by decide), fun Y8 y8 => ?_⟩
    rw [← List.map_append]
    have wtn : wt (WS.take jj ++ qs ++ WS.drop (jj + 1)) ≤ 2 * m + 10 := by
      rw [wt_app, wt_app]
      omega
    have frn : ∀ w ∈ WS.take jj ++ qs ++ WS.drop (jj + 1), 10 ∉ TL.tl w := fun w hw => by
      rcases List.mem_append.mp hw with hw | hw
      · rcases List.mem_append.mp hw with hw | hw
        · exact fun z => rw1 ((wm w (List.mem_of_mem_take hw)).2 _ z)
        · exact fq w hw
      · exact fun z => rw1 ((wm w (List.mem_of_mem_drop hw)).2 _ z)
    have lnn : (WS.take jj ++ qs ++ WS.drop (jj + 1)).length ≤ 1000 := by rw [List.length_append, List.length_append]; omega
    generalize WS.take jj ++ qs ++ WS.drop (jj + 1) = NS at wtn frn lnn y8 ⊢
    have c13 := c12.new (o := .lst (NS.map V.str)) y8
    have g8 : upd G8 Y8 (.lst (NS.map V.str)) Y8 = some (.lst (NS.map V.str)) := upd_same
    show gName _ _ _ (upd G8 Y8 (.lst (NS.map V.str))) _
    generalize upd G8 Y8 (.lst (NS.map V.str)) = G9 at c13 g8 ⊢
    clear c12 y8 g6 g7
    have jl := join_wt NS
    have jf := join_free frn
    have sumN : (NS.map (·.length)).sum ≤ wt NS := by
      unfold wt
      clear g8 wtn frn lnn jl jf
      induction NS with
      | nil => exact Nat.le_refl _
      | cons a r ih =>
        rw [List.map_cons, List.sum_cons, List.map_cons, List.sum_cons]
        omega
    -- rows[:k] + [..] + rows[k + 1:]
    refine ⟨⟨_, rfl⟩, _, rfl, _, rfl, _, rfl, R, _, rfl, SqL.of c13.gR, fun X1 x1 => ?_⟩
    rw [ea1]
    have c14 := c13.new (o := .lst (a1.map V.str)) x1
    have g8 := same_new (o := .lst (a1.map V.str)) x1 _ _ g8
    have h1 : upd G9 X1 (.lst (a1.map V.str)) X1 = some (.lst (a1.map V.str)) := upd_same
    generalize upd G9 X1 (.lst (a1.map V.str)) = G10 at c14 g8 h1 ⊢
    clear c13 x1
    have one2 : ((" " : Str)).length = 1 := rfl
    refine ⟨⟨_, rfl⟩, _, rfl, _, Y8, NS, rfl, rfl, .inl (SqL.of g8), by rw [one2]; omega, ?_⟩
    generalize Txt.join " " NS = nw at jl jf ⊢
    refine ⟨by show 1 ≤ sizeLine; decide, fun X2 x2 => ?_⟩
    have c15 := c14.new (o := .lst [V.str nw]) x2
    have h1 := same_new (o := .lst [V.str nw]) x2 _ _ h1
    have h2 : upd G10 X2 (.lst [V.str nw]) X2 = some (.lst ([nw].map V.str)) := upd_same
    refine ⟨X1, X2, _, _, rfl, rfl, h1, h2, Nat.le_trans (show _ ≤ 2000 by rw [List.length_map, List.length_map, List.length_singleton]; omega) (by decide), fun X3 x3 => ?_⟩
    rw [← List.map_append]
    generalize upd G10 X2 (.lst [V.str nw]) = G11 at c15 x3 ⊢
    have c16 := c15.new (o := .lst ((a1 ++ [nw]).map V.str)) x3
    have h3 : upd G11 X3 (.lst ((a1 ++ [nw]).map V.str)) X3 = some (.lst ((a1 ++ [nw]).map V.str)) := upd_same
    generalize upd G11 X3 (.lst ((a1 ++ [nw]).map V.str)) = G12 at c16 h3 ⊢
    clear c14 c15 x2 x3 g8
    refine ⟨_, rfl, _, rfl, _, _, rfl, rfl, _, rfl, R, _, rfl, SqL.of c16.gR, fun X4 x4 => ?_⟩
    rw [ea2]
    have c17 := c16.new (o := .lst (a2.map V.str)) x4
    have h3 := same_new (o := .lst (a2.map V.str)) x4 _ _ h3
    have h4 : upd G12 X4 (.lst (a2.map V.str)) X4 = some (.lst (a2.map V.str)) := upd_same
    generalize upd G12 X4 (.lst (a2.map V.str)) = G13 at c17 h3 h4 ⊢
    refine ⟨X3, X4, _, _, rfl, rfl, h3, h4, Nat.le_trans (show _ ≤ 3000 by rw [List.length_map, List.length_map, List.length_append, List.length_singleton]; omega) (by decide), fun X5 x5 => ?_⟩
    rw [← List.map_append]
    have c18 := c17.new (o := .lst ((a1 ++ [nw] ++ a2).map V.str)) x5
    have h5 : upd G13 X5 (.lst ((a1 ++ [nw] ++ a2).map V.str)) X5 = some (.lst ((a1 ++ [nw] ++ a2).map V.str)) := upd_same
    generalize upd G13 X5 (.lst ((a1 ++ [nw] ++ a2).map V.str)) = G14 at c18 h5 ⊢
    have Rn : RowsB (2 * m + 10) (a1 ++ [nw] ++ a2) := ((R1.mono (by omega)).app (fun r hr => by rw [List.mem_singleton.mp hr]; exact ⟨jf, by omega⟩)).app (R2.mono (by omega))
    have ln : (a1 ++ [nw] ++ a2).length ≤ 2 * n + 130 := by rw [List.length_append, List.length_append, List.length_singleton]; omega
    refine ⟨_, X5, _, rfl, rfl, .inl (SqL.of h5), ?_, k _ _ (TextB.join ln (by omega) Rn) c18.st c18.num⟩
    have z1 := sum_strs (b := 2 * m + 10) fun p hp => (Rn p hp).2
    have z2 : (a1 ++ [nw] ++ a2).length * (2 * m + 10) ≤ 2130 * 610 := Nat.mul_le_mul (by omega) (by omega)
    rw [one]
    omega
end
end WK
namespace WK
open PySem PySem.Spec PyProof.Rows L2 He WB PySem.W
section
variable {P : Program} {w : World} {K : PySem.W.Frag} {mg : Str → Option Value} {base : Heap}
theorem tab_ofE {H H' : Hp} {h ls : Addr} (tb : LamX.TabS H tabP lamQ) (num : NumAt H h ls) (s : Stp [h, ls] H H') : LamX.TabS H' tabP lamQ := by
  obtain ⟨ps, e, _⟩ := id tb
  obtain ⟨_, _, _, eh, el, _⟩ := id num
  have nt : tabP ∉ [h, ls] := fun z => by
    rcases List.mem_cons.mp z with z | z
    · rw [z, eh] at e; cases e
    · rw [List.mem_singleton.mp z, el] at e; cases e
  exact TabS_moved tb (NumAt_tup num s) (by rw [e]; exact s _ _ e nt)
/-- bounds behind so many changes -/
def fN : Nat → Nat
  | 0 => 20
  | i + 1 => 2 * fN i + 130
def fM : Nat → Nat
  | 0 => 28
  | i + 1 => 2 * fM i + 10
theorem f_few {i : Nat} (h : i < 3) : 1 ≤ fN i ∧ fN i ≤ 1000 ∧ fM i ≤ 300 := by
  match i, h with
  | 0, _ => exact ⟨by decide, by decide, by decide⟩
  | 1, _ => exact ⟨by decide, by decide, by decide⟩
  | 2, _ => exact ⟨by decide, by decide, by decide⟩
theorem f_all {i : Nat} (h : i ≤ 3) : fN i ≤ 5000 ∧ fM i ≤ 800 := by
  match i, h with
  | 0, _ => exact ⟨by decide, by decide⟩
  | 1, _ => exact ⟨by decide, by decide⟩
  | 2, _ => exact ⟨by decide, by decide⟩
  | 3, _ => exact ⟨by decide, by decide⟩
theorem TextB.prog {ds : List Deed} (hd : ∀ d ∈ ds, d.ok) (l : ds.length ≤ 20) : TextB 20 28 (progS ds) := by
  refine TextB.join (by rw [List.length_map]; exact l) (by decide) fun r hr => ?_
  obtain ⟨d, h, rfl⟩ := List.mem_map.mp hr
  exact ⟨(row_facts d (hd d h)).2.2, (row_facts d (hd d h)).1⟩
def oddS : List Str := ["", " ", "\n", "settle", "settle ", "settle\n", "say", "say p ", "num p 07", "last p", "last - p", "put p - q"]
def textC (x : Str) : Bool := decide (TL.tl x = TL.joinL [10] (TL.spl [10] 0 [] (TL.tl x))) && decide ((TL.spl [10] 0 [] (TL.tl x)).length ≤ 5000) && !(TL.spl [10] 0 [] (TL.tl x)).isEmpty && (TL.spl [10] 0 [] (TL.tl x)).all fun r => decide (10 ∉ r) && decide (r.length ≤ 800)
theorem textC_ok {x : Str} (h : textC x = true) : TextB 5000 800 x := by
  unfold textC at h
  rw [Bool.and_eq_true, Bool.and_eq_true, Bool.and_eq_true] at h
  obtain ⟨⟨⟨h1, h2⟩, h3⟩, h4⟩ := h
  refine ⟨_, of_decide_eq_true h1, fun z => ?_, of_decide_eq_true h2, fun r hr => ?_⟩
  · rw [z] at h3
    cases h3
  · have q := List.all_eq_true.mp h4 r hr
    rw [Bool.and_eq_true] at q
    exact ⟨of_decide_eq_true q.1, of_decide_eq_true q.2⟩
theorem odd_text : ∀ x ∈ oddS, TextB 5000 800 x := fun x hx => textC_ok ((show ∀ x ∈ oddS, textC x = true by decide +kernel) x hx)
theorem numV_forms (x : Str) : numV x = .non ∨ (∃ i : Int, numV x = .int i ∧ 0 ≤ i ∧ i ≤ 99) ∨ ∃ z, numV x = .str z := by
  unfold numV
  by_cases h : x ∈ figS
  · rw [if_pos h]
    refine .inr (.inl ⟨_, rfl, by omega, ?_⟩)
    have := List.idxOf_lt_length_iff.mpr h
    have l100 : figS.length = 100 := by decide +kernel
    omega
  · rw [if_neg h]
    exact .inr (.inr ⟨_, rfl⟩)
theorem partV_forms (s x : Str) : partV s x = .non ∨ (∃ i : Int, partV s x = .int i ∧ 0 ≤ i ∧ i ≤ 99) ∨ ∃ z, partV s x = .str z := by
  unfold partV
  split
  · exact .inl rfl
  · split
    · exact numV_forms x
    · exact .inr (.inr ⟨_, rfl⟩)
theorem rowV_forms (sh ws : List Str) : ∀ v ∈ rowV sh ws, v = .non ∨ (∃ i : Int, v = .int i ∧ 0 ≤ i ∧ i ≤ 99) ∨ ∃ x, v = .str x := by
  cases ws with
  | nil => intro v hv; cases hv
  | cons w ps =>
    intro v hv
    have hv : v ∈ V.str w :: (if ps.length = sh.length then List.zipWith partV sh ps else ps.map V.str) := hv
    rcases List.mem_cons.mp hv with rfl | hv
    · exact .inr (.inr ⟨_, rfl⟩)
    · by_cases h : ps.length = sh.length
      · rw [if_pos h] at hv
        obtain ⟨i, hi⟩ := List.getElem?_of_mem hv
        rw [List.getElem?_zipWith] at hi
        split at hi
        · cases hi; exact partV_forms _ _
        · cases hi
      · rw [if_neg h] at hv
        obtain ⟨z, _, rfl⟩ := List.mem_map.mp hv
        exact .inr (.inr ⟨_, rfl⟩)
def tupT (xs : List V) : Tr := .tup (xs.map argT)
theorem rep_tups {H : Hp} {x : Str} (tb : TextB 5000 800 x) : ∀ {ps : List Addr} {xss : List (List V)}, Paired (TupAt H) ps xss → (∀ xs ∈ xss, xs ∈ progOf x) → Paired (RepN H 2) (ps.map V.ref) (xss.map tupT)
  | _, _, .nil, _ => .nil
  | _, _, .cons h t, m => by
    refine .cons ?_ (rep_tups tb t fun xs hx => m xs (List.mem_cons_of_mem _ hx))
    obtain ⟨row, hr, e⟩ := List.mem_map.mp (m _ List.mem_cons_self)
    have lrow := tb.rowsT.2 row hr
    obtain ⟨⟨wd, wps, spl, lw⟩, _⟩ := words_of row
    have et : tupOf row = rowV (shOf (wd :: wps)) (wd :: wps) := by unfold tupOf; rw [spl]
    rw [et] at e
    subst e
    exact ⟨_, _, rfl, h, by rw [List.length_map, rowV_len]; omega, rep_args (rowV_forms _ _)⟩
theorem rep_prog {H : Hp} {x : Str} (tb : TextB 5000 800 x) {r : Addr} {ps : List Addr} (e : H r = some (.lst (ps.map V.ref))) (hp : Paired (TupAt H) ps (progOf x)) (l : (progOf x).length ≤ 120) : RepN H 3 (.ref r) (.lst ((progOf x).map tupT)) :=
  ⟨r, _, rfl, e, by rw [List.length_map]; omega, rep_tups tb hp fun _ h => h⟩
/-- what stays through the law -/
structure I27 (H : Hp) (h ls od : Addr) : Prop where
  num : NumAt H h ls
  tb : LamX.TabS H tabP lamQ
  od : H od = some (.lst (oddS.map V.str))
theorem I27.same {H H' : Hp} {h ls od : Addr} (x : I27 H h ls od) (s : Same H H') : I27 H' h ls od := ⟨x.num.same s, x.tb.ext s, s _ _ x.od⟩
theorem I27.draw {H H' : Hp} {h ls od : Addr} (x : I27 H h ls od) (no : od ∉ [h, ls]) (s : Stp [h, ls] H H') (n : NumAt H' h ls) : I27 H' h ls od := ⟨n, tab_ofE x.tb x.num s, s _ _ x.od no⟩
theorem I27.ntab {H : Hp} {h ls od : Addr} (x : I27 H h ls od) : od ≠ tabP := fun z => by
  obtain ⟨_, et, _⟩ := x.tb
  have := x.od
  rw [z, et] at this
  cases this
theorem fn_law (T : Tx w K mg) {fd : FuncData} (F : FunD K "law" "law" (defArgs s_law) (defBody s_law) (defScope s_law) [] [] (ga K "law") fd) : FnOk P w K mg base CX0 11 (ga K "law") fd ["_law_script"] (spLaw K) := by
  refine fn_mk F sc_law (fun vs H Q E h => ?_) (fun cdv A outer s H vs Q E hr h => ?_)
  · obtain ⟨a, xs, rfl, _⟩ := h
    rfl
  · obtain ⟨a, xs, rfl, ha, lx, tb, k⟩ := h
    have hu := hu_of hr
    refine ⟨_, (pss_cons (ps_set (i := 1) sc_law.nd rfl (Or.inl rfl) (pe_cg (M := ⟨P, w, K, mg, base⟩) rfl hr rfl (pa_cons (pv 0) (pa_cons pe_int pa_nil)))) (pss_cons (ps_set (i := 2) sc_law.nd rfl (Or.inl rfl) (pe_lst (pa_cons pe_str (pa_cons pe_str (pa_cons pe_str (pa_cons pe_str (pa_cons pe_str (pa_cons pe_str (pa_cons pe_str (pa_cons pe_str (pa_cons pe_str (pa_cons pe_str (pa_cons pe_str pa_nil))))))))))))) (pss_cons (ps_expr (pe_bm PySem.F.plainAttrs_list PySem.F.slot_list_append PySem.F.type_list_append mt_append (pv 2) (pa_cons pe_str pa_nil))) (pss_cons (ps_for PassesOwn.never rfl (pi_range1 rfl (z_range T) (pa_cons pe_int pa_nil)) (pg_name (i := 3) sc_law.nd rfl (Or.inl rfl)) (pss_cons (ps_set (i := 4) sc_law.nd rfl (Or.inl rfl) (pe_cg (M := ⟨P, w, K, mg, base⟩) rfl hr rfl (pa_cons (pe_ix ix_tup (pe_cg (M := ⟨P, w, K, mg, base⟩) rfl hr rfl (pa_cons (pv 1) (pa_cons pe_int pa_nil))) pe_int (fun _ _ => rfl)) pa_nil))) (pss_cons (ps_for PassesOwn.never rfl (pi_range1 rfl (z_range T) (pa_cons (pe_cg (M := ⟨P, w, K, mg, base⟩) rfl hr rfl (pa_cons (pv 1) (pa_cons pe_int pa_nil))) pa_nil)) (pg_name (i := 5) sc_law.nd rfl (Or.inl rfl)) (pss_one (ps_set (i := 4) sc_law.nd rfl (Or.inl rfl) (pe_cg (M := ⟨P, w, K, mg, base⟩) rfl hr rfl (pa_cons (pv 1) (pa_cons (pv 4) pa_nil)))))) (pss_one (ps_for PassesOwn.never rfl (pi_list (pe_lst (pa_cons (pv 4) (pa_cons (pe_ix ix_list (pv 2) (pe_cg (M := ⟨P, w, K, mg, base⟩) rfl hr rfl (pa_cons (pv 1) (pa_cons pe_int pa_nil))) (fun _ _ => rfl)) pa_nil)))) (pg_name (i := 6) sc_law.nd rfl (Or.inl rfl)) (pss_one (ps_for PassesOwn.never rfl (pi_range1 rfl (z_range T) (pa_cons pe_int pa_nil)) (pg_name (i := 7) sc_law.nd rfl (Or.inl rfl)) (pss_one (ps_if (pt_not (pt_val (pe_cg (M := ⟨P, w, K, mg, base⟩) rfl hr rfl (pa_cons (pe_cg (M := ⟨P, w, K, mg, base⟩) rfl hr rfl (pa_cons (pv 6) pa_nil)) (pa_cons (pe_cg (M := ⟨P, w, K, mg, base⟩) rfl hr rfl (pa_cons (pv 6) pa_nil)) pa_nil))))) (pss_one (ps_ret pe_bl)) pss_nil))))))))) (pss_one (ps_ret pe_bl)))))), ?_⟩
    refine ⟨_, _, _, _, g__law_mix T, ok__law_mix T, by decide, _, rfl, a, xs, 107, rfl, ha, lx, fun h ls H1 s1 nh nl num => ?_⟩
    have tb1 := tb.ext s1
    refine ⟨by show 11 ≤ sizeLine; decide, fun od hod => ?_⟩
    have num1 := num.same (same_new (o := .lst [V.str "", .str " ", .str "\n", .str "settle", .str "settle ", .str "settle\n", .str "say", .str "say p ", .str "num p 07", .str "last p", .str "last - p"]) hod)
    have nod := NumAt.fresh num hod
    have tb2 := tb1.ext (same_new (o := .lst [V.str "", .str " ", .str "\n", .str "settle", .str "settle ", .str "settle\n", .str "say", .str "say p ", .str "num p 07", .str "last p", .str "last - p"]) hod)
    have god : upd H1 od (.lst [V.str "", .str " ", .str "\n", .str "settle", .str "settle ", .str "settle\n", .str "say", .str "say p ", .str "num p 07", .str "last p", .str "last - p"]) od = some (.lst [V.str "", .str " ", .str "\n", .str "settle", .str "settle ", .str "settle\n", .str "say", .str "say p ", .str "num p 07", .str "last p", .str "last - p"]) := upd_same
    show tSeq _ _ _ _ (upd H1 od (.lst [V.str "", .str " ", .str "\n", .str "settle", .str "settle ", .str "settle\n", .str "say", .str "say p ", .str "num p 07", .str "last p", .str "last - p"]))
    generalize upd H1 od (.lst [V.str "", .str " ", .str "\n", .str "settle", .str "settle ", .str "settle\n", .str "say", .str "say p ", .str "num p 07", .str "last p", .str "last - p"]) = H2 at num1 tb2 god ⊢
    refine ⟨_, rfl, .inl ⟨rfl, _, SqL.of god⟩, od, _, _, rfl, rfl, god, szl (by show 11 ≤ 1000; decide), ?_⟩
    have eo : ([V.str "", V.str " ", V.str "\n", V.str "settle", V.str "settle ", V.str "settle\n", V.str "say", V.str "say p ", V.str "num p 07", V.str "last p", V.str "last - p"] ++ [V.str "put p - q"]) = oddS.map V.str := rfl
    rw [eo]
    have I0 : I27 (upd H2 od (.lst (oddS.map V.str))) h ls od := by
      obtain ⟨m, b, ys, e1, e2, ne, hx⟩ := id num1
      have o1 : h ≠ od := fun z => nod (z ▸ List.mem_cons_self)
      have o2 : ls ≠ od := fun z => nod (z ▸ List.mem_cons_of_mem _ List.mem_cons_self)
      obtain ⟨tp, te, tr⟩ := id tb2
      have o3 : tabP ≠ od := fun z => by rw [← z, te] at god; cases god
      exact ⟨⟨m, b, ys, by rw [upd_ne o1]; exact e1, by rw [upd_ne o2]; exact e2, ne, hx⟩, TabS_moved tb2 (tup_upd (by rw [god]; intro xs z; cases z; rfl)) (by rw [upd_ne o3]), upd_same⟩
    show tSeq _ _ _ _ (upd H2 od (.lst (oddS.map V.str)))
    generalize upd H2 od (.lst (oddS.map V.str)) = H3 at I0 ⊢
    clear tb2 god num1 hod tb1 num nh nl s1 eo tb
    refine ⟨4, rfl, by decide, by decide, ?_⟩
    refine for_it walk_range (fun i σ H' => ∃ (x3 x4 x5 x6 x7 : Option V), σ = [some (.ref a), some (.ref h), some (.ref od), x3, x4, x5, x6, x7] ∧ I27 H' h ls od) ⟨_, _, _, _, _, rfl, I0⟩ (fun _ _ _ _ _ => trivial) ?_ ?_
    · clear I0
      rintro i x σ G0 G1 hi ⟨x3, x4, x5, x6, x7, rfl, I1⟩ ⟨rfl, ex⟩
      refine ⟨_, _, _, _, g__law_text T, ok__law_text T, by decide, _, _, _, _, g__law_program T, ok__law_program T, by decide, _, rfl, h, ls, 20, rfl, I1.num, I1.tb, by omega, fun p H4 F m ps ds ts0 S OL n l A' C' run0 L4 st4 fr4 p0 F0 gp gF nF dp lp => ?_⟩
      refine ⟨p, _, 0, _, rfl, rfl, SqT.of gp, atI_nat (j := 0) rfl, ?_⟩
      have I4 : I27 H4 h ls od := by
        refine ⟨L4.num, ?_, st4 _ _ I1.od fun z => ?_⟩
        · obtain ⟨_, _, _, _, _, _, _, e7⟩ := id L4.lw
          exact e7.tb
        · rcases List.mem_cons.mp z with z | z
          · exact nod (z ▸ List.mem_cons_self)
          · rcases List.mem_cons.mp z with z | z
            · exact nod (z ▸ List.mem_cons_of_mem _ List.mem_cons_self)
            · exact I1.ntab (List.mem_singleton.mp z)
      have dok : ∀ d ∈ ds, d.ok := fun d hd => by
        obtain ⟨x, _, y⟩ := pair_right dp hd
        exact y.1
      have ld := Paired.length dp
      refine ⟨F, ps, ds, rfl, SqL.of gF, dp, by omega, fun H5 s5 => ?_⟩
      have I5 := I4.same s5
      have t0 : TextB (fN 0) (fM 0) (progS ds) := TextB.prog dok (by omega)
      generalize progS ds = x0 at t0 ⊢
      clear I4 dok ld dp gF gp L4 st4 fr4 run0 p0 F0 nF lp I1
      refine ⟨_, _, _, _, g__law_next T, ok__law_next T, by decide, _, rfl, h, ls, 4, rfl, I5.num, by decide, by decide, fun v H6 v0 v1 st6 n6 => ?_⟩
      obtain ⟨many, rfl⟩ := nat_of v0
      have I6 := I5.draw nod st6 n6
      clear I5 st6 n6
      refine ⟨(many : Int), rfl, by omega, by omega, ?_⟩
      have mn : (many : Int).toNat = many := by omega
      rw [mn]
      have m3 : many ≤ 3 := by omega
      refine for_it walk_range (fun i σ H' => ∃ (y : Str) (x3 x5 x6 x7 : Option V), σ = [some (.ref a), some (.ref h), some (.ref od), x3, some (.str y), x5, x6, x7] ∧ TextB (fN i) (fM i) y ∧ I27 H' h ls od) ⟨x0, _, _, _, _, rfl, t0, I6⟩ (fun _ _ _ _ _ => trivial) ?_ ?_
      · rintro c z σ K0 K1 hc ⟨y, x3, x5, x6, x7, rfl, ty, I7⟩ ⟨rfl, ez⟩
        obtain ⟨f1, f2, f3⟩ := f_few (show c < 3 by omega)
        refine ⟨_, _, _, _, g__law_changed T, ok__law_changed T, by decide, _, rfl, _, rfl, h, ls, y, fN c, fM c, rfl, I7.num, ty, f1, f2, f3, fun y2 H8 ty2 st8 n8 => ?_⟩
        exact ⟨y2, _, _, _, _, rfl, ty2, I7.draw nod st8 n8⟩
      · rintro σ K0 ⟨y, x3, x5, x6, x7, rfl, ty, I7⟩
        obtain ⟨f4, f5⟩ := f_all m3
        have ty := ty.mono f4 f5
        clear t0 I6 x0
        refine ⟨_, rfl, _, rfl, _, _, _, _, g__law_next T, ok__law_next T, by decide, _, rfl, h, ls, 12, rfl, I7.num, by decide, by decide, fun v H8 w0 w1 st8 n8 => ?_⟩
        obtain ⟨oj, rfl⟩ := nat_of w0
        have I8 := I7.draw nod st8 n8
        have ol : oddS.length = 12 := rfl
        obtain ⟨ow, how⟩ : ∃ ow, oddS[oj]? = some ow := ⟨_, List.getElem?_eq_getElem (by omega)⟩
        have to := odd_text ow (List.mem_of_getElem? how)
        refine ⟨od, _, (oj : Int), _, rfl, rfl, SqL.of I8.od, atI_nat (by rw [List.getElem?_map, how]; rfl), ?_⟩
        refine ⟨by show 2 ≤ sizeLine; decide, fun B hB => ?_⟩
        have I9 := I8.same (same_new (o := .lst [V.str y, V.str ow]) hB)
        have gB : upd H8 B (.lst [V.str y, V.str ow]) B = some (.lst [V.str y, V.str ow]) := upd_same
        have nB := NumAt.fresh I8.num hB
        generalize upd H8 B (.lst [V.str y, V.str ow]) = H9 at I9 gB ⊢
        clear I7 I8 st8 n8 hB
        refine ⟨B, rfl, ⟨_, SqL.of gB⟩, ?_⟩
        refine for_list (K := K) (a := B) (xs := [V.str y, V.str ow]) (fun i σ H' => ∃ (x3 x4 x5 x6 x7 : Option V), σ = [some (.ref a), some (.ref h), some (.ref od), x3, x4, x5, x6, x7] ∧ Same H9 H') ⟨_, _, _, _, _, rfl, Same.refl _⟩ (fun _ _ _ _ ⟨_, _, _, _, _, _, s⟩ => SqL.of (s _ _ gB)) ?_ ?_
        · rintro c z σ K2 hc ⟨x3, x4, x5, x6, x7, rfl, s1⟩
          obtain ⟨q, rfl, tq⟩ : ∃ q : Str, z = .str q ∧ TextB 5000 800 q := by
            have hz := List.mem_of_getElem? hc
            rcases List.mem_cons.mp hz with e | hz
            · exact ⟨y, e, ty⟩
            · exact ⟨ow, List.mem_singleton.mp hz, to⟩
          refine ⟨2, rfl, by decide, by decide, ?_⟩
          refine for_it walk_range (fun i σ H' => ∃ (x3 x4 x5 x7 : Option V), σ = [some (.ref a), some (.ref h), some (.ref od), x3, x4, x5, some (.str q), x7] ∧ Same H9 H') ⟨_, _, _, _, rfl, s1⟩ (fun _ _ _ _ _ => trivial) ?_ ?_
          · rintro c2 z2 σ K3 K4 hc2 ⟨x3, x4, x5, x7, rfl, s2⟩ ⟨rfl, ez2⟩
            rcases good_or_bad (progOf q) with ag | ⟨pl, fb⟩
            · refine ⟨_, _, _, _, g__law_alike T, ok__law_alike T 7, by decide, _, _, _, _, g__law_told T, ok__law_told T, by decide, _, rfl, q, rfl, tq, .inl ⟨ag, fun r1 ps1 K5 s3 nr1 gr1 pr1 => ?_⟩⟩
              refine ⟨_, _, _, _, g__law_due T, ok__law_due T, by decide, _, rfl, q, rfl, tq, .inl ⟨ag, fun r2 ps2 K6 s4 nr2 gr2 pr2 => ?_⟩⟩
              refine ⟨.ref r1, .ref r2, _, rfl, (rep_prog tq (s4 _ _ gr1) (Paired.imp (fun _ _ z => s4 _ _ z) pr1) ag.1).le (by decide), (rep_prog tq gr2 pr2 ag.1).le (by decide), fun K7 s5 => ?_⟩
              exact ⟨_, rfl, if_f rfl ⟨_, _, _, _, rfl, ((s2.trans s3).trans s4).trans s5⟩⟩
            · refine ⟨_, _, _, _, g__law_alike T, ok__law_alike T 7, by decide, _, _, _, _, g__law_told T, ok__law_told T, by decide, _, rfl, q, rfl, tq, .inr ⟨pl, fb, fun K5 s3 => ?_⟩⟩
              refine ⟨_, _, _, _, g__law_due T, ok__law_due T, by decide, _, rfl, q, rfl, tq, .inr ⟨pl, fb, fun K6 s4 => ?_⟩⟩
              refine ⟨.int (pl : Int), .int (pl : Int), .int (pl : Int), rfl, rfl, rfl, fun K7 s5 => ?_⟩
              exact ⟨_, rfl, if_f rfl ⟨_, _, _, _, rfl, ((s2.trans s3).trans s4).trans s5⟩⟩
          · rintro σ K3 ⟨x3, x4, x5, x7, rfl, s2⟩
            exact ⟨_, _, _, _, _, rfl, s2⟩
        · rintro σ K2 ⟨x3, x4, x5, x6, x7, rfl, s1⟩
          exact ⟨_, _, _, _, _, rfl, I9.same s1⟩
    · rintro σ K0 ⟨x3, x4, x5, x6, x7, rfl, _⟩
      exact k K0
end
end WK
namespace WK
open PySem PySem.Spec PyProof.Rows L2 He WB
/-- the end: what the head tells, the law's promise from it -/
theorem ends {l : PySem.W.OpenLaw} {n : Nat} {q : Program} {loose : List Str} {XP : (Str → Option Value) → Heap → Prop} {YP : World → Heap → Prop} {d : DefRec} {x : Str} {k : Nat} (hn : l.most = some n) (sz : n ≤ sizeLine) (nod : d.params.defaults = []) (room : Room k callerA)
    (say : ∀ (w : World) (mg : Str → Option Value) (f : Addr) (h : Heap), YP w h → h.Ns mainGlobals mg → mg d.name = some (.ref f) → ∃ K : PySem.W.Frag, K.In h ∧ LamX.LawAtS l w K CX0 k n x mg f h) : PySem.W.WalkO q loose XP YP l.row.toRowW d [] (fun f vs => PySem.call f vs) := by
  refine Att.attach_callB hn nod ?_
  intro w s0 s1 mg mb f o pm cd doc a vs ns G Y e1 e2 e3 e4 e5 e6 e7 e8 e9
  obtain ⟨K, inK, r⟩ := say w mg f _ Y G.T.g e4
  obtain ⟨fd, cs, sp, r1, r2, r3, r4, r5, r6⟩ := r
  refine LamX.law_callTs inK G.T.g G.T.b G.T.builtins G.T.nolimit e9 r1 r2 r3 G.T.bmain e5 e6 (Nat.le_trans e7 sz) room r6 r4 ?_ ?_
  · exact fun H t z => r5 H a ns e7 e8 t z
  · exact fun _ _ _ z => z
theorem at_end {w : World} {K : PySem.W.Frag} {mg : Str → Option Value} {f : Addr} {h : Heap} (X : K.In h) (G : h.Ns mainGlobals mg) (c : SaysW fa fn ts fx w K) (e : TabsE tl K h) (hf : mg ("law" : Str) = some (.ref f)) : LamX.LawAtS PySem.Challenge.rw_whokeeps_k27_texts_that_tell_no_program w K CX0 11 63 "_law_script" mg f h := by
  have T : Tx w K mg := ⟨c, h, X, G⟩
  have ef := hf.symm.trans (g_law T)
  cases ef
  obtain ⟨fd, F⟩ := f_law T
  have b := FunD.bindsA (ps := ["_law_script"]) F fun _ _ _ _ _ _ us hl => match us, hl with | [_], _ => rfl
  obtain ⟨t1, t2⟩ := e 215 List.mem_cons_self
  have one : ∀ {Z : Addr × Addr → Prop}, Z (codeOf K ("_law_parts", none), 215) → ∀ p ∈ [(codeOf K ("_law_parts", none), 215)], Z p := fun z p hp => List.mem_singleton.mp hp ▸ z
  refine ⟨fd, [(codeOf K ("_law_parts", none), 215)], spLaw K, one t2, one t1, one ?_, fun s v => b s [v] rfl, ?_, ?_⟩
  · exact PySem.W.codeHd_of_K X (ba (x_lam__law_parts T)).1
  · intro H a ns hl _ t z
    exact ⟨a, ns, rfl, z, Nat.le_trans hl (by decide), LamX.TabS.nil (t (codeOf K ("_law_parts", none), 215) List.mem_cons_self), fun _ => rfl⟩
  · exact fun base _ _ _ => fn_law T F
end WK
open PySem PySem.W PySem.Calls PyProof.Rows
theorem PySem.Challenge.cw_whokeeps_k27_texts_that_tell_no_program_holds : PySem.Challenge.rw_whokeeps_k27_texts_that_tell_no_program.Holds := by
  w_on; o_law
  refine HandSHeadRun.head_any (r := WK.R) (q := view WK.R.prog [55]) (H := WK.hk) (ob := WK.ob) (M := 12000) (loose := WK.loose) (d := HandSHeadRun.topDef WK.R.prog 55) (kwd := []) WK.ob_eq
    (by kernel_rfl) (fun s => by kernel_rfl) WK.run (by kernel_rfl) (by kernel_rfl) (by kernel_rfl) (by rfl) (by first | assumption | decide +kernel) (by decide +kernel) ⟨rfl, rfl, rfl, rfl, rfl, by decide +kernel⟩ ?hw ?hc
  case hw => w_witness2
  case hc =>
    refine WK.ends (l := PySem.Challenge.rw_whokeeps_k27_texts_that_tell_no_program) (n := 63) (k := 11) (x := "_law_script") rfl (by decide) (by kernel_rfl) ⟨rfl, by decide, by decide⟩ ?F
    intro w mg f h Y G e
    obtain ⟨K, X, c, t⟩ := Y
    have nm : (HandSHeadRun.topDef WK.R.prog 55).name = ("law" : PySem.Str) := by kernel_rfl
    rw [nm] at e
    exact ⟨K, X, WK.at_end X G c t e⟩
